import Derived.Lib.Bytealg
import Derived.Lib.TrimByte
import Derived.Lib.Small
import Derived.Shelf.SlSortCmp.NoneTotal
import Derived.Lib.DecodeNEq
import Derived.Lib.ItoaNum
import Derived.Test.YtbgnflcebafjjaaGreatDoorProg
import Derived.WalkKit
import Derived.WalkSpells
import Derived.WalkLawsBesides
import Derived.Deep.QuietTactic
import Derived.BigQuiet
import Derived.Lib.SmallJoins
namespace Go.Proofs.YtbgnflcebafjjaaGreatDoor
set_option linter.unusedVariables false
structure V where
 major:Int
 minor:Int
 patch:Int
 pre:List UInt8
set_option linter.unusedVariables false
def runN (p:UInt8->Bool) (l:List UInt8) (i:Nat):Nat:=((l.drop i).takeWhile p).length
def subT (l:List UInt8) (i k:Nat):List UInt8:=(l.drop i).take k
set_option linter.unusedVariables false
def nx (l:List UInt8) (i:Nat):Int:=match l[i]? with | some c=>(c.toNat:Int) | none=>-1
theorem nx_at (l:List UInt8) (i:Nat) (h:i < l.length):nx l i=(l[i].toNat:Int):=by simp [nx,List.getElem?_eq_getElem h]
theorem nx_end (l:List UInt8) (i:Nat) (h:l.length<=i):nx l i=-1:=by simp [nx,List.getElem?_eq_none h]
theorem nx_lt {l:List UInt8} {i:Nat} (h:0<=nx l i):i < l.length:=by
 apply Classical.byContradiction
 intro hn
 rw [nx_end l i (by omega)] at h
 exact absurd h (by decide)
theorem nx_bound (l:List UInt8) (i:Nat):-1<=nx l i/\nx l i < 256:=by
 by_cases h:i < l.length
 ·rw [nx_at l i h]
  have:=l[i].toNat_lt
  omega
 ·rw [nx_end l i (by omega)];decide
def toR (p:Int->Bool) (l:List UInt8) (i:Nat):Nat:=i+runN (fun c=>p (c.toNat:Int)) l i
theorem toR_step (p:Int->Bool) (l:List UInt8) (i:Nat) (hi:i < l.length) (h:p (nx l i)=true):toR p l i=toR p l (i+1):=by
 rw [nx_at l i hi] at h
 unfold toR runN
 rw [List.drop_eq_getElem_cons hi,List.takeWhile_cons]
 simp only [h,if_true,List.length_cons]
 omega
theorem toR_stop (p:Int->Bool) (l:List UInt8) (i:Nat) (h:p (nx l i)=false):toR p l i=i:=by
 unfold toR runN
 by_cases hi:i < l.length
 ·rw [nx_at l i hi] at h
  rw [List.drop_eq_getElem_cons hi,List.takeWhile_cons]
  simp [h]
 ·rw [List.drop_eq_nil_of_le (by omega)];simp
theorem toR_le (p:Int->Bool) (l:List UInt8) (i:Nat) (hi:i<=l.length):i<=toR p l i/\toR p l i<=l.length:=by
 unfold toR runN
 have h1:=(List.takeWhile_sublist (fun c:UInt8=>p (c.toNat:Int)) (l:=l.drop i)).length_le
 rw [List.length_drop] at h1
 omega
def isBl (c:Int):Bool:=decide (c=32\/c=9)
def isDg (c:Int):Bool:=decide (48<=c/\c<=57)
def isSm (c:Int):Bool:=decide (97<=c/\c<=122)
def isBa (c:Int):Bool:=isSm c || decide (65<=c/\c<=90) || isDg c || decide (c=95) || decide (c=45)
def isCt (c:Int):Bool:=decide ((0<=c/\c < 32)\/c=127)
def isBr (c:Int):Bool:=isCt c && decide (c ≠ 9)
def inC (c:Int):Bool:=decide (c ≠ 10) && !isBr c
def cmt (l:List UInt8) (i:Nat):Bool × Nat:=if nx l i=35 then (if nx l (toR inC l i)=10\/nx l (toR inC l i)=-1 then (true,toR inC l i) else (false,toR inC l i)) else (true,i)
theorem cmt_no (l:List UInt8) (i:Nat) (h:¬ nx l i=35):cmt l i=(true,i):=by unfold cmt;rw [if_neg h]
def bl (l:List UInt8) (i:Nat):Nat:=toR isBl l i
set_option linter.unusedVariables false
structure Tn where
 kd:Int
 ky:List UInt8
 tx:List UInt8
 nu:Int
 ks:List Nat
 pl:Nat
abbrev Rs (α:Type):=Except (Int × Nat) α
def hexV (c:Int):Int:=if isDg c=true then c - 48 else if 97<=c/\c<=102 then c - 87 else if 65<=c/\c<=70 then c - 55 else -1
def four (l:List UInt8):Nat->Nat->Nat->Rs (Nat × Nat)
 | 0,i,n=>.ok (n,i)
 | k+1,i,n=>if hexV (nx l i) < 0 then .error (2,i) else four l k (i+1) (16 * n+(hexV (nx l i)).toNat)
def wrt (n:Nat):List UInt8:=if n < 128 then [UInt8.ofNat n] else if n < 2048 then [UInt8.ofNat (192+n / 64),UInt8.ofNat (128+n % 64)] else [UInt8.ofNat (224+n / 4096),UInt8.ofNat (128+n / 64 % 64),UInt8.ofNat (128+n % 64)]
def esc (l:List UInt8) (i:Nat):Rs (List UInt8 × Nat) :=
 if nx l (i+1)=117 then
  match four l 4 (i+2) 0 with
  | .error e=>.error e
  | .ok (n,j)=>if 55296<=n/\n<=57343 then .error (2,i) else .ok (wrt n,j)
 else if nx l (i+1)=98 then .ok ([8],i+2)
 else if nx l (i+1)=116 then .ok ([9],i+2)
 else if nx l (i+1)=110 then .ok ([10],i+2)
 else if nx l (i+1)=102 then .ok ([12],i+2)
 else if nx l (i+1)=114 then .ok ([13],i+2)
 else if nx l (i+1)=34 then .ok ([34],i+2)
 else if nx l (i+1)=92 then .ok ([92],i+2)
 else .error (2,i+1)
def goesB (l:List UInt8) (i:Nat) (lo hi:Int):Bool:=decide (lo<=nx l i/\nx l i<=hi)
def seqN (l:List UInt8) (i:Nat):Nat :=
 let c:=nx l i
 if c < 0 then 0
 else if c < 128 then 1
 else if c < 194\/244 < c then 0
 else if goesB l (i+1) (if c=224 then 160 else if c=240 then 144 else 128) (if c=237 then 159 else if c=244 then 143 else 191)=false then 0
 else if c < 224 then 2
 else if goesB l (i+2) 128 191=false then 0
 else if c < 240 then 3
 else if goesB l (i+3) 128 191=false then 0
 else 4
def str (l:List UInt8):Nat->Nat->List UInt8->Rs (List UInt8 × Nat)
 | 0,i,_=>.error (2,i)
 | f+1,i,acc =>
  if nx l i=34 then .ok (acc,i+1)
  else if nx l i=92 then
   match esc l i with
   | .error e=>.error e
   | .ok (b,j)=>str l f j (acc++b)
  else if nx l i=-1\/isBr (nx l i)=true then .error (2,i)
  else if seqN l i=0 then .error (2,i)
  else str l f (i+seqN l i) (acc++subT l i (seqN l i))
def rdKey (l:List UInt8) (i:Nat):Rs (List UInt8 × Nat) :=
 if nx l i=34 then str l (l.length+1) (i+1) []
 else if toR isBa l i=i then .error (2,i)
 else .ok (subT l i (toR isBa l i - i),toR isBa l i)
def digN:List UInt8->Nat->Nat
 | [],n=>n
 | c :: r,n=>digN r (10 * n+(c.toNat - 48))
def rdInt (l:List UInt8) (i:Nat):Rs (Int × Nat) :=
 let a:=if isDg (nx l i)=true then i else i+1
 let j:=toR isDg l a
 if j=a\/(1 < j - a/\nx l a=48) then .error (2,a)
 else if 18 < j - a then .error (3,i)
 else .ok (if nx l i=45 then -(digN (subT l a (j - a)) 0:Int) else (digN (subT l a (j - a)) 0:Int),j)
def rdTru (l:List UInt8) (i:Nat):Rs (Int × Nat) :=
 let j:=toR isSm l i
 if subT l i (j - i)=[116,114,117,101] then .ok (1,j)
 else if subT l i (j - i)=[102,97,108,115,101] then .ok (0,j)
 else .error (2,i)
def addN (ns:List Tn) (up:Nat) (n:Tn):List Tn:=(match ns[up]? with | some u=>ns.set up { u with ks:=u.ks++[ns.length] } | none=>ns)++[n]
def gap (l:List UInt8):Nat->Nat->Rs Nat
 | 0,i=>.error (2,i)
 | f+1,i =>
  let j:=bl l i
  if (cmt l j).1=false then .error (2,(cmt l j).2)
  else if nx l (cmt l j).2=10 then gap l f ((cmt l j).2+1)
  else .ok (cmt l j).2
mutual
def val (l:List UInt8):Nat->Nat->Nat->List UInt8->Nat->Nat->List Tn->Rs (Nat × List Tn)
 | 0,i,_,_,_,_,_=>.error (2,i)
 | f+1,i,up,k,p,d,ns =>
  if nx l i=34 then
   match str l (l.length+1) (i+1) [] with
   | .error e=>.error e
   | .ok (t,j)=>.ok (j,addN ns up ⟨3,k,t,0,[],p⟩)
  else if nx l i=43\/nx l i=45\/isDg (nx l i)=true then
   match rdInt l i with
   | .error e=>.error e
   | .ok (n,j)=>.ok (j,addN ns up ⟨4,k,[],n,[],p⟩)
  else if nx l i=116\/nx l i=102 then
   match rdTru l i with
   | .error e=>.error e
   | .ok (n,j)=>.ok (j,addN ns up ⟨5,k,[],n,[],p⟩)
  else if nx l i=91 then
   if d=8 then .error (4,i)
   else lst l f (i+1) ns.length (d+1) (addN ns up ⟨1,k,[],0,[],p⟩)
  else .error (2,i)
def lst (l:List UInt8):Nat->Nat->Nat->Nat->List Tn->Rs (Nat × List Tn)
 | 0,i,_,_,_=>.error (2,i)
 | f+1,i,up,d,ns =>
  match gap l (l.length+1) i with
  | .error e=>.error e
  | .ok j =>
   if nx l j=93 then .ok (j+1,ns)
   else
    match val l f j up [] j d ns with
    | .error e=>.error e
    | .ok (j1,ns1) =>
     match gap l (l.length+1) j1 with
     | .error e=>.error e
     | .ok j2 =>
      if nx l j2=44 then lst l f (j2+1) up d ns1
      else if nx l j2=93 then .ok (j2+1,ns1)
      else .error (2,j2)
end
def kidO (ns:List Tn) (t:Nat) (k:List UInt8):Option Nat:=match ns[t]? with | some u=>u.ks.find? (fun q=>match ns[q]? with | some x=>decide (x.ky=k) | none=>false) | none=>none
def kdAt (ns:List Tn) (t:Nat):Int:=match ns[t]? with | some u=>u.kd | none=>-1
def stp (ns:List Tn) (t:Nat) (k:List UInt8) (p:Nat):Rs (Nat × List Tn) :=
 match kidO ns t k with
 | none=>.ok (ns.length,addN ns t ⟨0,k,[],0,[],p⟩)
 | some q=>if kdAt ns q=0 then .ok (q,ns) else if kdAt ns q=2 then (match ns[q]? with | some u=>.ok (u.ks.getLastD 0,ns) | none=>.error (5,p)) else .error (5,p)
def endT (ns:List Tn) (own:List Nat) (t:Nat) (k:List UInt8) (p:Nat):Rs (Nat × List Tn) :=
 match kidO ns t k with
 | none=>.ok (ns.length,addN ns t ⟨0,k,[],0,[],p⟩)
 | some q=>if kdAt ns q=0/\¬ q ∈ own then .ok (q,ns) else .error (5,p)
def endL (ns:List Tn) (t:Nat) (k:List UInt8) (p:Nat):Rs (Nat × List Tn) :=
 match kidO ns t k with
 | none=>.ok (ns.length+1,addN (addN ns t ⟨2,k,[],0,[],p⟩) ns.length ⟨0,[],[],0,[],p⟩)
 | some q=>if kdAt ns q=2 then .ok (ns.length,addN ns q ⟨0,[],[],0,[],p⟩) else .error (5,p)
def way (many:Bool) (own:List Nat):List (List UInt8 × Nat)->Nat->List Tn->Rs (Nat × List Tn)
 | [],t,ns=>.ok (t,ns)
 | [(k,p)],t,ns=>if many=true then endL ns t k p else endT ns own t k p
 | (k,p) :: r,t,ns =>
  match stp ns t k p with
  | .error e=>.error e
  | .ok (t1,ns1)=>way many own r t1 ns1
def hdK (l:List UInt8):Nat->Nat->List (List UInt8 × Nat)->Rs (List (List UInt8 × Nat) × Nat)
 | 0,i,_=>.error (2,i)
 | f+1,i,acc =>
  match rdKey l (bl l i) with
  | .error e=>.error e
  | .ok (k,j)=>if nx l (bl l j)=46 then hdK l f (bl l j+1) (acc++[(k,bl l i)]) else .ok (acc++[(k,bl l i)],bl l j)
structure Sd where
 i:Nat
 ns:List Tn
 own:List Nat
 now:Nat
def must (l:List UInt8) (i:Nat) (c:Int):Rs Nat:=if nx l i=c then .ok (i+1) else .error (2,i)
def rdHead (l:List UInt8) (s:Sd):Rs Sd :=
 let many:Bool:=decide (nx l (s.i+1)=91)
 match hdK l (l.length+1) (if many=true then s.i+2 else s.i+1) [] with
 | .error e=>.error e
 | .ok (ks,j) =>
  match must l j 93 with
  | .error e=>.error e
  | .ok j1 =>
   match (if many=true then must l j1 93 else .ok j1) with
   | .error e=>.error e
   | .ok j2 =>
    match way many s.own ks 0 s.ns with
    | .error e=>.error e
    | .ok (t,ns)=>.ok ⟨j2,ns,t :: s.own,t⟩
def rdPair (l:List UInt8) (s:Sd):Rs Sd :=
 match rdKey l s.i with
 | .error e=>.error e
 | .ok (k,j) =>
  match must l (bl l j) 61 with
  | .error e=>.error e
  | .ok j1 =>
   match kidO s.ns s.now k with
   | some _=>.error (5,s.i)
   | none =>
    match val l (2 * l.length+2) (bl l j1) s.now k s.i 0 s.ns with
    | .error e=>.error e
    | .ok (j2,ns)=>.ok ⟨j2,ns,s.own,s.now⟩
def rdLine (l:List UInt8) (s0:Sd):Rs Sd :=
 let s:Sd:=⟨bl l s0.i,s0.ns,s0.own,s0.now⟩
 match (if nx l s.i=91 then rdHead l s else if nx l s.i=34\/isBa (nx l s.i)=true then rdPair l s else .ok s) with
 | .error e=>.error e
 | .ok s1 =>
  if (cmt l (bl l s1.i)).1=false then .error (2,(cmt l (bl l s1.i)).2)
  else if nx l (cmt l (bl l s1.i)).2=-1 then .ok ⟨(cmt l (bl l s1.i)).2,s1.ns,s1.own,s1.now⟩
  else match must l (cmt l (bl l s1.i)).2 10 with
   | .error e=>.error e
   | .ok j=>.ok ⟨j,s1.ns,s1.own,s1.now⟩
def rdAll (l:List UInt8):Nat->Sd->Rs Sd
 | 0,s=>.ok s
 | f+1,s=>if l.length<=s.i then .ok s else match rdLine l s with | .error e=>.error e | .ok s1=>rdAll l f s1
def rdToml (l:List UInt8):Rs (List Tn) :=
 if 100000 < l.length then .error (1,0)
 else match rdAll l (l.length+1) ⟨0,[⟨0,[],[],0,[],0⟩],[],0⟩ with
  | .error e=>.error e
  | .ok s=>.ok s.ns
set_option linter.unusedVariables false
def ksAt (ns:List Tn) (p:Nat):List Nat:=match ns[p]? with | some u=>u.ks | none=>[]
def kyB (ns:List Tn) (k:List UInt8) (q:Nat):Bool:=match ns[q]? with | some x=>decide (x.ky=k) | none=>false
theorem kidO_eq (ns:List Tn) (t:Nat) (k:List UInt8):kidO ns t k=(ksAt ns t).find? (kyB ns k):=by
 unfold kidO ksAt
 cases ns[t]? <;> rfl
theorem addN_form (ns:List Tn) (up:Nat) (n:Tn):∃X:List Tn,X.length=ns.length/\∀m,addN ns up m=X++[m]:=by
 unfold addN
 cases h:ns[up]? with
 | none=>exact ⟨ns,rfl,fun _=>rfl⟩
 | some u=>exact ⟨ns.set up { u with ks:=u.ks++[ns.length] },by simp,fun _=>rfl⟩
theorem addN_len (ns:List Tn) (up:Nat) (n:Tn):(addN ns up n).length=ns.length+1:=by
 obtain ⟨X,h1,h2⟩:=addN_form ns up n
 rw [h2];simp [h1]
theorem addN_put (ns:List Tn) (up:Nat) (n m:Tn):(addN ns up n).set ns.length m=addN ns up m:=by
 obtain ⟨X,h1,h2⟩:=addN_form ns up n
 rw [h2,h2,<-h1];simp
theorem addN_at (ns:List Tn) (up:Nat) (n:Tn) (hu:up < ns.length) (i:Nat):(addN ns up n)[i]?=if i=ns.length then some n else if i=up then some { ns[up] with ks:=ns[up].ks++[ns.length] } else ns[i]?:=by
 unfold addN
 rw [List.getElem?_eq_getElem hu]
 simp only []
 by_cases h:i=ns.length
 ·rw [if_pos h,h,List.getElem?_append_right (by simp)];simp
 ·rw [if_neg h]
  by_cases hl:i < ns.length
  ·rw [List.getElem?_append_left (by simpa using hl)]
   by_cases hup:i=up
   ·subst hup;rw [if_pos rfl,List.getElem?_set_self hl]
   ·rw [if_neg hup,List.getElem?_set_ne (fun e=>hup e.symm)]
  ·rw [List.getElem?_append_right (by simp;omega),if_neg (by omega),List.getElem?_eq_none (l:=ns) (by omega)]
   rw [List.getElem?_eq_none];simp;omega
theorem ksAt_addN (ns:List Tn) (up:Nat) (n:Tn) (hu:up < ns.length) (p:Nat):ksAt (addN ns up n) p=if p=ns.length then n.ks else if p=up then ksAt ns up++[ns.length] else ksAt ns p:=by
 unfold ksAt
 rw [addN_at ns up n hu]
 by_cases h:p=ns.length
 ·simp only [if_pos h]
 ·rw [if_neg h,if_neg h]
  by_cases h2:p=up
  ·rw [if_pos h2,if_pos h2,List.getElem?_eq_getElem hu]
  ·rw [if_neg h2,if_neg h2]
theorem kdAt_addN (ns:List Tn) (up:Nat) (n:Tn) (hu:up < ns.length) (p:Nat):kdAt (addN ns up n) p=if p=ns.length then n.kd else kdAt ns p:=by
 unfold kdAt
 rw [addN_at ns up n hu]
 by_cases h:p=ns.length
 ·simp only [if_pos h]
 ·rw [if_neg h,if_neg h]
  by_cases h2:p=up
  ·subst h2;rw [if_pos rfl,List.getElem?_eq_getElem hu]
  ·rw [if_neg h2]
theorem kyB_addN (ns:List Tn) (up:Nat) (n:Tn) (hu:up < ns.length) (k:List UInt8) (q:Nat):kyB (addN ns up n) k q=if q=ns.length then decide (n.ky=k) else kyB ns k q:=by
 unfold kyB
 rw [addN_at ns up n hu]
 by_cases h:q=ns.length
 ·simp only [if_pos h]
 ·rw [if_neg h,if_neg h]
  by_cases h2:q=up
  ·subst h2;rw [if_pos rfl,List.getElem?_eq_getElem hu]
  ·rw [if_neg h2]
structure WF (ns:List Tn) (own:List Nat):Prop where
 par:∀p p' q,q ∈ ksAt ns p->q ∈ ksAt ns p'->p=p'
 lt:∀p q,q ∈ ksAt ns p->q < ns.length
 own:∀q ∈ own,q < ns.length
 len:∀p,(ksAt ns p).length<=ns.length
theorem ksAt_out (ns:List Tn) (p:Nat) (h:ns.length<=p):ksAt ns p=[]:=by
 unfold ksAt;rw [List.getElem?_eq_none h]
theorem find_cong {α:Type} {p q:α->Bool}:∀(l:List α),(∀x ∈ l,p x=q x)->l.find? p=l.find? q
 | [],_=>rfl
 | a :: r,h=>by
  rw [List.find?_cons,List.find?_cons,h a (by simp),find_cong r fun x hx=>h x (by simp [hx])]
theorem kidO_addN (ns:List Tn) (own:List Nat) (up:Nat) (n:Tn) (hn:n.ks=[]) (hu:up < ns.length) (W:WF ns own) (t:Nat) (k:List UInt8) :
  kidO (addN ns up n) t k=if t=up then (match kidO ns up k with | some q=>some q | none=>if n.ky=k then some ns.length else none) else if t=ns.length then none else kidO ns t k:=by
 have hc:∀p,(ksAt ns p).find? (kyB (addN ns up n) k)=kidO ns p k:=fun p=>by
  rw [kidO_eq]
  refine find_cong _ fun x hx=>?_
  have:=W.lt p x hx
  rw [kyB_addN ns up n hu,if_neg (by omega)]
 rw [kidO_eq,ksAt_addN ns up n hu]
 by_cases h1:t=up
 ·subst h1
  rw [if_neg (by omega),if_pos rfl,if_pos rfl,List.find?_append,hc]
  cases kidO ns t k with
  | some q=>rfl
  | none =>
   simp only [Option.none_or,List.find?_cons,kyB_addN ns t n hu,if_true,List.find?_nil]
   by_cases hk:n.ky=k
   ·rw [if_pos hk,decide_eq_true hk]
   ·rw [if_neg hk,decide_eq_false hk]
 ·rw [if_neg h1,if_neg h1]
  by_cases h2:t=ns.length
  ·rw [if_pos h2,if_pos h2,hn];rfl
  ·rw [if_neg h2,if_neg h2,hc]
def hold (ns:List Tn) (own:List Nat) (t:Nat) (k:List UInt8):Option (Nat × Bool):=if kdAt ns t=0 then (kidO ns t k).map fun q=>(q,decide (q ∈ own)) else none
def putF (f:Nat->List UInt8->Option (Nat × Bool)) (t:Nat) (k:List UInt8) (v:Nat × Bool):Nat->List UInt8->Option (Nat × Bool):=fun t' k'=>if t'=t/\k'=k then some v else f t' k'
theorem kidO_mem {ns:List Tn} {t q:Nat} {k:List UInt8} (h:kidO ns t k=some q):q ∈ ksAt ns t/\kyB ns k q=true:=by
 rw [kidO_eq] at h
 exact ⟨List.mem_of_find?_eq_some h,List.find?_some h⟩
theorem hold_add_table (ns:List Tn) (own:List Nat) (up:Nat) (n:Tn) (hn:n.ks=[]) (hu:up < ns.length) (W:WF ns own) (h0:kdAt ns up=0) (hno:kidO ns up n.ky=none):hold (addN ns up n) own=putF (hold ns own) up n.ky (ns.length,false):=by
 funext t k
 unfold putF hold
 rw [kdAt_addN ns up n hu,kidO_addN ns own up n hn hu W]
 by_cases h1:t=up
 ·subst h1
  have hne:¬ t=ns.length:=by omega
  simp only [if_neg hne,if_pos h0,true_and,if_true]
  by_cases hk:k=n.ky
  ·subst hk
   rw [hno]
   simp only [if_true,Option.map_some]
   rw [decide_eq_false (fun hm=>by have:=W.own _ hm;omega)]
  ·have hk':¬ n.ky=k:=fun e=>hk e.symm
   simp only [if_neg hk]
   cases kidO ns t k with
   | some q=>rfl
   | none=>simp only [if_neg hk']
 ·have h1':¬ (t=up/\k=n.ky):=fun h=>h1 h.1
  simp only [if_neg h1,if_neg h1']
  by_cases h2:t=ns.length
  ·have:kidO ns t k=none:=by rw [kidO_eq,ksAt_out ns t (by omega)];rfl
   rw [this];simp only [if_pos h2];simp
  ·simp only [if_neg h2]
theorem hold_add_other (ns:List Tn) (own:List Nat) (up:Nat) (n:Tn) (hn:n.ks=[]) (hu:up < ns.length) (W:WF ns own) (h0:¬ kdAt ns up=0):hold (addN ns up n) own=hold ns own:=by
 funext t k
 unfold hold
 rw [kdAt_addN ns up n hu,kidO_addN ns own up n hn hu W]
 by_cases h1:t=up
 ·subst h1
  have hne:¬ t=ns.length:=by omega
  simp only [if_neg hne,if_neg h0]
 ·simp only [if_neg h1]
  by_cases h2:t=ns.length
  ·have:kidO ns t k=none:=by rw [kidO_eq,ksAt_out ns t (by omega)];rfl
   rw [this];simp only [if_pos h2];simp
  ·simp only [if_neg h2]
theorem wf_add (ns:List Tn) (own:List Nat) (up:Nat) (n:Tn) (hn:n.ks=[]) (hu:up < ns.length) (W:WF ns own):WF (addN ns up n) own:=by
 have hk:∀p q,q ∈ ksAt (addN ns up n) p->(q=ns.length/\p=up)\/(q ∈ ksAt ns p/\q < ns.length):=fun p q h=>by
  rw [ksAt_addN ns up n hu] at h
  by_cases h1:p=ns.length
  ·rw [if_pos h1,hn] at h;simp at h
  ·rw [if_neg h1] at h
   by_cases h2:p=up
   ·subst h2
    rw [if_pos rfl] at h
    rcases List.mem_append.1 h with h | h
    ·exact Or.inr ⟨h,W.lt _ _ h⟩
    ·exact Or.inl ⟨by simpa using h,rfl⟩
   ·rw [if_neg h2] at h
    exact Or.inr ⟨h,W.lt _ _ h⟩
 refine ⟨fun p p' q h h'=>?_,fun p q h=>?_,fun q h=>?_,fun p=>?_⟩
 ·rcases hk p q h with ⟨e1,e2⟩ | ⟨e1,e2⟩ <;> rcases hk p' q h' with ⟨e3,e4⟩ | ⟨e3,e4⟩
  ·rw [e2,e4]
  ·omega
  ·omega
  ·exact W.par p p' q e1 e3
 ·rw [addN_len]
  rcases hk p q h with ⟨e1,e2⟩ | ⟨e1,e2⟩ <;> omega
 ·rw [addN_len]
  have:=W.own q h
  omega
 ·rw [addN_len,ksAt_addN ns up n hu]
  have h1:=W.len p
  have h2:=W.len up
  split
  ·rw [hn];simp
  ·split
   ·simp;omega
   ·omega
theorem hold_end (ns:List Tn) (own:List Nat) (W:WF ns own) (t q:Nat) (k:List UInt8) (h0:kdAt ns t=0) (h:kidO ns t k=some q):hold ns (q :: own)=putF (hold ns own) t k (q,true):=by
 funext t' k'
 unfold putF hold
 obtain ⟨hm,hy⟩:=kidO_mem h
 by_cases h1:t'=t/\k'=k
 ·rw [if_pos h1,h1.1,h1.2,if_pos h0,h];simp
 ·rw [if_neg h1]
  by_cases h2:kdAt ns t'=0
  ·rw [if_pos h2,if_pos h2]
   cases hq:kidO ns t' k' with
   | none=>rfl
   | some q' =>
    obtain ⟨hm',hy'⟩:=kidO_mem hq
    have hne:¬ q'=q:=fun e=>by
     subst e
     have e1:=W.par _ _ _ hm' hm
     unfold kyB at hy hy'
     cases hx:ns[q']? with
     | none=>rw [hx] at hy;cases hy
     | some x =>
      rw [hx] at hy hy'
      exact h1 ⟨e1,(of_decide_eq_true hy').symm.trans (of_decide_eq_true hy)⟩
    simp [hne]
  ·rw [if_neg h2,if_neg h2]
theorem hold_end_list (ns:List Tn) (own:List Nat) (W:WF ns own) (t q:Nat) (h0:¬ kdAt ns t=0) (h:q ∈ ksAt ns t):hold ns (q :: own)=hold ns own:=by
 funext t' k'
 unfold hold
 by_cases h2:kdAt ns t'=0
 ·rw [if_pos h2,if_pos h2]
  cases hq:kidO ns t' k' with
  | none=>rfl
  | some q' =>
   obtain ⟨hm',hy'⟩:=kidO_mem hq
   have hne:¬ q'=q:=fun e=>by
    subst e
    have e1:=W.par _ _ _ hm' h
    subst e1
    exact h0 h2
   simp [hne]
 ·rw [if_neg h2,if_neg h2]
theorem wf_own (ns:List Tn) (own:List Nat) (W:WF ns own) (q:Nat) (h:q < ns.length):WF ns (q :: own) :=
 ⟨W.par,W.lt,fun x hx=>by
  rcases List.mem_cons.1 hx with rfl | hx
  ·exact h
  ·exact W.own x hx,W.len⟩
def WT (ns:List Tn):Prop:=∀q,kdAt ns q=2->ksAt ns q ≠ []/\∀x ∈ ksAt ns q,kdAt ns x=0
theorem same_put (ns:List Tn) (q:Nat) (n:Tn) (hq:q < ns.length) (h1:n.kd=ns[q].kd) (h2:n.ky=ns[q].ky) (h3:n.ks=ns[q].ks):(∀p,ksAt (ns.set q n) p=ksAt ns p)/\(∀p,kdAt (ns.set q n) p=kdAt ns p)/\(∀k p,kyB (ns.set q n) k p=kyB ns k p):=by
 have key:∀p,p=q\/(ns.set q n)[p]?=ns[p]?:=fun p=>by
  by_cases h:p=q
  ·exact Or.inl h
  ·exact Or.inr (List.getElem?_set_ne (fun e=>h e.symm))
 have hs:(ns.set q n)[q]?=some n:=List.getElem?_set_self hq
 have hn:ns[q]?=some ns[q]:=List.getElem?_eq_getElem hq
 refine ⟨fun p=>?_,fun p=>?_,fun k p=>?_⟩
 ·unfold ksAt
  rcases key p with rfl | h
  ·rw [hs,hn];exact h3
  ·rw [h]
 ·unfold kdAt
  rcases key p with rfl | h
  ·rw [hs,hn];exact h1
  ·rw [h]
 ·unfold kyB
  rcases key p with rfl | h
  ·rw [hs,hn];simp only [h2]
  ·rw [h]
theorem hold_cong {ns ns':List Tn} (own:List Nat) (h1:∀p,ksAt ns' p=ksAt ns p) (h2:∀p,kdAt ns' p=kdAt ns p) (h3:∀k p,kyB ns' k p=kyB ns k p):hold ns' own=hold ns own:=by
 funext t k
 unfold hold
 rw [h2,kidO_eq,kidO_eq,h1,find_cong (p:=kyB ns' k) (q:=kyB ns k) _ fun x _=>h3 k x]
end Go.Proofs.YtbgnflcebafjjaaGreatDoor
namespace Go.Proofs.YtbgnflcebafjjaaGreatDoor
open Go.Shelf Go.Sort
set_option linter.unusedVariables false
abbrev cb:=Lib.compareBytes
theorem cb_self:∀a:List UInt8,cb a a=0
 | []=>rfl
 | a :: r=>by
  show (if a < a then -1 else if a < a then 1 else cb r r)=(0:Int)
  rw [if_neg (UInt8.lt_irrefl a),if_neg (UInt8.lt_irrefl a)]
  exact cb_self r
theorem cb_val (a:UInt8) (al:List UInt8) (b:UInt8) (bl2:List UInt8):cb (a :: al) (b :: bl2)=if a < b then -1 else if b < a then 1 else cb al bl2:=rfl
theorem cb_anti:∀a b:List UInt8,cb a b=- cb b a
 | [],[]=>rfl
 | [],_ :: _=>rfl
 | _ :: _,[]=>rfl
 | a :: al,b :: bl2=>by
  rw [cb_val,cb_val]
  by_cases h1:a < b
  ·rw [if_pos h1,if_neg (fun h=>UInt8.lt_irrefl a (UInt8.lt_trans h1 h)),if_pos h1]
  ·rw [if_neg h1]
   by_cases h2:b < a
   ·rw [if_pos h2,if_pos h2];rfl
   ·rw [if_neg h2,if_neg h2,if_neg h1]
    exact cb_anti al bl2
theorem cb_eq:∀a b:List UInt8,cb a b=0->a=b
 | [],[],_=>rfl
 | [],_ :: _,h=>by cases h
 | _ :: _,[],h=>by cases h
 | a :: al,b :: bl2,h=>by
  rw [cb_val] at h
  by_cases h1:a < b
  ·rw [if_pos h1] at h;cases h
  ·rw [if_neg h1] at h
   by_cases h2:b < a
   ·rw [if_pos h2] at h;cases h
   ·rw [if_neg h2] at h
    have e:a=b:=UInt8.le_antisymm (UInt8.not_lt.1 h2) (UInt8.not_lt.1 h1)
    rw [e,cb_eq al bl2 h]
theorem cb_trans:∀a b c:List UInt8,cb a b<=0->cb b c<=0->cb a c<=0/\(cb a c=0->cb a b=0/\cb b c=0)
 | [],b,[],h1,h2=>by
  cases b with
  | nil=>exact ⟨Int.le_refl _,fun _=>⟨rfl,rfl⟩⟩
  | cons b bl2=>exact absurd (show (1:Int)<=0 from h2) (by decide)
 | [],b,c :: cl,h1,h2=>⟨show (-1:Int)<=0 by decide,fun h=>by cases h⟩
 | a :: al,[],c,h1,h2=>absurd (show (1:Int)<=0 from h1) (by decide)
 | a :: al,b :: bl2,[],h1,h2=>absurd (show (1:Int)<=0 from h2) (by decide)
 | a :: al,b :: bl2,c :: cl,h1,h2=>by
  rw [cb_val] at h1 h2 ⊢
  by_cases x1:a < b
  ·by_cases y1:b < c
   ·rw [if_pos (UInt8.lt_trans x1 y1)]
    exact ⟨by decide,fun h=>by cases h⟩
   ·rw [if_neg y1] at h2
    by_cases y2:c < b
    ·rw [if_pos y2] at h2;exact absurd h2 (by decide)
    ·have e:b=c:=UInt8.le_antisymm (UInt8.not_lt.1 y2) (UInt8.not_lt.1 y1)
     rw [<-e,if_pos x1]
     exact ⟨by decide,fun h=>by cases h⟩
  ·rw [if_neg x1] at h1
   by_cases x2:b < a
   ·rw [if_pos x2] at h1;exact absurd h1 (by decide)
   ·rw [if_neg x2] at h1
    have e:a=b:=UInt8.le_antisymm (UInt8.not_lt.1 x2) (UInt8.not_lt.1 x1)
    subst e
    by_cases y1:a < c
    ·rw [if_pos y1]
     exact ⟨by decide,fun h=>by cases h⟩
    ·rw [if_neg y1] at h2 ⊢
     by_cases y2:c < a
     ·rw [if_pos y2] at h2;exact absurd h2 (by decide)
     ·rw [if_neg y2] at h2
      rw [if_neg y2,cb_val,if_neg (UInt8.lt_irrefl a),if_neg (UInt8.lt_irrefl a),cb_val,if_neg y1,if_neg y2]
      exact cb_trans al bl2 cl h1 h2
def kyAt (ns:List Tn) (q:Nat):List UInt8:=match ns[q]? with | some u=>u.ky | none=>[]
theorem swo_key {α:Type} (f:α->List UInt8):SWO (ltOf fun x y=>cb (f x) (f y)) where
 irrefl x:=decide_eq_false (show ¬ cb (f x) (f x) < 0 by rw [cb_self];decide)
 trans x y z h1 h2:=by
  have a1:cb (f x) (f y) < 0:=of_decide_eq_true h1
  have a2:cb (f y) (f z) < 0:=of_decide_eq_true h2
  obtain ⟨b1,b2⟩:=cb_trans (f x) (f y) (f z) (by omega) (by omega)
  refine decide_eq_true (show cb (f x) (f z) < 0 from ?_)
  apply Classical.byContradiction
  intro hn
  have:=(b2 (by omega)).1
  omega
 ntrans x y z h1 h2:=by
  have a1:¬ cb (f x) (f y) < 0:=of_decide_eq_false h1
  have a2:¬ cb (f y) (f z) < 0:=of_decide_eq_false h2
  refine decide_eq_false (show ¬ cb (f x) (f z) < 0 from ?_)
  have c1:=cb_anti (f x) (f y)
  have c2:=cb_anti (f y) (f z)
  have c3:=cb_anti (f x) (f z)
  obtain ⟨b1,b2⟩:=cb_trans (f z) (f y) (f x) (by omega) (by omega)
  omega
theorem perm_uni {α:Type} (lt:α->α->Prop) (asym:∀a b,lt a b->¬ lt b a):∀(l1 l2:List α),l1.Perm l2->l1.Pairwise lt->l2.Pairwise lt->l1=l2
 | [],l2,hp,_,_=>by rw [List.nil_perm.1 hp]
 | a :: r,[],hp,_,_=>by have:=hp.length_eq;simp at this
 | a :: r,b :: s,hp,h1,h2=>by
  have e:a=b:=by
   apply Classical.byContradiction
   intro hne
   have ha:a ∈ b :: s:=hp.subset (by simp)
   have hb:b ∈ a :: r:=hp.symm.subset (by simp)
   have ha':a ∈ s:=by rcases List.mem_cons.1 ha with h | h;exact absurd h hne;exact h
   have hb':b ∈ r:=by rcases List.mem_cons.1 hb with h | h;exact absurd h.symm hne;exact h
   exact asym a b ((List.pairwise_cons.1 h1).1 b hb') ((List.pairwise_cons.1 h2).1 a ha')
  subst e
  rw [perm_uni lt asym r s hp.cons_inv (List.pairwise_cons.1 h1).2 (List.pairwise_cons.1 h2).2]
def srt (ns:List Tn) (t:Nat):List Nat:=(ksAt ns t).mergeSort fun a b=>decide (cb (kyAt ns a) (kyAt ns b)<=0)
def KD (ns:List Tn) (t:Nat):Prop:=(ksAt ns t).Pairwise fun a b=>kyAt ns a ≠ kyAt ns b
theorem srt_perm (ns:List Tn) (t:Nat):(srt ns t).Perm (ksAt ns t):=List.mergeSort_perm _ _
theorem srt_uni (ns:List Tn) (t:Nat) (h:KD ns t) (E:List Nat) (hp:E.Perm (ksAt ns t)) (hs:E.Pairwise fun a b=>cb (kyAt ns a) (kyAt ns b)<=0):E=srt ns t:=by
 have key:∀L:List Nat,L.Perm (ksAt ns t)->(L.Pairwise fun a b=>cb (kyAt ns a) (kyAt ns b)<=0)->L.Pairwise fun a b=>cb (kyAt ns a) (kyAt ns b) < 0:=fun L hL hp=>by
  have hd:L.Pairwise fun a b=>kyAt ns a ≠ kyAt ns b:=(hL.pairwise_iff (fun {a b} h=>Ne.symm h)).2 h
  refine (hp.and hd).imp fun {a b} ⟨h1,h2⟩=>?_
  have:cb (kyAt ns a) (kyAt ns b) ≠ 0:=fun e=>h2 (cb_eq _ _ e)
  omega
 refine perm_uni (fun a b=>cb (kyAt ns a) (kyAt ns b) < 0) (fun a b h1 h2=>?_) E (srt ns t) (hp.trans (srt_perm ns t).symm) (key E hp hs) (key _ (srt_perm ns t) ?_)
 ·have:=cb_anti (kyAt ns a) (kyAt ns b)
  omega
 ·have:=List.pairwise_mergeSort (le:=fun a b=>decide (cb (kyAt ns a) (kyAt ns b)<=0)) (fun a b c h1 h2=>decide_eq_true (cb_trans _ _ _ (of_decide_eq_true h1) (of_decide_eq_true h2)).1) (fun a b=>by
   have:=cb_anti (kyAt ns a) (kyAt ns b)
   by_cases h:cb (kyAt ns a) (kyAt ns b)<=0
   ·simp [h]
   ·have h2:cb (kyAt ns b) (kyAt ns a)<=0:=by omega
    simp [h2]) (ksAt ns t)
  exact this.imp fun h=>of_decide_eq_true h
set_option linter.unusedVariables false
def seqV (c x1 x2 x3:Int):Nat :=
 if c < 0 then 0
 else if c < 128 then 1
 else if c < 194\/244 < c then 0
 else if decide ((if c=224 then 160 else if c=240 then 144 else 128)<=x1/\x1<=(if c=237 then 159 else if c=244 then 143 else 191))=false then 0
 else if c < 224 then 2
 else if decide (128<=x2/\x2<=191)=false then 0
 else if c < 240 then 3
 else if decide (128<=x3/\x3<=191)=false then 0
 else 4
theorem seqN_seqV (l:List UInt8) (i:Nat):seqN l i=seqV (nx l i) (nx l (i+1)) (nx l (i+2)) (nx l (i+3)):=rfl
theorem seqV_lo (b0:Nat) (x1 x2 x3:Int) (h:b0 < 128):seqV (b0:Int) x1 x2 x3=1:=by
 unfold seqV;rw [if_neg (by omega),if_pos (by omega)]
theorem seqV_bad (b0:Nat) (x1 x2 x3:Int) (h:128<=b0) (h2:b0 < 194\/244 < b0):seqV (b0:Int) x1 x2 x3=0:=by
 unfold seqV;rw [if_neg (by omega),if_neg (by omega),if_pos (by omega)]
theorem seqV_mid (b0:Nat) (x1 x2 x3:Int) (lo hi:Int) (h:194<=b0/\b0<=244) (hlo:(if (b0:Int)=224 then 160 else if (b0:Int)=240 then 144 else 128)=lo) (hhi:(if (b0:Int)=237 then 159 else if (b0:Int)=244 then 143 else 191)=hi) :
  seqV (b0:Int) x1 x2 x3=if lo<=x1/\x1<=hi then (if b0 < 224 then 2 else if 128<=x2/\x2<=191 then (if b0 < 240 then 3 else if 128<=x3/\x3<=191 then 4 else 0) else 0) else 0:=by
 unfold seqV
 rw [if_neg (by omega),if_neg (by omega),if_neg (by omega),hlo,hhi]
 by_cases h1:lo<=x1/\x1<=hi
 ·rw [if_neg (by simp [h1]),if_pos h1]
  by_cases h2:b0 < 224
  ·rw [if_pos (by omega),if_pos h2]
  ·rw [if_neg (by omega),if_neg h2]
   by_cases h3:128<=x2/\x2<=191
   ·rw [if_neg (by simp [h3]),if_pos h3]
    by_cases h4:b0 < 240
    ·rw [if_pos (by omega),if_pos h4]
    ·rw [if_neg (by omega),if_neg h4]
     by_cases h5:128<=x3/\x3<=191
     ·rw [if_neg (by simp [h5]),if_pos h5]
     ·rw [if_pos (by simpa using h5),if_neg h5]
   ·rw [if_pos (by simpa using h3),if_neg h3]
 ·rw [if_pos (by simpa using h1),if_neg h1]
def Told (S:Nat) (q:Nat × Nat):Prop:=(S=0->q=(65533,1))/\(0 < S->q.2=S/\¬ (q.1=65533/\q.2=1))
theorem slow_bad (n b0 b1 b2 b3 sz lo hi:Nat) (hsz:sz=2\/sz=3\/sz=4) (h:n < sz\/(b1 < lo\/hi < b1)\/(3<=sz/\(b2 < 128\/191 < b2))\/(4<=sz/\(b3 < 128\/191 < b3))):Lib.slowN n b0 b1 b2 b3 sz lo hi=(65533,1):=by
 unfold Lib.slowN
 by_cases a1:n < sz
 ·rw [if_pos a1]
 rw [if_neg a1]
 by_cases a2:b1 < lo\/hi < b1
 ·rw [if_pos a2]
 rw [if_neg a2,if_neg (show ¬ sz<=2 by omega)]
 by_cases a3:b2 < 128\/191 < b2
 ·rw [if_pos a3]
 rw [if_neg a3,if_neg (show ¬ sz<=3 by omega),if_pos (by omega)]
theorem slow_good (n b0 b1 b2 b3 sz lo hi:Nat) (hsz:sz=2\/sz=3\/sz=4) (h:¬ (n < sz\/(b1 < lo\/hi < b1)\/(3<=sz/\(b2 < 128\/191 < b2))\/(4<=sz/\(b3 < 128\/191 < b3)))):(Lib.slowN n b0 b1 b2 b3 sz lo hi).2=sz:=by
 unfold Lib.slowN
 rw [if_neg (by omega),if_neg (by omega)]
 by_cases a2:sz<=2
 ·rw [if_pos a2];show 2=sz;omega
 rw [if_neg a2,if_neg (by omega)]
 by_cases a3:sz<=3
 ·rw [if_pos a3];show 3=sz;omega
 rw [if_neg a3,if_neg (by omega)];show 4=sz;omega
theorem slow_told (n b0 b1 b2 b3 sz lo hi:Nat) (x1 x2 x3:Int) (hsz:(b0 < 224/\sz=2)\/(224<=b0/\b0 < 240/\sz=3)\/(240<=b0/\sz=4)) (hlo:128<=lo) (hn:1<=n)
  (e1:x1=if 1 < n then (b1:Int) else -1) (e2:x2=if 2 < n then (b2:Int) else -1) (e3:x3=if 3 < n then (b3:Int) else -1) :
  Told (if (lo:Int)<=x1/\x1<=(hi:Int) then (if b0 < 224 then 2 else if 128<=x2/\x2<=191 then (if b0 < 240 then 3 else if 128<=x3/\x3<=191 then 4 else 0) else 0) else 0) (Lib.slowN n b0 b1 b2 b3 sz lo hi):=by
 have f1:(1 < n/\x1=b1)\/(n<=1/\x1=-1):=by
  by_cases a:1 < n
  ·rw [if_pos a] at e1;exact Or.inl ⟨a,e1⟩
  ·rw [if_neg a] at e1;exact Or.inr ⟨by omega,e1⟩
 have f2:(2 < n/\x2=b2)\/(n<=2/\x2=-1):=by
  by_cases a:2 < n
  ·rw [if_pos a] at e2;exact Or.inl ⟨a,e2⟩
  ·rw [if_neg a] at e2;exact Or.inr ⟨by omega,e2⟩
 have f3:(3 < n/\x3=b3)\/(n<=3/\x3=-1):=by
  by_cases a:3 < n
  ·rw [if_pos a] at e3;exact Or.inl ⟨a,e3⟩
  ·rw [if_neg a] at e3;exact Or.inr ⟨by omega,e3⟩
 clear e1 e2 e3
 by_cases hb:n < sz\/(b1 < lo\/hi < b1)\/(3<=sz/\(b2 < 128\/191 < b2))\/(4<=sz/\(b3 < 128\/191 < b3))
 ·rw [slow_bad n b0 b1 b2 b3 sz lo hi (by omega) hb]
  refine ⟨fun _=>rfl,fun hp=>?_⟩
  exfalso
  by_cases a1:(lo:Int)<=x1/\x1<=(hi:Int)
  ·rw [if_pos a1] at hp
   by_cases a2:b0 < 224
   ·omega
   rw [if_neg a2] at hp
   by_cases a3:128<=x2/\x2<=191
   ·rw [if_pos a3] at hp
    by_cases a4:b0 < 240
    ·omega
    rw [if_neg a4] at hp
    by_cases a5:128<=x3/\x3<=191
    ·omega
    ·rw [if_neg a5] at hp;omega
   ·rw [if_neg a3] at hp;omega
  ·rw [if_neg a1] at hp;omega
 ·have hg:=slow_good n b0 b1 b2 b3 sz lo hi (by omega) hb
  have hS:(if (lo:Int)<=x1/\x1<=(hi:Int) then (if b0 < 224 then 2 else if 128<=x2/\x2<=191 then (if b0 < 240 then 3 else if 128<=x3/\x3<=191 then 4 else 0) else 0) else 0)=sz:=by
   rw [if_pos (by omega)]
   by_cases a2:b0 < 224
   ·rw [if_pos a2];omega
   rw [if_neg a2,if_pos (by omega)]
   by_cases a4:b0 < 240
   ·rw [if_pos a4];omega
   rw [if_neg a4,if_pos (by omega)];omega
  rw [hS]
  exact ⟨fun hz=>absurd hz (by omega),fun _=>⟨hg,fun hh=>by omega⟩⟩
theorem first_bad (b0:Nat) (h:128<=b0) (h2:b0 < 194\/244 < b0):Lib.firstT b0=241:=by
 unfold Lib.firstT
 rw [if_neg (by omega)]
 by_cases a:b0 < 194
 ·rw [if_pos a]
 ·rw [if_neg a,if_neg (by omega),if_neg (by omega),if_neg (by omega),if_neg (by omega),if_neg (by omega),if_neg (by omega),if_neg (by omega),if_neg (by omega)]
theorem told_at (n b0 b1 b2 b3:Nat) (x1 x2 x3:Int) (hn:1<=n) (h0:b0 < 256) (h1:b1 < 256) (h2:b2 < 256) (h3:b3 < 256)
  (e1:x1=if 1 < n then (b1:Int) else -1) (e2:x2=if 2 < n then (b2:Int) else -1) (e3:x3=if 3 < n then (b3:Int) else -1) :
  Told (seqV (b0:Int) x1 x2 x3) (Lib.decodeN n b0 b1 b2 b3):=by
 by_cases ha:b0 < 128
 ·rw [seqV_lo b0 x1 x2 x3 ha,Lib.ascii_eq n b0 b1 b2 b3 (by unfold Lib.firstT;rw [if_pos ha])]
  exact ⟨fun h=>(by cases h),fun _=>⟨rfl,fun hh=>by simp at hh;omega⟩⟩
 by_cases hb:b0 < 194\/244 < b0
 ·rw [seqV_bad b0 x1 x2 x3 (by omega) hb,Lib.bad_eq n b0 b1 b2 b3 h0 (first_bad b0 (by omega) hb)]
  exact ⟨fun _=>rfl,fun h=>absurd h (by decide)⟩
 have hr:194<=b0/\b0<=244:=by omega
 by_cases c1:b0 < 224
 ·rw [<-Lib.slow_C2 n b0 b1 b2 b3 hn h1 h2 h3 (by omega),seqV_mid b0 x1 x2 x3 128 191 hr (by rw [if_neg (by omega),if_neg (by omega)]) (by rw [if_neg (by omega),if_neg (by omega)])]
  exact slow_told n b0 b1 b2 b3 2 128 191 x1 x2 x3 (by omega) (by omega) hn e1 e2 e3
 by_cases c2:b0=224
 ·rw [<-Lib.slow_E0 n b0 b1 b2 b3 hn h1 h2 h3 c2,seqV_mid b0 x1 x2 x3 160 191 hr (by rw [if_pos (by omega)]) (by rw [if_neg (by omega),if_neg (by omega)])]
  exact slow_told n b0 b1 b2 b3 3 160 191 x1 x2 x3 (by omega) (by omega) hn e1 e2 e3
 by_cases c3:b0=237
 ·rw [<-Lib.slow_ED n b0 b1 b2 b3 hn h1 h2 h3 c3,seqV_mid b0 x1 x2 x3 128 159 hr (by rw [if_neg (by omega),if_neg (by omega)]) (by rw [if_pos (by omega)])]
  exact slow_told n b0 b1 b2 b3 3 128 159 x1 x2 x3 (by omega) (by omega) hn e1 e2 e3
 by_cases c4:b0 < 240
 ·rw [<-Lib.slow_E1 n b0 b1 b2 b3 hn h1 h2 h3 (by omega),seqV_mid b0 x1 x2 x3 128 191 hr (by rw [if_neg (by omega),if_neg (by omega)]) (by rw [if_neg (by omega),if_neg (by omega)])]
  exact slow_told n b0 b1 b2 b3 3 128 191 x1 x2 x3 (by omega) (by omega) hn e1 e2 e3
 by_cases c5:b0=240
 ·rw [<-Lib.slow_F0 n b0 b1 b2 b3 hn h1 h2 h3 c5,seqV_mid b0 x1 x2 x3 144 191 hr (by rw [if_neg (by omega),if_pos (by omega)]) (by rw [if_neg (by omega),if_neg (by omega)])]
  exact slow_told n b0 b1 b2 b3 4 144 191 x1 x2 x3 (by omega) (by omega) hn e1 e2 e3
 by_cases c6:b0=244
 ·rw [<-Lib.slow_F4 n b0 b1 b2 b3 hn h1 h2 h3 c6,seqV_mid b0 x1 x2 x3 128 143 hr (by rw [if_neg (by omega),if_neg (by omega)]) (by rw [if_neg (by omega),if_pos (by omega)])]
  exact slow_told n b0 b1 b2 b3 4 128 143 x1 x2 x3 (by omega) (by omega) hn e1 e2 e3
 ·rw [<-Lib.slow_F1 n b0 b1 b2 b3 hn h1 h2 h3 (by omega),seqV_mid b0 x1 x2 x3 128 191 hr (by rw [if_neg (by omega),if_neg (by omega)]) (by rw [if_neg (by omega),if_neg (by omega)])]
  exact slow_told n b0 b1 b2 b3 4 128 191 x1 x2 x3 (by omega) (by omega) hn e1 e2 e3
set_option linter.unusedVariables false
def bound (n:Int):Bool:=decide (0<=n) && decide (n<=1000000000)
open Go.RowKit
set_option linter.unusedVariables false
def Hid (p:Prop):Prop:=p
theorem Hid.out {p:Prop} (h:Hid p):p:=h
theorem ret_int {k:IntKind} {a b:Int} (h:a=b):Ending.returned (.int k a)=.returned (.int k b):=by rw [h]
theorem ret_bool {a b:Bool} (h:a=b):Ending.returned (.bool a)=.returned (.bool b):=by rw [h]
theorem gb_refl (w:World) (r:Option Nat):w.grownBy w r:=⟨rfl,rfl,rfl,Nat.le_refl _,fun _ _ _=>rfl⟩
theorem gb_drew {w w':World} {r:Option Nat} (h:w.grownBy w' r) (n:Nat):w.grownBy (w'.drewN n) r:=⟨h.os,h.tape,h.output,h.size,h.block⟩
theorem gb_set {w w':World} {b:Nat} (h:w.grownBy w' (some b)) (o:Nat) (v:Value):w.grownBy (w'.setCell ⟨b,o,none⟩ v) (some b):=by
 refine ⟨h.os,h.tape,h.output,by simpa [World.setCell] using h.size,fun k hk hne=>?_⟩
 rw [<-h.block k hk hne]
 exact heap_setCell_other w' _ k v (fun e=>hne (by rw [e]))
theorem gb_trans {w w1 w2:World} {r:Option Nat} (h:w.grownBy w1 r) (h':w1.grownBy w2 r):w.grownBy w2 r :=
 ⟨h'.os.trans h.os,h'.tape.trans h.tape,h'.output.trans h.output,Nat.le_trans h.size h'.size,fun k hk hne=>(h'.block k (Nat.lt_of_lt_of_le hk h.size) hne).trans (h.block k hk hne)⟩
theorem run_sub (s:ByteArray) (i j:Nat) (hi:i<=j) (hj:j<=s.size) (w:World) :
  (Instr.slice 9 (.string s) (some (.int .i64 (i:Int))) (some (.int .i64 (j:Int))) none).run Tryz.prog w=.ok (.string ⟨(subT s.data.toList i (j - i)).toArray⟩) w:=by
 have h1:(0:Int)<=(i:Int):=by omega
 have h4:(i:Int)<=(j:Int):=by omega
 have h5:(j:Int)<=(s.size:Int):=by omega
 have e:s.extract i j=⟨(subT s.data.toList i (j - i)).toArray⟩:=by
  apply ByteArray.ext
  rw [ByteArray.data_extract]
  apply Array.ext'
  unfold subT
  simp
 rw [<-e]
 simp [go_sem,Tryz.underlying9,h1,h4,h5]
end Go.Proofs.YtbgnflcebafjjaaGreatDoor
namespace Go.Proofs.YtbgnflcebafjjaaGreatDoor
open Go.RowKit Go.Joins
set_option linter.unusedVariables false
set_option maxRecDepth 100000 in
theorem tBlank_any (c:Int) (w:World):Calls Tryz.prog 70 #[.int .i64 c] w fun e w'=>e=.returned (.bool (isBl c))/\w'=w:=by
 go_enter Tryz.func70,Tryz.ntmps70
 go_wp2
 all_goals go_ret
 all_goals (refine ⟨ret_bool ?_,rfl⟩;rw [Bool.eq_iff_iff];unfold isBl;simp;try omega)
set_option maxRecDepth 100000 in
theorem tDigit_any (c:Int) (w:World):Calls Tryz.prog 74 #[.int .i64 c] w fun e w'=>e=.returned (.bool (isDg c))/\w'=w:=by
 go_enter Tryz.func74,Tryz.ntmps74
 go_wp2
 all_goals go_ret
 all_goals (refine ⟨ret_bool ?_,rfl⟩;rw [Bool.eq_iff_iff];unfold isDg;simp;try omega)
set_option maxRecDepth 100000 in
theorem tSmall_any (c:Int) (w:World):Calls Tryz.prog 73 #[.int .i64 c] w fun e w'=>e=.returned (.bool (isSm c))/\w'=w:=by
 go_enter Tryz.func73,Tryz.ntmps73
 go_wp2
 all_goals go_ret
 all_goals (refine ⟨ret_bool ?_,rfl⟩;rw [Bool.eq_iff_iff];unfold isSm;simp;try omega)
theorem gb_more {w w1 w2:World} {r:Option Nat} (h:w.grownBy w1 r) (hg:w1.grownBy w2 none):w.grownBy w2 r :=
 ⟨hg.os.trans h.os,hg.tape.trans h.tape,hg.output.trans h.output,Nat.le_trans h.size hg.size,fun k hk hn=>(hg.block k (Nat.lt_of_lt_of_le hk h.size) (by simp)).trans (h.block k hk hn)⟩
def Rd (w:World) (R:Nat) (s:ByteArray) (i:Nat) (T:Nat):Prop:=w.heap[R]?=some (.cells #[.string s,.int .i64 (i:Nat),.pointer (some ⟨T,0,none⟩)] 60 (0,0))
theorem Rd.grow {w w':World} {R:Nat} {s:ByteArray} {i T:Nat} (h:Rd w R s i T) (hg:w.grownBy w' none):Rd w' R s i T:=(hg.block R (Array.getElem?_eq_some_iff.1 h).1 (by simp)).trans h
theorem Rd.cells {w:World} {R:Nat} {s:ByteArray} {i T:Nat} (h:Rd w R s i T):w.cell? ⟨R,0,none⟩=some (.string s)/\w.cell? ⟨R,1,none⟩=some (.int .i64 (i:Nat))/\w.cell? ⟨R,2,none⟩=some (.pointer (some ⟨T,0,none⟩))/\∀k,w.frozen? ⟨R,k,none⟩=false :=
 ⟨by rw [Lib.cell_of_heap h];rfl,by rw [Lib.cell_of_heap h];rfl,by rw [Lib.cell_of_heap h];rfl,fun k=>Lib.frozen_of_heap h k⟩
theorem Rd.set {w:World} {R:Nat} {s:ByteArray} {i T:Nat} (h:Rd w R s i T) (j:Nat):Rd (w.setCell ⟨R,1,none⟩ (.int .i64 (j:Nat))) R s j T:=by
 have:=block_setCell (i:=1) h (.int .i64 (j:Nat))
 exact this
set_option maxRecDepth 100000 in
theorem tNext_any (R:Nat) (s:ByteArray) (i T:Nat) (w:World) (h:Rd w R s i T) (hi:i<=s.size) (hs:s.size<=1048576) :
  Calls Tryz.prog 40 #[.pointer (some ⟨R,0,none⟩)] w fun e w'=>e=.returned (.int .i64 (nx s.data.toList i))/\w.grownBy w' none:=by
 obtain ⟨c0,c1,-,-⟩:=h.cells
 have hl:s.data.toList.length=s.size:=by simp
 by_cases he:i=s.size
 ·have hn:nx s.data.toList i=-1:=nx_end _ _ (by omega)
  rw [hn]
  have hee:((i:Int) == (s.size:Int))=true:=by simp [he]
  clear h hn he
  go_enter Tryz.func40,Tryz.ntmps40
  go_wp2
  go_quiet (fail)
  go_wp2
  go_ret
  exact ⟨rfl,gb_drew (gb_refl w none) _⟩
 ·have hlt:i < s.size:=by omega
  have hn:nx s.data.toList i=(s[i].toNat:Int):=by
   rw [nx_at _ _ (by omega)]
   rfl
  rw [hn]
  have hne:((i:Int) == (s.size:Int))=false:=by rw [beq_eq_false_iff_ne];omega
  clear h hn he
  go_enter Tryz.func40,Tryz.ntmps40
  go_wp2
  go_quiet (fail)
  go_wp2
  go_quiet (fail)
  go_wp2
  go_ret
  refine ⟨ret_int ?_,⟨rfl,rfl,rfl,Nat.le_refl _,fun _ _ _=>rfl⟩⟩
  have:=s[i].toNat_lt
  show wrap64 (s[i].toNat:Int)=_
  unfold wrap64
  omega
set_option maxRecDepth 100000 in
set_option maxHeartbeats 800000 in
theorem tSkip_any (R:Nat) (s:ByteArray) (i T:Nat) (w:World) (h:Rd w R s i T) (hi:i<=s.size) (hs:s.size<=1048576) :
  Calls Tryz.prog 39 #[.pointer (some ⟨R,0,none⟩)] w fun e w'=>e=.returned (.tuple #[])/\Rd w' R s (bl s.data.toList i) T/\w.grownBy w' (some R):=by
 have CN:Hid (∀k w,Rd w R s k T->k<=s.size->Calls Tryz.prog 40 #[.pointer (some ⟨R,0,none⟩)] w fun e w'=>e=.returned (.int .i64 (nx s.data.toList k))/\w.grownBy w' none):=fun k w h1 h2=>tNext_any R s k T w h1 h2 hs
 have CB:Hid (∀c w,Calls Tryz.prog 70 #[.int .i64 c] w fun e w'=>e=.returned (.bool (isBl c))/\w'=w):=tBlank_any
 have hl:s.data.toList.length=s.size:=by simp
 have HST:Hid (∀k,k < s.size->isBl (nx s.data.toList k)=true->bl s.data.toList k=bl s.data.toList (k+1)):=fun k hk hb=>toR_step isBl _ k (by omega) hb
 have HSP:Hid (∀k,isBl (nx s.data.toList k)=false->bl s.data.toList k=k):=fun k hb=>toR_stop isBl _ k hb
 have HLT:Hid (∀k,k<=s.size->isBl (nx s.data.toList k)=true->k < s.size):=fun k hk hb=>by
  apply Classical.byContradiction
  intro hn
  rw [nx_end _ _ (by omega)] at hb
  exact absurd hb (by decide)
 obtain ⟨J,hJ⟩:∃J,bl s.data.toList i=J:=⟨_,rfl⟩
 have HJ:Hid (bl s.data.toList i=J):=hJ
 have H0:Hid (Rd w R s i T):=h
 rw [hJ]
 clear h hJ
 go_enter Tryz.func39,Tryz.ntmps39
 go_wp2
 go_loopw [] (fun wr=>∃k:Nat,Rd wr R s k T/\k<=s.size/\bl s.data.toList k=J/\w.grownBy wr (some R)) (fun wr=>s.size - (match wr.cell? ⟨R,1,none⟩ with | some (.int _ k)=>k.toNat | _=>0))
 case atStart=>exact ⟨i,H0.out,hi,HJ.out,gb_refl _ _⟩
 case round =>
  obtain ⟨k,hrd,hk,hbl,hg⟩:=hrel
  have HRD:Hid (Rd wr R s k T):=hrd
  have HBL:Hid (bl s.data.toList k=J):=hbl
  have HG:Hid (w.grownBy wr (some R)):=hg
  have C1:Hid (Calls Tryz.prog 40 #[.pointer (some ⟨R,0,none⟩)] wr fun e w'=>e=.returned (.int .i64 (nx s.data.toList k))/\wr.grownBy w' none):=CN.out k wr hrd hk
  have hme:(match wr.cell? ⟨R,1,none⟩ with | some (.int _ k)=>k.toNat | _=>0)=k:=by rw [hrd.cells.2.1];simp
  have HME:Hid ((match wr.cell? ⟨R,1,none⟩ with | some (.int _ k)=>k.toNat | _=>0)=k):=hme
  have HS1:Hid (isBl (nx s.data.toList k)=true->bl s.data.toList k=bl s.data.toList (k+1)):=fun hb=>HST.out k (HLT.out k hk hb) hb
  have HS2:Hid (isBl (nx s.data.toList k)=false->bl s.data.toList k=k):=HSP.out k
  have HL2:Hid (isBl (nx s.data.toList k)=true->k < s.size):=HLT.out k hk
  obtain ⟨c,hc⟩:∃c,nx s.data.toList k=c:=⟨_,rfl⟩
  rw [hc] at C1 HS1 HS2 HL2
  have CB1:Hid (∀w,Calls Tryz.prog 70 #[.int .i64 c] w fun e w'=>e=.returned (.bool (isBl c))/\w'=w):=fun w=>CB.out c w
  obtain ⟨b,hb⟩:∃b,isBl c=b:=⟨_,rfl⟩
  rw [hb] at CB1 HS1 HS2 HL2
  clear hrd hbl hg hme hc hb
  cases b with
  | false =>
   have HKJ:Hid (k=J):=(HS2.out (by trivial)).symm.trans HBL.out
   go_wp2_with (first | (go_at_call 40;refine C1.out.mono ?_;rintro e w2 ⟨rfl,hg2⟩) | (go_at_call 70;refine (CB1.out _).mono ?_;rintro e w' ⟨rfl,rfl⟩))
   refine bodyPost_end (results_none rfl _ _ _) rfl ⟨rfl,?_,gb_more HG.out hg2⟩
   rw [<-HKJ.out];exact HRD.out.grow hg2
  | true =>
   have hkl:k < s.size:=HL2.out (by trivial)
   have HN:Hid (bl s.data.toList (k+1)=J):=(HS1.out (by trivial)).symm.trans HBL.out
   go_wp2_with (first | (go_at_call 40;refine C1.out.mono ?_;rintro e w2 ⟨rfl,hg2⟩;obtain ⟨-,d1,-,df⟩:=(HRD.out.grow hg2).cells;have df1:=df 1) | (go_at_call 70;refine (CB1.out _).mono ?_;rintro e w' ⟨rfl,rfl⟩))
   have HS3:Hid (Rd (w'.setCell ⟨R,1,none⟩ (.int .i64 ((k:Int)+1))) R s (k+1) T):=(HRD.out.grow hg2).set (k+1)
   refine ⟨⟨k+1,HS3.out,by omega,HN.out,gb_set (gb_more HG.out hg2) 1 _⟩,?_⟩
   rw [HME.out,HS3.out.cells.2.1]
   simp
   omega
end Go.Proofs.YtbgnflcebafjjaaGreatDoor
