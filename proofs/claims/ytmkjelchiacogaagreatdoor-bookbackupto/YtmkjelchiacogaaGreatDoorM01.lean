import Derived.Lib.Bytealg
import Derived.Lib.TrimByte
import Derived.Lib.Small
import Derived.Shelf.SlSortCmp.NoneTotal
import Derived.Lib.DecodeNEq
import Derived.Lib.ItoaNum
set_option linter.unusedVariables false
set_option linter.unusedSimpArgs false
set_option maxRecDepth 100000
set_option maxHeartbeats 6400000
namespace Go.Proofs.YtmkjelchiacogaaGreatDoor
structure Good{α:Type}(c:α->α->Int):Prop where
 rng:∀a b,c a b=-1\/c a b=0\/c a b=1
 anti:∀a b,c b a=- c a b
 trans:∀a b d,c a b<=0->c b d<=0->c a d<=0/\((c a b=0/\c b d=0)↔c a d=0)
theorem Good.self{α:Type}{c:α->α->Int}(h:Good c)(a:α):c a a=0:=by
 have:=h.anti a a;omega
theorem Px{α β:Type}{c:α->α->Int}(h:Good c)(f:β->α):Good (fun a b=>c (f a) (f b)) :=
 ⟨fun a b=>h.rng _ _,fun a b=>h.anti _ _,fun a b d=>h.trans _ _ _⟩
def kY{α:Type}(c:α->α->Int):List α->List α->Int
 | [],[]=>0
 | [],_ :: _=>-1
 | _ :: _,[]=>1
 | a :: al0,b :: bs=>if c a b=0 then kY c al0 bs else c a b
theorem YW{α:Type}{c:α->α->Int}(hc:Good c):Good (kY c):=by
 refine⟨fun a=>?_,fun a=>?_,fun x=>?_⟩
 ·induction a with
  | nil=>intro b;cases b<;>simp[kY]
  | cons a al0 ih =>
   intro b
   cases b with
   | nil=>simp[kY]
   | cons b bs =>
    simp only[kY];split
    ·exact ih bs
    ·exact hc.rng a b
 ·induction a with
  | nil=>intro b;cases b<;>simp[kY]
  | cons a al0 ih =>
   intro b
   cases b with
   | nil=>simp[kY]
   | cons b bs =>
    have h1:=hc.anti a b;simp only[kY]
    by_cases h:c a b=0
    ·rw[if_pos h,if_pos (by omega),ih]
    ·rw[if_neg h,if_neg (by omega),h1]
 ·induction x with
  | nil =>
   intro y z p q
   cases y with
   | nil=>cases z<;>simp[kY]at q ⊢
   | cons y ys=>cases z with
    | nil=>simp[kY]at q
    | cons z zs=>simp[kY]
  | cons x xs ih =>
   intro y z
   cases y with
   | nil=>intro p;simp[kY]at p
   | cons y ys =>
    cases z with
    | nil=>intro p q;simp[kY]at q
    | cons z zs =>
     have h1:=hc.trans x y z;have h2:=ih ys zs;have r1:=hc.rng x y;have r2:=hc.rng y z;have r3:=hc.rng x z;simp only[kY];intro p q;split at p<;>split at q
     ·rename_i e1 e2;have e3:c x z=0:=(h1 (by omega) (by omega)).2.1 ⟨e1,e2⟩;rw[if_pos e1,if_pos e2,if_pos e3];exact h2 p q
     ·rename_i e1 e2;have e3:=h1 (by omega) (by omega);have e4:c x z≠0:=fun hh=>e2 (e3.2.2 hh).2
      rw[if_pos e1,if_neg e2,if_neg e4];refine⟨e3.1,?_⟩;constructor
      ·rintro⟨_,h⟩;exact absurd h e2
      ·intro h;exact absurd h e4
     ·rename_i e1 e2;have e3:=h1 (by omega) (by omega);have e4:c x z≠0:=fun hh=>e1 (e3.2.2 hh).1
      rw[if_neg e1,if_pos e2,if_neg e4];refine⟨e3.1,?_⟩;constructor
      ·rintro⟨h,_⟩;exact absurd h e1
      ·intro h;exact absurd h e4
     ·rename_i e1 e2;have e3:=h1 (by omega) (by omega);have e4:c x z≠0:=fun hh=>e1 (e3.2.2 hh).1
      rw[if_neg e1,if_neg e2,if_neg e4];refine⟨e3.1,?_⟩;constructor
      ·rintro⟨h,_⟩;exact absurd h e1
      ·intro h;exact absurd h e4
theorem YX:Good Lib.compareInt:=by
 refine⟨fun a b=>?_,fun a b=>?_,fun x y z=>?_⟩
 ·unfold Lib.compareInt;split
  ·simp
  ·split<;>simp
 ·unfold Lib.compareInt;repeat' split
  all_goals omega
 ·unfold Lib.compareInt;repeat' split
  all_goals omega
def EU(a b:UInt8):Int:=Lib.compareInt a.toNat b.toNat
theorem YY:Good EU:=Px YX (fun a:UInt8=>(a.toNat:Int))
theorem Py:∀a b,Lib.compareBytes a b=kY EU a b
 | [],[]=>rfl
 | [],_ :: _=>rfl
 | _ :: _,[]=>rfl
 | a :: al0,b :: bs=>by
  have ih:=Py al0 bs;unfold Lib.compareBytes kY;rw[ih];have eb:EU a b=if(a.toNat:Int)<b.toNat then -1 else if(a.toNat:Int) > b.toNat then 1 else 0:=rfl;rw[eb]
  by_cases h:a<b
  ·have h':((a.toNat:Int)<b.toNat):=by have:=UInt8.lt_iff_toNat_lt.1 h;omega
   simp[h,h']
  ·by_cases h2:b<a
   ·have h':((b.toNat:Int)<a.toNat):=by have:=UInt8.lt_iff_toNat_lt.1 h2;omega
    have h'':¬((a.toNat:Int)<b.toNat):=by omega
    simp[h,h2,h',h'']
   ·have h':¬((b.toNat:Int)<a.toNat):=by intro hh;exact h2 (UInt8.lt_iff_toNat_lt.2 (by omega))
    have h'':¬((a.toNat:Int)<b.toNat):=by intro hh;exact h (UInt8.lt_iff_toNat_lt.2 (by omega))
    simp[h,h2,h',h'']
theorem YZ:Good Lib.compareBytes:=by
 have e:Lib.compareBytes=kY EU:=by funext a b;exact Py a b
 rw[e];exact YW YY
def aC(c:UInt8):Bool:=decide (48<=c.toNat) && decide (c.toNat<=57)
def aS(c:UInt8):Bool:=aC c || (decide (65<=c.toNat) && decide (c.toNat<=90)) || (decide (97<=c.toNat) && decide (c.toNat<=122)) || decide (c.toNat=45)
def oh(l:List UInt8):Bool:=!l.isEmpty && l.all aC
def kZ:List UInt8->List (List UInt8)
 | []=>[[]]
 | c :: l=>if c=46 then[] :: kZ l else match kZ l with
  | p :: ps=>(c :: p) :: ps
  | []=>[[c]]
theorem EW(c:UInt8)(l:List UInt8):kZ (c :: l)=if c=46 then[] :: kZ l else match kZ l with
  | p :: ps=>(c :: p) :: ps
  | []=>[[c]]:=by rw[kZ]
theorem Y0(l:List UInt8):kZ l≠[]:=by
 cases l with
 | nil=>simp[kZ]
 | cons c l =>
  rw[EW];split
  ·simp
  ·split<;>simp
theorem Pz:∀(p:List UInt8),(∀c∈p,c≠46)->kZ p=[p]
 | [],_=>rfl
 | c :: p,h=>by
  have ih:=Pz p (fun x hx=>h x (List.mem_cons_of_mem _ hx));rw[EW];rw[if_neg (h c (List.mem_cons_self ..)),ih]
theorem PD:∀(p r:List UInt8),(∀c∈p,c≠46)->kZ (p++46 :: r)=p :: kZ r
 | [],r,_=>by simp[kZ]
 | c :: p,r,h=>by
  have ih:=PD p r (fun x hx=>h x (List.mem_cons_of_mem _ hx));rw[List.cons_append,EW];rw[if_neg (h c (List.mem_cons_self ..)),ih]
structure V where
 major:Int
 minor:Int
 patch:Int
 pre:List UInt8
theorem yU{c:UInt8}(h:aC c=true):48<=c.toNat/\c.toNat<=57:=by
 unfold aC at h;simpa using h
def runN(p:UInt8->Bool)(l:List UInt8)(i:Nat):Nat:=((l.drop i).takeWhile p).length
def ah(l:List UInt8)(i k:Nat):List UInt8:=(l.drop i).take k
theorem PE(p:UInt8->Bool):∀(l:List UInt8),(l.takeWhile p).length<=l.length
 | []=>by simp
 | c :: l=>by
  have ih:=PE p l;rw[List.takeWhile_cons];split<;>simp;omega
theorem PG(p:UInt8->Bool):∀(l:List UInt8) (k:Nat),k<(l.takeWhile p).length->∃h:k<l.length,p l[k]=true
 | [],k,h=>by simp at h
 | c :: l,k,h=>by
  rw[List.takeWhile_cons]at h;split at h
  ·cases k with
   | zero=>exact⟨by simp,by simpa⟩
   | succ k =>
    obtain⟨h1,h2⟩:=PG p l k (by simpa using h);exact⟨by simp;omega,by simpa using h2⟩
  ·simp at h
theorem PH(p:UInt8->Bool):∀(l:List UInt8) (h:(l.takeWhile p).length<l.length),p l[(l.takeWhile p).length]=false
 | [],h=>by simp at h
 | c :: l,h=>by
  cases hc:p c with
  | true =>
   have e:(c :: l).takeWhile p=c :: l.takeWhile p:=by rw[List.takeWhile_cons,if_pos hc]
   have h':(l.takeWhile p).length<l.length:=by rw[e]at h;simpa using h
   have:=PH p l h';simp only[e,List.length_cons,List.getElem_cons_succ];exact this
  | false =>
   have e:(c :: l).takeWhile p=[]:=by rw[List.takeWhile_cons,if_neg (by simp[hc])]
   simp only[e,List.length_nil,List.getElem_cons_zero];exact hc
theorem PI(p:UInt8->Bool):∀(l:List UInt8),l.take (l.takeWhile p).length=l.takeWhile p
 | []=>by simp
 | c :: l=>by
  have ih:=PI p l;rw[List.takeWhile_cons];split<;>simp[ih]
theorem rU(p:UInt8->Bool)(l:List UInt8)(i:Nat)(h:i<=l.length):i+runN p l i<=l.length:=by
 have:=PE p (l.drop i);unfold runN;simp at this ⊢;omega
theorem IZ(p:UInt8->Bool)(l:List UInt8)(i k:Nat)(h:k<runN p l i):∃h:i+k<l.length,p l[i+k]=true:=by
 obtain⟨h1,h2⟩:=PG p (l.drop i) k h;simp only[List.length_drop]at h1;exact⟨by omega,by simpa using h2⟩
theorem EX(p:UInt8->Bool)(l:List UInt8)(i:Nat)(h:i+runN p l i<l.length):p l[i+runN p l i]=false:=by
 have h':((l.drop i).takeWhile p).length<(l.drop i).length:=by unfold runN at h;simp at h ⊢;omega
 have:=PH p (l.drop i) h';simpa [runN] using this
theorem Y1(p:UInt8->Bool)(l:List UInt8)(i:Nat):ah l i (runN p l i)=(l.drop i).takeWhile p:=PI p (l.drop i)
def qE(n:Int)(c:UInt8):Int:=10*n+((c.toNat:Int)-48)
def aK(l:List UInt8):Int:=l.foldl qE 0
theorem PK(l:List UInt8)(c:UInt8):aK (l++[c])=qE (aK l) c:=by unfold aK;rw[List.foldl_append];rfl
theorem I4:∀(l:List UInt8) (n:Int),0<=n->l.all aC=true->n<=l.foldl qE n
 | [],n,_,_=>Int.le_refl n
 | c :: l,n,h,hd=>by
  simp only[List.all_cons,Bool.and_eq_true]at hd;have h1:=yU hd.1;have h2:n<=qE n c:=by unfold qE;omega
  exact Int.le_trans h2 (I4 l _ (by omega) hd.2)
theorem EY(l:List UInt8)(hd:l.all aC=true):0<=aK l:=I4 l 0 (by omega) hd
theorem PL(a b:List UInt8)(hd:(a++b).all aC=true):aK a<=aK (a++b):=by
 rw[List.all_append,Bool.and_eq_true]at hd;unfold aK;rw[List.foldl_append];exact I4 b _ (EY a hd.1) hd.2
def rdNum(l:List UInt8)(i:Nat):Int × Int × Nat :=
 if runN aC l i=0 then(2,0,i)
 else if 1<runN aC l i/\l[i]?=some 48 then(2,0,i)
 else if aK (ah l i (runN aC l i)) > 999999999 then(3,0,i)
 else(0,aK (ah l i (runN aC l i)),i+runN aC l i)
def iY(strict:Bool)(p:List UInt8):Bool:=strict && (p.all aC && (decide (1<p.length) && decide (p[0]?=some 48)))
def ak(strict:Bool)(l:List UInt8)(i:Nat):Int × Nat :=
 if runN aS l i=0 then(2,i)
 else if iY strict (ah l i (runN aS l i))=true then(2,i)
 else if h:l[i+runN aS l i]?=some 46 then ak strict l (i+runN aS l i+1)
 else(0,i+runN aS l i)
termination_by l.length-i
decreasing_by
 have:=(List.getElem?_eq_some_iff.1 h).1;omega
theorem EZ(strict:Bool)(l:List UInt8)(i:Nat):ak strict l i =
 if runN aS l i=0 then(2,i)
 else if iY strict (ah l i (runN aS l i))=true then(2,i)
 else if l[i+runN aS l i]?=some 46 then ak strict l (i+runN aS l i+1)
 else(0,i+runN aS l i):=by
 rw[ak];split
 ·rfl
 ·split
  ·rfl
  ·split<;>rfl
def yV(strict:Bool)(p:List UInt8):Bool:=!p.isEmpty && p.all aS && !iY strict p
def xA(strict:Bool)(l:List UInt8):Bool:=l.isEmpty || (kZ l).all (yV strict)
def nx(l:List UInt8)(i:Nat):Int:=match l[i]? with|some c=>(c.toNat:Int)|none=>-1
theorem ug(l:List UInt8)(i:Nat)(h:i<l.length):nx l i=(l[i].toNat:Int):=by simp[nx,List.getElem?_eq_getElem h]
theorem oq(l:List UInt8)(i:Nat)(h:l.length<=i):nx l i=-1:=by simp[nx,List.getElem?_eq_none h]
theorem cZ{l:List UInt8}{i:Nat}(h:0<=nx l i):i<l.length:=by
 apply Classical.byContradiction;intro hn;rw[oq l i (by omega)]at h;exact absurd h (by decide)
theorem PM(l:List UInt8)(i:Nat):-1<=nx l i/\nx l i<256:=by
 by_cases h:i<l.length
 ·rw[ug l i h];have:=l[i].toNat_lt;omega
 ·rw[oq l i (by omega)];decide
def toR(p:Int->Bool)(l:List UInt8)(i:Nat):Nat:=i+runN (fun c=>p (c.toNat:Int)) l i
theorem AV(p:Int->Bool)(l:List UInt8)(i:Nat)(hi:i<l.length)(h:p (nx l i)=true):toR p l i=toR p l (i+1):=by
 rw[ug l i hi]at h;unfold toR runN;rw[List.drop_eq_getElem_cons hi,List.takeWhile_cons];simp only[h,if_true,List.length_cons];omega
theorem xB(p:Int->Bool)(l:List UInt8)(i:Nat)(h:p (nx l i)=false):toR p l i=i:=by
 unfold toR runN
 by_cases hi:i<l.length
 ·rw[ug l i hi]at h;rw[List.drop_eq_getElem_cons hi,List.takeWhile_cons];simp[h]
 ·rw[List.drop_eq_nil_of_le (by omega)];simp
theorem rV(p:Int->Bool)(l:List UInt8)(i:Nat)(hi:i<=l.length):i<=toR p l i/\toR p l i<=l.length:=by
 unfold toR runN;have h1:=(List.takeWhile_sublist (fun c:UInt8=>p (c.toNat:Int)) (l:=l.drop i)).length_le;rw[List.length_drop]at h1;omega
def je(c:Int):Bool:=decide (c=32\/c=9)
def ay(c:Int):Bool:=decide (48<=c/\c<=57)
def dh(c:Int):Bool:=decide (97<=c/\c<=122)
def aV(c:Int):Bool:=dh c || decide (65<=c/\c<=90) || ay c || decide (c=95) || decide (c=45)
def nG(c:Int):Bool:=decide ((0<=c/\c<32)\/c=127)
def lg(c:Int):Bool:=nG c && decide (c≠9)
def fO(c:Int):Bool:=decide (c≠10) && !lg c
def bi(l:List UInt8)(i:Nat):Bool × Nat:=if nx l i=35 then(if nx l (toR fO l i)=10\/nx l (toR fO l i)=-1 then(true,toR fO l i) else(false,toR fO l i)) else(true,i)
theorem E5(l:List UInt8)(i:Nat)(h:¬nx l i=35):bi l i=(true,i):=by unfold bi;rw[if_neg h]
def bl(l:List UInt8)(i:Nat):Nat:=toR je l i
structure Tn where
 kd:Int
 ky:List UInt8
 tx:List UInt8
 nu:Int
 ks:List Nat
 pl:Nat
abbrev Rs(α:Type):=Except (Int × Nat) α
def hexV(c:Int):Int:=if ay c=true then c-48 else if 97<=c/\c<=102 then c-87 else if 65<=c/\c<=70 then c-55 else -1
def four(l:List UInt8):Nat->Nat->Nat->Rs (Nat × Nat)
 | 0,i,n=>.ok (n,i)
 | k+1,i,n=>if hexV (nx l i)<0 then .error (2,i) else four l k (i+1) (16*n+(hexV (nx l i)).toNat)
def jV(n:Nat):List UInt8:=if n<128 then[UInt8.ofNat n] else if n<2048 then[UInt8.ofNat (192+n / 64),UInt8.ofNat (128+n % 64)] else[UInt8.ofNat (224+n / 4096),UInt8.ofNat (128+n / 64 % 64),UInt8.ofNat (128+n % 64)]
def esc(l:List UInt8)(i:Nat):Rs (List UInt8 × Nat) :=
 if nx l (i+1)=117 then
  match four l 4 (i+2) 0 with
  | .error e=>.error e
  | .ok (n,j)=>if 55296<=n/\n<=57343 then .error (2,i) else .ok (jV n,j)
 else if nx l (i+1)=98 then .ok ([8],i+2)
 else if nx l (i+1)=116 then .ok ([9],i+2)
 else if nx l (i+1)=110 then .ok ([10],i+2)
 else if nx l (i+1)=102 then .ok ([12],i+2)
 else if nx l (i+1)=114 then .ok ([13],i+2)
 else if nx l (i+1)=34 then .ok ([34],i+2)
 else if nx l (i+1)=92 then .ok ([92],i+2)
 else .error (2,i+1)
def E8(l:List UInt8)(i:Nat)(lo hi:Int):Bool:=decide (lo<=nx l i/\nx l i<=hi)
def aX(l:List UInt8)(i:Nat):Nat :=
 let c:=nx l i
 if c<0 then 0
 else if c<128 then 1
 else if c<194\/244<c then 0
 else if E8 l (i+1) (if c=224 then 160 else if c=240 then 144 else 128) (if c=237 then 159 else if c=244 then 143 else 191)=false then 0
 else if c<224 then 2
 else if E8 l (i+2) 128 191=false then 0
 else if c<240 then 3
 else if E8 l (i+3) 128 191=false then 0
 else 4
def str(l:List UInt8):Nat->Nat->List UInt8->Rs (List UInt8 × Nat)
 | 0,i,_=>.error (2,i)
 | f+1,i,acc =>
  if nx l i=34 then .ok (acc,i+1)
  else if nx l i=92 then
   match esc l i with
   | .error e=>.error e
   | .ok (b,j)=>str l f j (acc++b)
  else if nx l i=-1\/lg (nx l i)=true then .error (2,i)
  else if aX l i=0 then .error (2,i)
  else str l f (i+aX l i) (acc++ah l i (aX l i))
def eG(l:List UInt8)(i:Nat):Rs (List UInt8 × Nat) :=
 if nx l i=34 then str l (l.length+1) (i+1) []
 else if toR aV l i=i then .error (2,i)
 else .ok (ah l i (toR aV l i-i),toR aV l i)
def gu:List UInt8->Nat->Nat
 | [],n=>n
 | c :: r,n=>gu r (10*n+(c.toNat - 48))
def jR(l:List UInt8)(i:Nat):Rs (Int × Nat) :=
 let a:=if ay (nx l i)=true then i else i+1
 let j:=toR ay l a
 if j=a\/(1<j-a/\nx l a=48) then .error (2,a)
 else if 18<j-a then .error (3,i)
 else .ok (if nx l i=45 then -(gu (ah l a (j-a)) 0:Int) else(gu (ah l a (j-a)) 0:Int),j)
def mg(l:List UInt8)(i:Nat):Rs (Int × Nat) :=
 let j:=toR dh l i
 if ah l i (j-i)=[116,114,117,101] then .ok (1,j)
 else if ah l i (j-i)=[102,97,108,115,101] then .ok (0,j)
 else .error (2,i)
def addN(ns:List Tn)(up:Nat)(n:Tn):List Tn:=(match ns[up]? with|some u=>ns.set up { u with ks:=u.ks++[ns.length] }|none=>ns)++[n]
def gap(l:List UInt8):Nat->Nat->Rs Nat
 | 0,i=>.error (2,i)
 | f+1,i =>
  let j:=bl l i
  if(bi l j).1=false then .error (2,(bi l j).2)
  else if nx l (bi l j).2=10 then gap l f ((bi l j).2+1)
  else .ok (bi l j).2
mutual
def val(l:List UInt8):Nat->Nat->Nat->List UInt8->Nat->Nat->List Tn->Rs (Nat × List Tn)
 | 0,i,_,_,_,_,_=>.error (2,i)
 | f+1,i,up,k,p,d,ns =>
  if nx l i=34 then
   match str l (l.length+1) (i+1) [] with
   | .error e=>.error e
   | .ok (t,j)=>.ok (j,addN ns up ⟨3,k,t,0,[],p⟩)
  else if nx l i=43\/nx l i=45\/ay (nx l i)=true then
   match jR l i with
   | .error e=>.error e
   | .ok (n,j)=>.ok (j,addN ns up ⟨4,k,[],n,[],p⟩)
  else if nx l i=116\/nx l i=102 then
   match mg l i with
   | .error e=>.error e
   | .ok (n,j)=>.ok (j,addN ns up ⟨5,k,[],n,[],p⟩)
  else if nx l i=91 then
   if d=8 then .error (4,i)
   else lst l f (i+1) ns.length (d+1) (addN ns up ⟨1,k,[],0,[],p⟩)
  else .error (2,i)
def lst(l:List UInt8):Nat->Nat->Nat->Nat->List Tn->Rs (Nat × List Tn)
 | 0,i,_,_,_=>.error (2,i)
 | f+1,i,up,d,ns =>
  match gap l (l.length+1) i with
  | .error e=>.error e
  | .ok j =>
   if nx l j=93 then .ok (j+1,ns)
   else
    match val l f j up [] j d ns with
    | .error e=>.error e
    | .ok (j1,ns1) =>
     match gap l (l.length+1) j1 with
     | .error e=>.error e
     | .ok j2 =>
      if nx l j2=44 then lst l f (j2+1) up d ns1
      else if nx l j2=93 then .ok (j2+1,ns1)
      else .error (2,j2)
end
def aG(ns:List Tn)(t:Nat)(k:List UInt8):Option Nat:=match ns[t]? with|some u=>u.ks.find? (fun q=>match ns[q]? with|some x=>decide (x.ky=k)|none=>false)|none=>none
def ag(ns:List Tn)(t:Nat):Int:=match ns[t]? with|some u=>u.kd|none=>-1
def iK(ns:List Tn)(t:Nat)(k:List UInt8)(p:Nat):Rs (Nat × List Tn) :=
 match aG ns t k with
 | none=>.ok (ns.length,addN ns t ⟨0,k,[],0,[],p⟩)
 | some q=>if ag ns q=0 then .ok (q,ns) else if ag ns q=2 then(match ns[q]? with|some u=>.ok (u.ks.getLastD 0,ns)|none=>.error (5,p)) else .error (5,p)
def jA(ns:List Tn)(own:List Nat)(t:Nat)(k:List UInt8)(p:Nat):Rs (Nat × List Tn) :=
 match aG ns t k with
 | none=>.ok (ns.length,addN ns t ⟨0,k,[],0,[],p⟩)
 | some q=>if ag ns q=0/\¬q∈own then .ok (q,ns) else .error (5,p)
def iL(ns:List Tn)(t:Nat)(k:List UInt8)(p:Nat):Rs (Nat × List Tn) :=
 match aG ns t k with
 | none=>.ok (ns.length+1,addN (addN ns t ⟨2,k,[],0,[],p⟩) ns.length ⟨0,[],[],0,[],p⟩)
 | some q=>if ag ns q=2 then .ok (ns.length,addN ns q ⟨0,[],[],0,[],p⟩) else .error (5,p)
def way(many:Bool)(own:List Nat):List (List UInt8 × Nat)->Nat->List Tn->Rs (Nat × List Tn)
 | [],t,ns=>.ok (t,ns)
 | [(k,p)],t,ns=>if many=true then iL ns t k p else jA ns own t k p
 | (k,p) :: r,t,ns =>
  match iK ns t k p with
  | .error e=>.error e
  | .ok (t1,ns1)=>way many own r t1 ns1
def iD(l:List UInt8):Nat->Nat->List (List UInt8 × Nat)->Rs (List (List UInt8 × Nat) × Nat)
 | 0,i,_=>.error (2,i)
 | f+1,i,acc =>
  match eG l (bl l i) with
  | .error e=>.error e
  | .ok (k,j)=>if nx l (bl l j)=46 then iD l f (bl l j+1) (acc++[(k,bl l i)]) else .ok (acc++[(k,bl l i)],bl l j)
structure Sd where
 i:Nat
 ns:List Tn
 own:List Nat
 now:Nat
def must(l:List UInt8)(i:Nat)(c:Int):Rs Nat:=if nx l i=c then .ok (i+1) else .error (2,i)
def jS(l:List UInt8)(s:Sd):Rs Sd :=
 let many:Bool:=decide (nx l (s.i+1)=91)
 match iD l (l.length+1) (if many=true then s.i+2 else s.i+1) [] with
 | .error e=>.error e
 | .ok (ks,j) =>
  match must l j 93 with
  | .error e=>.error e
  | .ok j1 =>
   match (if many=true then must l j1 93 else .ok j1) with
   | .error e=>.error e
   | .ok j2 =>
    match way many s.own ks 0 s.ns with
    | .error e=>.error e
    | .ok (t,ns)=>.ok ⟨j2,ns,t :: s.own,t⟩
def rdPair(l:List UInt8)(s:Sd):Rs Sd :=
 match eG l s.i with
 | .error e=>.error e
 | .ok (k,j) =>
  match must l (bl l j) 61 with
  | .error e=>.error e
  | .ok j1 =>
   match aG s.ns s.now k with
   | some _=>.error (5,s.i)
   | none =>
    match val l (2*l.length+2) (bl l j1) s.now k s.i 0 s.ns with
    | .error e=>.error e
    | .ok (j2,ns)=>.ok ⟨j2,ns,s.own,s.now⟩
def jI(l:List UInt8)(s0:Sd):Rs Sd :=
 let s:Sd:=⟨bl l s0.i,s0.ns,s0.own,s0.now⟩
 match (if nx l s.i=91 then jS l s else if nx l s.i=34\/aV (nx l s.i)=true then rdPair l s else .ok s) with
 | .error e=>.error e
 | .ok s1 =>
  if(bi l (bl l s1.i)).1=false then .error (2,(bi l (bl l s1.i)).2)
  else if nx l (bi l (bl l s1.i)).2=-1 then .ok ⟨(bi l (bl l s1.i)).2,s1.ns,s1.own,s1.now⟩
  else match must l (bi l (bl l s1.i)).2 10 with
   | .error e=>.error e
   | .ok j=>.ok ⟨j,s1.ns,s1.own,s1.now⟩
def jW(l:List UInt8):Nat->Sd->Rs Sd
 | 0,s=>.ok s
 | f+1,s=>if l.length<=s.i then .ok s else match jI l s with | .error e=>.error e | .ok s1=>jW l f s1
def jf(l:List UInt8):Rs (List Tn) :=
 if 100000<l.length then .error (1,0)
 else match jW l (l.length+1) ⟨0,[⟨0,[],[],0,[],0⟩],[],0⟩ with
  | .error e=>.error e
  | .ok s=>.ok s.ns
def ax(ns:List Tn)(p:Nat):List Nat:=match ns[p]? with|some u=>u.ks|none=>[]
def mi(ns:List Tn)(k:List UInt8)(q:Nat):Bool:=match ns[q]? with|some x=>decide (x.ky=k)|none=>false
theorem uh(ns:List Tn)(t:Nat)(k:List UInt8):aG ns t k=(ax ns t).find? (mi ns k):=by
 unfold aG ax
 cases ns[t]?<;>rfl
theorem I5(ns:List Tn)(up:Nat)(n:Tn):∃X:List Tn,X.length=ns.length/\∀m,addN ns up m=X++[m]:=by
 unfold addN
 cases h:ns[up]? with
 | none=>exact⟨ns,rfl,fun _=>rfl⟩
 | some u=>exact⟨ns.set up { u with ks:=u.ks++[ns.length] },by simp,fun _=>rfl⟩
theorem bV(ns:List Tn)(up:Nat)(n:Tn):(addN ns up n).length=ns.length+1:=by
 obtain⟨X,h1,h2⟩:=I5 ns up n;rw[h2];simp[h1]
theorem I7(ns:List Tn)(up:Nat)(n m:Tn):(addN ns up n).set ns.length m=addN ns up m:=by
 obtain⟨X,h1,h2⟩:=I5 ns up n;rw[h2,h2,<-h1];simp
theorem ui(ns:List Tn)(up:Nat)(n:Tn)(hu:up<ns.length)(i:Nat):(addN ns up n)[i]?=if i=ns.length then some n else if i=up then some { ns[up] with ks:=ns[up].ks++[ns.length] } else ns[i]?:=by
 unfold addN;rw[List.getElem?_eq_getElem hu];simp only[]
 by_cases h:i=ns.length
 ·rw[if_pos h,h,List.getElem?_append_right (by simp)];simp
 ·rw[if_neg h]
  by_cases hl:i<ns.length
  ·rw[List.getElem?_append_left (by simpa using hl)]
   by_cases hup:i=up
   ·subst hup;rw[if_pos rfl,List.getElem?_set_self hl]
   ·rw[if_neg hup,List.getElem?_set_ne (fun e=>hup e.symm)]
  ·rw[List.getElem?_append_right (by simp;omega),if_neg (by omega),List.getElem?_eq_none (l:=ns) (by omega)];rw[List.getElem?_eq_none];simp;omega
theorem jX(ns:List Tn)(up:Nat)(n:Tn)(hu:up<ns.length)(p:Nat):ax (addN ns up n) p=if p=ns.length then n.ks else if p=up then ax ns up++[ns.length] else ax ns p:=by
 unfold ax;rw[ui ns up n hu]
 by_cases h:p=ns.length
 ·simp only[if_pos h]
 ·rw[if_neg h,if_neg h]
  by_cases h2:p=up
  ·rw[if_pos h2,if_pos h2,List.getElem?_eq_getElem hu]
  ·rw[if_neg h2,if_neg h2]
theorem eH(ns:List Tn)(up:Nat)(n:Tn)(hu:up<ns.length)(p:Nat):ag (addN ns up n) p=if p=ns.length then n.kd else ag ns p:=by
 unfold ag;rw[ui ns up n hu]
 by_cases h:p=ns.length
 ·simp only[if_pos h]
 ·rw[if_neg h,if_neg h]
  by_cases h2:p=up
  ·subst h2;rw[if_pos rfl,List.getElem?_eq_getElem hu]
  ·rw[if_neg h2]
theorem PN(ns:List Tn)(up:Nat)(n:Tn)(hu:up<ns.length)(k:List UInt8)(q:Nat):mi (addN ns up n) k q=if q=ns.length then decide (n.ky=k) else mi ns k q:=by
 unfold mi;rw[ui ns up n hu]
 by_cases h:q=ns.length
 ·simp only[if_pos h]
 ·rw[if_neg h,if_neg h]
  by_cases h2:q=up
  ·subst h2;rw[if_pos rfl,List.getElem?_eq_getElem hu]
  ·rw[if_neg h2]
structure WF(ns:List Tn)(own:List Nat):Prop where
 par:∀p p' q,q∈ax ns p->q∈ax ns p'->p=p'
 lt:∀p q,q∈ax ns p->q<ns.length
 own:∀q∈own,q<ns.length
 len:∀p,(ax ns p).length<=ns.length
theorem I8(ns:List Tn)(p:Nat)(h:ns.length<=p):ax ns p=[]:=by
 unfold ax;rw[List.getElem?_eq_none h]
theorem I9{α:Type}{p q:α->Bool}:∀(l:List α),(∀x∈l,p x=q x)->l.find? p=l.find? q
 | [],_=>rfl
 | a :: r,h=>by
  rw[List.find?_cons,List.find?_cons,h a (by simp),I9 r fun x hx=>h x (by simp[hx])]
theorem Ja(ns:List Tn)(own:List Nat)(up:Nat)(n:Tn)(hn:n.ks=[])(hu:up<ns.length)(W:WF ns own)(t:Nat)(k:List UInt8) :
  aG (addN ns up n) t k=if t=up then(match aG ns up k with|some q=>some q|none=>if n.ky=k then some ns.length else none) else if t=ns.length then none else aG ns t k:=by
 have hc:∀p,(ax ns p).find? (mi (addN ns up n) k)=aG ns p k:=fun p=>by
  rw[uh];refine I9 _ fun x hx=>?_
  have:=W.lt p x hx;rw[PN ns up n hu,if_neg (by omega)]
 rw[uh,jX ns up n hu]
 by_cases h1:t=up
 ·subst h1;rw[if_neg (by omega),if_pos rfl,if_pos rfl,List.find?_append,hc]
  cases aG ns t k with
  | some q=>rfl
  | none =>
   simp only[Option.none_or,List.find?_cons,PN ns t n hu,if_true,List.find?_nil]
   by_cases hk:n.ky=k
   ·rw[if_pos hk,decide_eq_true hk]
   ·rw[if_neg hk,decide_eq_false hk]
 ·rw[if_neg h1,if_neg h1]
  by_cases h2:t=ns.length
  ·rw[if_pos h2,if_pos h2,hn];rfl
  ·rw[if_neg h2,if_neg h2,hc]
def hold(ns:List Tn)(own:List Nat)(t:Nat)(k:List UInt8):Option (Nat × Bool):=if ag ns t=0 then(aG ns t k).map fun q=>(q,decide (q∈own)) else none
def xC(f:Nat->List UInt8->Option (Nat × Bool))(t:Nat)(k:List UInt8)(v:Nat × Bool):Nat->List UInt8->Option (Nat × Bool):=fun t' k'=>if t'=t/\k'=k then some v else f t' k'
theorem Fa{ns:List Tn}{t q:Nat}{k:List UInt8}(h:aG ns t k=some q):q∈ax ns t/\mi ns k q=true:=by
 rw[uh]at h;exact⟨List.mem_of_find?_eq_some h,List.find?_some h⟩
theorem Y2(ns:List Tn)(own:List Nat)(up:Nat)(n:Tn)(hn:n.ks=[])(hu:up<ns.length)(W:WF ns own)(h0:ag ns up=0)(hno:aG ns up n.ky=none):hold (addN ns up n) own=xC (hold ns own) up n.ky (ns.length,false):=by
 funext t k;unfold xC hold;rw[eH ns up n hu,Ja ns own up n hn hu W]
 by_cases h1:t=up
 ·subst h1;have hne:¬t=ns.length:=by omega
  simp only[if_neg hne,if_pos h0,true_and,if_true]
  by_cases hk:k=n.ky
  ·subst hk;rw[hno];simp only[if_true,Option.map_some];rw[decide_eq_false (fun hm=>by have:=W.own _ hm;omega)]
  ·have hk':¬n.ky=k:=fun e=>hk e.symm
   simp only[if_neg hk]
   cases aG ns t k with
   | some q=>rfl
   | none=>simp only[if_neg hk']
 ·have h1':¬(t=up/\k=n.ky):=fun h=>h1 h.1
  simp only[if_neg h1,if_neg h1']
  by_cases h2:t=ns.length
  ·have:aG ns t k=none:=by rw[uh,I8 ns t (by omega)];rfl
   rw[this];simp only[if_pos h2];simp
  ·simp only[if_neg h2]
theorem Y3(ns:List Tn)(own:List Nat)(up:Nat)(n:Tn)(hn:n.ks=[])(hu:up<ns.length)(W:WF ns own)(h0:¬ag ns up=0):hold (addN ns up n) own=hold ns own:=by
 funext t k;unfold hold;rw[eH ns up n hu,Ja ns own up n hn hu W]
 by_cases h1:t=up
 ·subst h1;have hne:¬t=ns.length:=by omega
  simp only[if_neg hne,if_neg h0]
 ·simp only[if_neg h1]
  by_cases h2:t=ns.length
  ·have:aG ns t k=none:=by rw[uh,I8 ns t (by omega)];rfl
   rw[this];simp only[if_pos h2];simp
  ·simp only[if_neg h2]
theorem rW(ns:List Tn)(own:List Nat)(up:Nat)(n:Tn)(hn:n.ks=[])(hu:up<ns.length)(W:WF ns own):WF (addN ns up n) own:=by
 have hk:∀p q,q∈ax (addN ns up n) p->(q=ns.length/\p=up)\/(q∈ax ns p/\q<ns.length):=fun p q h=>by
  rw[jX ns up n hu]at h
  by_cases h1:p=ns.length
  ·rw[if_pos h1,hn]at h;simp at h
  ·rw[if_neg h1]at h
   by_cases h2:p=up
   ·subst h2;rw[if_pos rfl]at h
    rcases List.mem_append.1 h with h|h
    ·exact Or.inr ⟨h,W.lt _ _ h⟩
    ·exact Or.inl ⟨by simpa using h,rfl⟩
   ·rw[if_neg h2]at h;exact Or.inr ⟨h,W.lt _ _ h⟩
 refine⟨fun p p' q h h'=>?_,fun p q h=>?_,fun q h=>?_,fun p=>?_⟩
 ·rcases hk p q h with⟨e1,e2⟩|⟨e1,e2⟩<;>rcases hk p' q h' with⟨e3,e4⟩|⟨e3,e4⟩
  ·rw[e2,e4]
  ·omega
  ·omega
  ·exact W.par p p' q e1 e3
 ·rw[bV]
  rcases hk p q h with⟨e1,e2⟩|⟨e1,e2⟩<;>omega
 ·rw[bV];have:=W.own q h;omega
 ·rw[bV,jX ns up n hu];have h1:=W.len p;have h2:=W.len up;split
  ·rw[hn];simp
  ·split
   ·simp;omega
   ·omega
theorem PO(ns:List Tn)(own:List Nat)(W:WF ns own)(t q:Nat)(k:List UInt8)(h0:ag ns t=0)(h:aG ns t k=some q):hold ns (q :: own)=xC (hold ns own) t k (q,true):=by
 funext t' k';unfold xC hold;obtain⟨hm,hy⟩:=Fa h
 by_cases h1:t'=t/\k'=k
 ·rw[if_pos h1,h1.1,h1.2,if_pos h0,h];simp
 ·rw[if_neg h1]
  by_cases h2:ag ns t'=0
  ·rw[if_pos h2,if_pos h2]
   cases hq:aG ns t' k' with
   | none=>rfl
   | some q' =>
    obtain⟨hm',hy'⟩:=Fa hq;have hne:¬q'=q:=fun e=>by
     subst e;have e1:=W.par _ _ _ hm' hm;unfold mi at hy hy'
     cases hx:ns[q']? with
     | none=>rw[hx]at hy;cases hy
     | some x =>
      rw[hx]at hy hy';exact h1 ⟨e1,(of_decide_eq_true hy').symm.trans (of_decide_eq_true hy)⟩
    simp[hne]
  ·rw[if_neg h2,if_neg h2]
theorem Y4(ns:List Tn)(own:List Nat)(W:WF ns own)(t q:Nat)(h0:¬ag ns t=0)(h:q∈ax ns t):hold ns (q :: own)=hold ns own:=by
 funext t' k';unfold hold
 by_cases h2:ag ns t'=0
 ·rw[if_pos h2,if_pos h2]
  cases hq:aG ns t' k' with
  | none=>rfl
  | some q' =>
   obtain⟨hm',hy'⟩:=Fa hq;have hne:¬q'=q:=fun e=>by
    subst e;have e1:=W.par _ _ _ hm' h;subst e1;exact h0 h2
   simp[hne]
 ·rw[if_neg h2,if_neg h2]
theorem PS(ns:List Tn)(own:List Nat)(W:WF ns own)(q:Nat)(h:q<ns.length):WF ns (q :: own) :=
 ⟨W.par,W.lt,fun x hx=>by
  rcases List.mem_cons.1 hx with rfl|hx
  ·exact h
  ·exact W.own x hx,W.len⟩
def WT(ns:List Tn):Prop:=∀q,ag ns q=2->ax ns q≠[]/\∀x∈ax ns q,ag ns x=0
theorem Y5(ns:List Tn)(q:Nat)(n:Tn)(hq:q<ns.length)(h1:n.kd=ns[q].kd)(h2:n.ky=ns[q].ky)(h3:n.ks=ns[q].ks):(∀p,ax (ns.set q n) p=ax ns p)/\(∀p,ag (ns.set q n) p=ag ns p)/\(∀k p,mi (ns.set q n) k p=mi ns k p):=by
 have key:∀p,p=q\/(ns.set q n)[p]?=ns[p]?:=fun p=>by
  by_cases h:p=q
  ·exact Or.inl h
  ·exact Or.inr (List.getElem?_set_ne (fun e=>h e.symm))
 have hs:(ns.set q n)[q]?=some n:=List.getElem?_set_self hq;have hn:ns[q]?=some ns[q]:=List.getElem?_eq_getElem hq;refine⟨fun p=>?_,fun p=>?_,fun k p=>?_⟩
 ·unfold ax
  rcases key p with rfl|h
  ·rw[hs,hn];exact h3
  ·rw[h]
 ·unfold ag
  rcases key p with rfl|h
  ·rw[hs,hn];exact h1
  ·rw[h]
 ·unfold mi
  rcases key p with rfl|h
  ·rw[hs,hn];simp only[h2]
  ·rw[h]
theorem Y6{ns ns':List Tn}(own:List Nat)(h1:∀p,ax ns' p=ax ns p)(h2:∀p,ag ns' p=ag ns p)(h3:∀k p,mi ns' k p=mi ns k p):hold ns' own=hold ns own:=by
 funext t k;unfold hold;rw[h2,uh,uh,h1,I9 (p:=mi ns' k) (q:=mi ns k) _ fun x _=>h3 k x]
open Go.Shelf Go.Sort
abbrev cb:=Lib.compareBytes
theorem PT:∀a:List UInt8,cb a a=0
 | []=>rfl
 | a :: r=>by
  show(if a<a then -1 else if a<a then 1 else cb r r)=(0:Int);rw[if_neg (UInt8.lt_irrefl a),if_neg (UInt8.lt_irrefl a)];exact PT r
theorem yX(a:UInt8)(al:List UInt8)(b:UInt8)(bl2:List UInt8):cb (a :: al) (b :: bl2)=if a<b then -1 else if b<a then 1 else cb al bl2:=rfl
theorem xE:∀a b:List UInt8,cb a b=- cb b a
 | [],[]=>rfl
 | [],_ :: _=>rfl
 | _ :: _,[]=>rfl
 | a :: al,b :: bl2=>by
  rw[yX,yX]
  by_cases h1:a<b
  ·rw[if_pos h1,if_neg (fun h=>UInt8.lt_irrefl a (UInt8.lt_trans h1 h)),if_pos h1]
  ·rw[if_neg h1]
   by_cases h2:b<a
   ·rw[if_pos h2,if_pos h2];rfl
   ·rw[if_neg h2,if_neg h2,if_neg h1];exact xE al bl2
theorem PU:∀a b:List UInt8,cb a b=0->a=b
 | [],[],_=>rfl
 | [],_ :: _,h=>by cases h
 | _ :: _,[],h=>by cases h
 | a :: al,b :: bl2,h=>by
  rw[yX]at h
  by_cases h1:a<b
  ·rw[if_pos h1]at h;cases h
  ·rw[if_neg h1]at h
   by_cases h2:b<a
   ·rw[if_pos h2]at h;cases h
   ·rw[if_neg h2]at h;have e:a=b:=UInt8.le_antisymm (UInt8.not_lt.1 h2) (UInt8.not_lt.1 h1);rw[e,PU al bl2 h]
theorem Fe:∀a b c:List UInt8,cb a b<=0->cb b c<=0->cb a c<=0/\(cb a c=0->cb a b=0/\cb b c=0)
 | [],b,[],h1,h2=>by
  cases b with
  | nil=>exact⟨Int.le_refl _,fun _=>⟨rfl,rfl⟩⟩
  | cons b bl2=>exact absurd (show(1:Int)<=0 from h2) (by decide)
 | [],b,c :: cl,h1,h2=>⟨show(-1:Int)<=0 by decide,fun h=>by cases h⟩
 | a :: al,[],c,h1,h2=>absurd (show(1:Int)<=0 from h1) (by decide)
 | a :: al,b :: bl2,[],h1,h2=>absurd (show(1:Int)<=0 from h2) (by decide)
 | a :: al,b :: bl2,c :: cl,h1,h2=>by
  rw[yX]at h1 h2 ⊢
  by_cases x1:a<b
  ·by_cases y1:b<c
   ·rw[if_pos (UInt8.lt_trans x1 y1)];exact⟨by decide,fun h=>by cases h⟩
   ·rw[if_neg y1]at h2
    by_cases y2:c<b
    ·rw[if_pos y2]at h2;exact absurd h2 (by decide)
    ·have e:b=c:=UInt8.le_antisymm (UInt8.not_lt.1 y2) (UInt8.not_lt.1 y1);rw[<-e,if_pos x1];exact⟨by decide,fun h=>by cases h⟩
  ·rw[if_neg x1]at h1
   by_cases x2:b<a
   ·rw[if_pos x2]at h1;exact absurd h1 (by decide)
   ·rw[if_neg x2]at h1;have e:a=b:=UInt8.le_antisymm (UInt8.not_lt.1 x2) (UInt8.not_lt.1 x1);subst e
    by_cases y1:a<c
    ·rw[if_pos y1];exact⟨by decide,fun h=>by cases h⟩
    ·rw[if_neg y1]at h2 ⊢
     by_cases y2:c<a
     ·rw[if_pos y2]at h2;exact absurd h2 (by decide)
     ·rw[if_neg y2]at h2;rw[if_neg y2,yX,if_neg (UInt8.lt_irrefl a),if_neg (UInt8.lt_irrefl a),yX,if_neg y1,if_neg y2];exact Fe al bl2 cl h1 h2
def aW(ns:List Tn)(q:Nat):List UInt8:=match ns[q]? with|some u=>u.ky|none=>[]
theorem Y7{α:Type}(f:α->List UInt8):SWO (ltOf fun x y=>cb (f x) (f y)) where
 irrefl x:=decide_eq_false (show ¬cb (f x) (f x)<0 by rw[PT];decide)
 trans x y z h1 h2:=by
  have a1:cb (f x) (f y)<0:=of_decide_eq_true h1;have a2:cb (f y) (f z)<0:=of_decide_eq_true h2;obtain⟨b1,b2⟩:=Fe (f x) (f y) (f z) (by omega) (by omega);refine decide_eq_true (show cb (f x) (f z)<0 from ?_);apply Classical.byContradiction;intro hn;have:=(b2 (by omega)).1;omega
 ntrans x y z h1 h2:=by
  have a1:¬cb (f x) (f y)<0:=of_decide_eq_false h1;have a2:¬cb (f y) (f z)<0:=of_decide_eq_false h2;refine decide_eq_false (show ¬cb (f x) (f z)<0 from ?_);have c1:=xE (f x) (f y);have c2:=xE (f y) (f z);have c3:=xE (f x) (f z);obtain⟨b1,b2⟩:=Fe (f z) (f y) (f x) (by omega) (by omega);omega
theorem PV{α:Type}(lt:α->α->Prop)(asym:∀a b,lt a b->¬lt b a):∀(l1 l2:List α),l1.Perm l2->l1.Pairwise lt->l2.Pairwise lt->l1=l2
 | [],l2,hp,_,_=>by rw[List.nil_perm.1 hp]
 | a :: r,[],hp,_,_=>by have:=hp.length_eq;simp at this
 | a :: r,b :: s,hp,h1,h2=>by
  have e:a=b:=by
   apply Classical.byContradiction;intro hne;have ha:a∈b :: s:=hp.subset (by simp);have hb:b∈a :: r:=hp.symm.subset (by simp);have ha':a∈s:=by rcases List.mem_cons.1 ha with h|h;exact absurd h hne;exact h
   have hb':b∈r:=by rcases List.mem_cons.1 hb with h|h;exact absurd h.symm hne;exact h
   exact asym a b ((List.pairwise_cons.1 h1).1 b hb') ((List.pairwise_cons.1 h2).1 a ha')
  subst e;rw[PV lt asym r s hp.cons_inv (List.pairwise_cons.1 h1).2 (List.pairwise_cons.1 h2).2]
def dQ(ns:List Tn)(t:Nat):List Nat:=(ax ns t).mergeSort fun a b=>decide (cb (aW ns a) (aW ns b)<=0)
def KD(ns:List Tn)(t:Nat):Prop:=(ax ns t).Pairwise fun a b=>aW ns a≠aW ns b
theorem xG(ns:List Tn)(t:Nat):(dQ ns t).Perm (ax ns t):=List.mergeSort_perm _ _
theorem Ff(ns:List Tn)(t:Nat)(h:KD ns t)(E:List Nat)(hp:E.Perm (ax ns t))(hs:E.Pairwise fun a b=>cb (aW ns a) (aW ns b)<=0):E=dQ ns t:=by
 have key:∀L:List Nat,L.Perm (ax ns t)->(L.Pairwise fun a b=>cb (aW ns a) (aW ns b)<=0)->L.Pairwise fun a b=>cb (aW ns a) (aW ns b)<0:=fun L hL hp=>by
  have hd:L.Pairwise fun a b=>aW ns a≠aW ns b:=(hL.pairwise_iff (fun {a b} h=>Ne.symm h)).2 h
  refine(hp.and hd).imp fun {a b} ⟨h1,h2⟩=>?_
  have:cb (aW ns a) (aW ns b)≠0:=fun e=>h2 (PU _ _ e)
  omega
 refine PV (fun a b=>cb (aW ns a) (aW ns b)<0) (fun a b h1 h2=>?_) E (dQ ns t) (hp.trans (xG ns t).symm) (key E hp hs) (key _ (xG ns t) ?_)
 ·have:=xE (aW ns a) (aW ns b);omega
 ·have:=List.pairwise_mergeSort (le:=fun a b=>decide (cb (aW ns a) (aW ns b)<=0)) (fun a b c h1 h2=>decide_eq_true (Fe _ _ _ (of_decide_eq_true h1) (of_decide_eq_true h2)).1) (fun a b=>by
   have:=xE (aW ns a) (aW ns b)
   by_cases h:cb (aW ns a) (aW ns b)<=0
   ·simp[h]
   ·have h2:cb (aW ns b) (aW ns a)<=0:=by omega
    simp[h2]) (ax ns t)
  exact this.imp fun h=>of_decide_eq_true h
def uT(c x1 x2 x3:Int):Nat :=
 if c<0 then 0
 else if c<128 then 1
 else if c<194\/244<c then 0
 else if decide ((if c=224 then 160 else if c=240 then 144 else 128)<=x1/\x1<=(if c=237 then 159 else if c=244 then 143 else 191))=false then 0
 else if c<224 then 2
 else if decide (128<=x2/\x2<=191)=false then 0
 else if c<240 then 3
 else if decide (128<=x3/\x3<=191)=false then 0
 else 4
theorem Y8(l:List UInt8)(i:Nat):aX l i=uT (nx l i) (nx l (i+1)) (nx l (i+2)) (nx l (i+3)):=rfl
theorem Y9(b0:Nat)(x1 x2 x3:Int)(h:b0<128):uT (b0:Int) x1 x2 x3=1:=by
 unfold uT;rw[if_neg (by omega),if_pos (by omega)]
theorem Za(b0:Nat)(x1 x2 x3:Int)(h:128<=b0)(h2:b0<194\/244<b0):uT (b0:Int) x1 x2 x3=0:=by
 unfold uT;rw[if_neg (by omega),if_neg (by omega),if_pos (by omega)]
theorem xH(b0:Nat)(x1 x2 x3:Int)(lo hi:Int)(h:194<=b0/\b0<=244)(hlo:(if(b0:Int)=224 then 160 else if(b0:Int)=240 then 144 else 128)=lo)(hhi:(if(b0:Int)=237 then 159 else if(b0:Int)=244 then 143 else 191)=hi) :
  uT (b0:Int) x1 x2 x3=if lo<=x1/\x1<=hi then(if b0<224 then 2 else if 128<=x2/\x2<=191 then(if b0<240 then 3 else if 128<=x3/\x3<=191 then 4 else 0) else 0) else 0:=by
 unfold uT;rw[if_neg (by omega),if_neg (by omega),if_neg (by omega),hlo,hhi]
 by_cases h1:lo<=x1/\x1<=hi
 ·rw[if_neg (by simp[h1]),if_pos h1]
  by_cases h2:b0<224
  ·rw[if_pos (by omega),if_pos h2]
  ·rw[if_neg (by omega),if_neg h2]
   by_cases h3:128<=x2/\x2<=191
   ·rw[if_neg (by simp[h3]),if_pos h3]
    by_cases h4:b0<240
    ·rw[if_pos (by omega),if_pos h4]
    ·rw[if_neg (by omega),if_neg h4]
     by_cases h5:128<=x3/\x3<=191
     ·rw[if_neg (by simp[h5]),if_pos h5]
     ·rw[if_pos (by simpa using h5),if_neg h5]
   ·rw[if_pos (by simpa using h3),if_neg h3]
 ·rw[if_pos (by simpa using h1),if_neg h1]
def Told(S:Nat)(q:Nat × Nat):Prop:=(S=0->q=(65533,1))/\(0<S->q.2=S/\¬(q.1=65533/\q.2=1))
theorem Zb(n b0 b1 b2 b3 sz lo hi:Nat)(hsz:sz=2\/sz=3\/sz=4)(h:n<sz\/(b1<lo\/hi<b1)\/(3<=sz/\(b2<128\/191<b2))\/(4<=sz/\(b3<128\/191<b3))):Lib.slowN n b0 b1 b2 b3 sz lo hi=(65533,1):=by
 unfold Lib.slowN
 by_cases a1:n<sz
 ·rw[if_pos a1]
 rw[if_neg a1]
 by_cases a2:b1<lo\/hi<b1
 ·rw[if_pos a2]
 rw[if_neg a2,if_neg (show ¬sz<=2 by omega)]
 by_cases a3:b2<128\/191<b2
 ·rw[if_pos a3]
 rw[if_neg a3,if_neg (show ¬sz<=3 by omega),if_pos (by omega)]
theorem Zc(n b0 b1 b2 b3 sz lo hi:Nat)(hsz:sz=2\/sz=3\/sz=4)(h:¬(n<sz\/(b1<lo\/hi<b1)\/(3<=sz/\(b2<128\/191<b2))\/(4<=sz/\(b3<128\/191<b3)))):(Lib.slowN n b0 b1 b2 b3 sz lo hi).2=sz:=by
 unfold Lib.slowN;rw[if_neg (by omega),if_neg (by omega)]
 by_cases a2:sz<=2
 ·rw[if_pos a2];show 2=sz;omega
 rw[if_neg a2,if_neg (by omega)]
 by_cases a3:sz<=3
 ·rw[if_pos a3];show 3=sz;omega
 rw[if_neg a3,if_neg (by omega)];show 4=sz;omega
theorem xI(n b0 b1 b2 b3 sz lo hi:Nat)(x1 x2 x3:Int)(hsz:(b0<224/\sz=2)\/(224<=b0/\b0<240/\sz=3)\/(240<=b0/\sz=4))(hlo:128<=lo)(hn:1<=n)
  (e1:x1=if 1<n then(b1:Int) else -1) (e2:x2=if 2<n then(b2:Int) else -1) (e3:x3=if 3<n then(b3:Int) else -1) :
  Told (if(lo:Int)<=x1/\x1<=(hi:Int) then(if b0<224 then 2 else if 128<=x2/\x2<=191 then(if b0<240 then 3 else if 128<=x3/\x3<=191 then 4 else 0) else 0) else 0) (Lib.slowN n b0 b1 b2 b3 sz lo hi):=by
 have f1:(1<n/\x1=b1)\/(n<=1/\x1=-1):=by
  by_cases a:1<n
  ·rw[if_pos a]at e1;exact Or.inl ⟨a,e1⟩
  ·rw[if_neg a]at e1;exact Or.inr ⟨by omega,e1⟩
 have f2:(2<n/\x2=b2)\/(n<=2/\x2=-1):=by
  by_cases a:2<n
  ·rw[if_pos a]at e2;exact Or.inl ⟨a,e2⟩
  ·rw[if_neg a]at e2;exact Or.inr ⟨by omega,e2⟩
 have f3:(3<n/\x3=b3)\/(n<=3/\x3=-1):=by
  by_cases a:3<n
  ·rw[if_pos a]at e3;exact Or.inl ⟨a,e3⟩
  ·rw[if_neg a]at e3;exact Or.inr ⟨by omega,e3⟩
 clear e1 e2 e3
 by_cases hb:n<sz\/(b1<lo\/hi<b1)\/(3<=sz/\(b2<128\/191<b2))\/(4<=sz/\(b3<128\/191<b3))
 ·rw[Zb n b0 b1 b2 b3 sz lo hi (by omega) hb];refine⟨fun _=>rfl,fun hp=>?_⟩;exfalso
  by_cases a1:(lo:Int)<=x1/\x1<=(hi:Int)
  ·rw[if_pos a1]at hp
   by_cases a2:b0<224
   ·omega
   rw[if_neg a2]at hp
   by_cases a3:128<=x2/\x2<=191
   ·rw[if_pos a3]at hp
    by_cases a4:b0<240
    ·omega
    rw[if_neg a4]at hp
    by_cases a5:128<=x3/\x3<=191
    ·omega
    ·rw[if_neg a5]at hp;omega
   ·rw[if_neg a3]at hp;omega
  ·rw[if_neg a1]at hp;omega
 ·have hg:=Zc n b0 b1 b2 b3 sz lo hi (by omega) hb;have hS:(if(lo:Int)<=x1/\x1<=(hi:Int) then(if b0<224 then 2 else if 128<=x2/\x2<=191 then(if b0<240 then 3 else if 128<=x3/\x3<=191 then 4 else 0) else 0) else 0)=sz:=by
   rw[if_pos (by omega)]
   by_cases a2:b0<224
   ·rw[if_pos a2];omega
   rw[if_neg a2,if_pos (by omega)]
   by_cases a4:b0<240
   ·rw[if_pos a4];omega
   rw[if_neg a4,if_pos (by omega)];omega
  rw[hS];exact⟨fun hz=>absurd hz (by omega),fun _=>⟨hg,fun hh=>by omega⟩⟩
theorem Zd(b0:Nat)(h:128<=b0)(h2:b0<194\/244<b0):Lib.firstT b0=241:=by
 unfold Lib.firstT;rw[if_neg (by omega)]
 by_cases a:b0<194
 ·rw[if_pos a]
 ·rw[if_neg a,if_neg (by omega),if_neg (by omega),if_neg (by omega),if_neg (by omega),if_neg (by omega),if_neg (by omega),if_neg (by omega),if_neg (by omega)]
theorem Ze(n b0 b1 b2 b3:Nat)(x1 x2 x3:Int)(hn:1<=n)(h0:b0<256)(h1:b1<256)(h2:b2<256)(h3:b3<256)
  (e1:x1=if 1<n then(b1:Int) else -1) (e2:x2=if 2<n then(b2:Int) else -1) (e3:x3=if 3<n then(b3:Int) else -1) :
  Told (uT (b0:Int) x1 x2 x3) (Lib.decodeN n b0 b1 b2 b3):=by
 by_cases ha:b0<128
 ·rw[Y9 b0 x1 x2 x3 ha,Lib.ascii_eq n b0 b1 b2 b3 (by unfold Lib.firstT;rw[if_pos ha])];exact⟨fun h=>(by cases h),fun _=>⟨rfl,fun hh=>by simp at hh;omega⟩⟩
 by_cases hb:b0<194\/244<b0
 ·rw[Za b0 x1 x2 x3 (by omega) hb,Lib.bad_eq n b0 b1 b2 b3 h0 (Zd b0 (by omega) hb)];exact⟨fun _=>rfl,fun h=>absurd h (by decide)⟩
 have hr:194<=b0/\b0<=244:=by omega
 by_cases c1:b0<224
 ·rw[<-Lib.slow_C2 n b0 b1 b2 b3 hn h1 h2 h3 (by omega),xH b0 x1 x2 x3 128 191 hr (by rw[if_neg (by omega),if_neg (by omega)]) (by rw[if_neg (by omega),if_neg (by omega)])];exact xI n b0 b1 b2 b3 2 128 191 x1 x2 x3 (by omega) (by omega) hn e1 e2 e3
 by_cases c2:b0=224
 ·rw[<-Lib.slow_E0 n b0 b1 b2 b3 hn h1 h2 h3 c2,xH b0 x1 x2 x3 160 191 hr (by rw[if_pos (by omega)]) (by rw[if_neg (by omega),if_neg (by omega)])];exact xI n b0 b1 b2 b3 3 160 191 x1 x2 x3 (by omega) (by omega) hn e1 e2 e3
 by_cases c3:b0=237
 ·rw[<-Lib.slow_ED n b0 b1 b2 b3 hn h1 h2 h3 c3,xH b0 x1 x2 x3 128 159 hr (by rw[if_neg (by omega),if_neg (by omega)]) (by rw[if_pos (by omega)])];exact xI n b0 b1 b2 b3 3 128 159 x1 x2 x3 (by omega) (by omega) hn e1 e2 e3
 by_cases c4:b0<240
 ·rw[<-Lib.slow_E1 n b0 b1 b2 b3 hn h1 h2 h3 (by omega),xH b0 x1 x2 x3 128 191 hr (by rw[if_neg (by omega),if_neg (by omega)]) (by rw[if_neg (by omega),if_neg (by omega)])];exact xI n b0 b1 b2 b3 3 128 191 x1 x2 x3 (by omega) (by omega) hn e1 e2 e3
 by_cases c5:b0=240
 ·rw[<-Lib.slow_F0 n b0 b1 b2 b3 hn h1 h2 h3 c5,xH b0 x1 x2 x3 144 191 hr (by rw[if_neg (by omega),if_pos (by omega)]) (by rw[if_neg (by omega),if_neg (by omega)])];exact xI n b0 b1 b2 b3 4 144 191 x1 x2 x3 (by omega) (by omega) hn e1 e2 e3
 by_cases c6:b0=244
 ·rw[<-Lib.slow_F4 n b0 b1 b2 b3 hn h1 h2 h3 c6,xH b0 x1 x2 x3 128 143 hr (by rw[if_neg (by omega),if_neg (by omega)]) (by rw[if_neg (by omega),if_pos (by omega)])];exact xI n b0 b1 b2 b3 4 128 143 x1 x2 x3 (by omega) (by omega) hn e1 e2 e3
 ·rw[<-Lib.slow_F1 n b0 b1 b2 b3 hn h1 h2 h3 (by omega),xH b0 x1 x2 x3 128 191 hr (by rw[if_neg (by omega),if_neg (by omega)]) (by rw[if_neg (by omega),if_neg (by omega)])];exact xI n b0 b1 b2 b3 4 128 191 x1 x2 x3 (by omega) (by omega) hn e1 e2 e3
theorem Zf{c:UInt8}(h:aS c=true):c≠46:=by
 intro e;subst e;exact absurd h (by decide)
theorem Fg(p:UInt8->Bool)(l:List UInt8)(i:Nat):(ah l i (runN p l i)).all p=true:=by
 rw[Y1];exact List.all_takeWhile
theorem rX(l:List UInt8)(i k:Nat)(h:i+k<=l.length):(ah l i k).length=k:=by
 unfold ah;simp;omega
theorem Zg(u:Nat)(h:u<10):(UInt8.ofNat (48+u)).toNat=48+u:=by
 show(48+u) % 256=48+u;omega
theorem Zh(l:List UInt8)(hne:l≠[])(hd:l.all aC=true)(hz:¬(1<l.length/\l[0]?=some 48)):Lib.decDigits (aK l).toNat=l:=by
 -- the last digit off
 have key:∀(n:Nat) (l:List UInt8),l.length=n->l≠[]->l.all aC=true->¬(1<l.length/\l[0]?=some 48)->Lib.decDigits (aK l).toNat=l/\(1<l.length->0<aK l.dropLast):=by
  intro n
  induction n with
  | zero=>intro l hl hne;exact absurd (List.length_eq_zero_iff.1 hl) hne
  | succ n ih =>
   intro l hl hne hd hz;obtain⟨q,c,rfl⟩:∃q c,l=q++[c]:=⟨l.dropLast,l.getLast hne,(List.dropLast_concat_getLast hne).symm⟩;have hd':=hd;rw[List.all_append,Bool.and_eq_true]at hd';have hc:=yU (show aC c=true by simpa using hd'.2);have hcv:UInt8.ofNat (48+(c.toNat - 48))=c:=by
    apply UInt8.toNat_inj.1;rw[Zg _ (by omega)];omega
   rw[List.dropLast_concat]
   by_cases hq:q=[]
   ·subst hq;refine⟨?_,by simp⟩;have hv:aK ([]++[c])=(c.toNat:Int)-48:=by show qE 0 c=_;unfold qE;omega
    have hn:((c.toNat:Int)-48).toNat=c.toNat - 48:=by omega
    rw[hv,hn,Lib.decDigits_one (by omega),hcv];rfl
   ·have gI:0<q.length:=List.length_pos_iff.2 hq;have hz1:q[0]?≠some 48:=by
     intro h;refine hz ⟨by simp;omega,?_⟩;rw[List.getElem?_append_left gI];exact h
    have hlen:q.length=n:=by simp at hl;exact hl
    have h1:=ih q hlen hq hd'.1 (fun h=>hz1 h.2);have hpos:0<aK q:=by
     rcases Nat.lt_or_ge 1 q.length with hgt|hle
     ·have h2:=h1.2 hgt;have:aK q.dropLast<=aK q:=by
       conv=>rhs;rw[<-List.dropLast_concat_getLast hq]
       exact PL _ _ (by rw[List.dropLast_concat_getLast hq];exact hd'.1)
      omega
     ·obtain⟨x,rfl⟩:∃x,q=[x]:=List.length_eq_one_iff.1 (by omega);have hx:=yU (show aC x=true by simpa using hd'.1);have hx0:x.toNat≠48:=fun hh=>hz1 (by
       have:x=48:=UInt8.toNat_inj.1 hh;rw[this];rfl)
      show 0<qE 0 x;unfold qE;omega
    refine⟨?_,fun _=>hpos⟩;rw[PK];have hv:(qE (aK q) c).toNat=10*(aK q).toNat+(c.toNat - 48):=by unfold qE;omega
    rw[hv,Lib.decDigits,dif_neg (by omega)];have e1:(10*(aK q).toNat+(c.toNat - 48)) / 10=(aK q).toNat:=by omega
    have e2:(10*(aK q).toNat+(c.toNat - 48)) % 10=c.toNat - 48:=by omega
    rw[e1,e2,h1.1,hcv]
 exact(key _ l rfl hne hd hz).1
theorem Zi(l:List UInt8)(i:Nat)(hi:i<=l.length)(h:(rdNum l i).1=0) :
  ∃k,0<k/\i+k<=l.length/\(rdNum l i).2.2=i+k/\ah l i k=Lib.decDigits (rdNum l i).2.1.toNat/\0<=(rdNum l i).2.1/\(rdNum l i).2.1<=999999999:=by
 have hle:=rU aC l i hi;have hall:=Fg aC l i;have hlen:=rX l i _ hle;unfold rdNum at h ⊢
 by_cases h0:runN aC l i=0
 ·rw[if_pos h0]at h;simp at h
 ·rw[if_neg h0]at h ⊢
  by_cases hz:1<runN aC l i/\l[i]?=some 48
  ·rw[if_pos hz]at h;simp at h
  ·rw[if_neg hz]at h ⊢
   by_cases hv:aK (ah l i (runN aC l i)) > 999999999
   ·rw[if_pos hv]at h;simp at h
   ·rw[if_neg hv];refine⟨runN aC l i,by omega,hle,rfl,?_,EY _ hall,Int.not_lt.1 hv⟩;have hne:ah l i (runN aC l i)≠[]:=fun e=>by rw[e]at hlen;simp at hlen;omega
    have h48:(ah l i (runN aC l i))[0]?=l[i]?:=by
     unfold ah;rw[List.getElem?_take_of_lt (by omega),List.getElem?_drop];rfl
    rw[Zh _ hne hall (by rw[hlen,h48];exact hz)]
theorem Zj(l:List UInt8)(i k j:Nat)(hk:i+k<j)(hj:j<=l.length)(h46:l[i+k]?=some 46) :
  ah l i (j-i)=ah l i k++46 :: ah l (i+k+1) (j-(i+k+1)):=by
 unfold ah;obtain⟨hlt,e⟩:=List.getElem?_eq_some_iff.1 h46;have h1:j-i=k+((j-(i+k+1))+1):=by omega
 rw[h1,List.take_add,List.drop_drop,List.drop_eq_getElem_cons hlt,List.take_succ_cons,e]
theorem Fh(s:Bool)(l:List UInt8):∀(n i:Nat),l.length-i=n->i<=l.length->(ak s l i).1=0 →
  i<(ak s l i).2/\(ak s l i).2<=l.length/\(kZ (ah l i ((ak s l i).2-i))).all (yV s)=true:=by
 intro n
 induction n using Nat.strongRecOn with
 | ind n ih =>
  intro i hn hi h;have hle:=rU aS l i hi;have hall:=Fg aS l i;have hlen:=rX l i _ hle;have hnd:∀x∈ah l i (runN aS l i),x≠46:=fun x hx=>Zf (List.all_eq_true.1 hall x hx)
  rw[EZ]at h ⊢
  by_cases h0:runN aS l i=0
  ·rw[if_pos h0]at h;simp at h
  ·rw[if_neg h0]at h ⊢
   by_cases hb:iY s (ah l i (runN aS l i))=true
   ·rw[if_pos hb]at h;simp at h
   ·rw[if_neg hb]at h ⊢;have hok:yV s (ah l i (runN aS l i))=true:=by
     have h1:(ah l i (runN aS l i)).isEmpty=false:=by
      cases h:ah l i (runN aS l i) with
      | nil=>rw[h]at hlen;simp at hlen;omega
      | cons c r=>rfl
     have h2:iY s (ah l i (runN aS l i))=false:=by simpa using hb
     simp[yV,h1,hall,h2]
    by_cases hg:l[i+runN aS l i]?=some 46
    ·rw[if_pos hg]at h ⊢;have hlt:=(List.getElem?_eq_some_iff.1 hg).1;obtain⟨g1,g2,g3⟩:=ih (l.length-(i+runN aS l i+1)) (by omega) (i+runN aS l i+1) rfl (by omega) h;refine⟨by omega,g2,?_⟩;rw[Zj l i (runN aS l i) _ (by omega) g2 hg,PD _ _ hnd,List.all_cons,hok,g3];rfl
    ·rw[if_neg hg];refine⟨by simp only;omega,hle,?_⟩;simp only;rw[show i+runN aS l i-i=runN aS l i by omega,Pz _ hnd];simp[hok]
structure Vv where
 major:Int
 minor:Int
 patch:Int
 pre:List UInt8
 build:List UInt8
def zeroV:Vv:=⟨0,0,0,[],[]⟩
def aO(c:UInt8)(s:Bool)(l:List UInt8)(i:Nat):Int × Nat × List UInt8 :=
 if l[i]?=some c then
  (if(ak s l (i+1)).1=0 then(0,(ak s l (i+1)).2,ah l (i+1) ((ak s l (i+1)).2-(i+1))) else((ak s l (i+1)).1,(ak s l (i+1)).2,[]))
 else(0,i,[])
def bg(l:List UInt8):Int × Nat × Int × Int × Int :=
 if(rdNum l 0).1=0 then
  if l[(rdNum l 0).2.2]?=some 46 then
   if(rdNum l ((rdNum l 0).2.2+1)).1=0 then
    if l[(rdNum l ((rdNum l 0).2.2+1)).2.2]?=some 46 then
     if(rdNum l ((rdNum l ((rdNum l 0).2.2+1)).2.2+1)).1=0 then
      (0,(rdNum l ((rdNum l ((rdNum l 0).2.2+1)).2.2+1)).2.2,(rdNum l 0).2.1,(rdNum l ((rdNum l 0).2.2+1)).2.1,(rdNum l ((rdNum l ((rdNum l 0).2.2+1)).2.2+1)).2.1)
     else((rdNum l ((rdNum l ((rdNum l 0).2.2+1)).2.2+1)).1,(rdNum l ((rdNum l ((rdNum l 0).2.2+1)).2.2+1)).2.2,0,0,0)
    else(2,(rdNum l ((rdNum l 0).2.2+1)).2.2,0,0,0)
   else((rdNum l ((rdNum l 0).2.2+1)).1,(rdNum l ((rdNum l 0).2.2+1)).2.2,0,0,0)
  else(2,(rdNum l 0).2.2,0,0,0)
 else((rdNum l 0).1,(rdNum l 0).2.2,0,0,0)
def dw(l:List UInt8):Int × Nat × Vv :=
 if(bg l).1=0 then
  if(aO 45 true l (bg l).2.1).1=0 then
   if(aO 43 false l (aO 45 true l (bg l).2.1).2.1).1=0 then
    if(aO 43 false l (aO 45 true l (bg l).2.1).2.1).2.1<l.length then(2,(aO 43 false l (aO 45 true l (bg l).2.1).2.1).2.1,zeroV)
    else(0,0,⟨(bg l).2.2.1,(bg l).2.2.2.1,(bg l).2.2.2.2,(aO 45 true l (bg l).2.1).2.2,(aO 43 false l (aO 45 true l (bg l).2.1).2.1).2.2⟩)
   else((aO 43 false l (aO 45 true l (bg l).2.1).2.1).1,(aO 43 false l (aO 45 true l (bg l).2.1).2.1).2.1,zeroV)
  else((aO 45 true l (bg l).2.1).1,(aO 45 true l (bg l).2.1).2.1,zeroV)
 else((bg l).1,(bg l).2.1,zeroV)
def jT(l:List UInt8):Int × Nat × Vv:=if 100<l.length then(1,0,zeroV) else dw l
def yY(c:UInt8)(p:List UInt8):List UInt8:=if p=[] then[] else c :: p
def Jb(v:Vv):List UInt8:=Lib.itoa v.major++(46 :: (Lib.itoa v.minor++(46 :: (Lib.itoa v.patch++(yY 45 v.pre++yY 43 v.build)))))
def bound(n:Int):Bool:=decide (0<=n) && decide (n<=1000000000)
theorem PW{n:Int}:bound n=true↔0<=n/\n<=1000000000:=by unfold bound;simp
def Jc(v:Vv):Bool:=bound v.major && (bound v.minor && (bound v.patch && (xA true v.pre && xA false v.build)))
theorem Jd{n:Int}(h:0<=n):Lib.itoa n=Lib.decDigits n.toNat:=by unfold Lib.itoa;rw[if_neg (by omega)]
theorem Zk{s:Bool}{l:List UInt8}(h:xA s l=true)(hne:l≠[]):(kZ l).all (yV s)=true:=by
 have:l.isEmpty=false:=by simpa using hne
 unfold xA at h;rw[this,Bool.false_or]at h;exact h
theorem PX{l:List UInt8}{i k:Nat}:l.drop i=ah l i k++l.drop (i+k):=by
 unfold ah;rw[<-List.drop_drop,List.take_append_drop]
theorem drop_cons{l:List UInt8}{i:Nat}{c:UInt8}(h:l[i]?=some c):l.drop i=c :: l.drop (i+1)/\i<l.length:=by
 obtain⟨hlt,e⟩:=List.getElem?_eq_some_iff.1 h;rw[List.drop_eq_getElem_cons hlt,e];exact⟨rfl,hlt⟩
theorem Je(l:List UInt8)(i:Nat)(hi:i<=l.length)(h:(rdNum l i).1=0) :
  (rdNum l i).2.2<=l.length/\l.drop i=Lib.itoa (rdNum l i).2.1++l.drop (rdNum l i).2.2/\0<=(rdNum l i).2.1/\(rdNum l i).2.1<=999999999:=by
 obtain⟨k,h1,h2,h3,h4,h5,h6⟩:=Zi l i hi h;refine⟨by omega,?_,h5,h6⟩;rw[Jd h5,<-h4,h3];exact PX
theorem PY(l:List UInt8)(h:(bg l).1=0) :
  (bg l).2.1<=l.length/\l=Lib.itoa (bg l).2.2.1++46 :: (Lib.itoa (bg l).2.2.2.1++46 :: (Lib.itoa (bg l).2.2.2.2++l.drop (bg l).2.1)) ∧
  (0<=(bg l).2.2.1/\(bg l).2.2.1<=999999999)/\(0<=(bg l).2.2.2.1/\(bg l).2.2.2.1<=999999999)/\(0<=(bg l).2.2.2.2/\(bg l).2.2.2.2<=999999999):=by
 unfold bg at h ⊢;split at h
 ·rename_i e1;split at h
  ·rename_i g1;split at h
   ·rename_i e2;split at h
    ·rename_i g2;split at h
     ·rename_i e3;obtain⟨a1,a2,a3⟩:=Je l 0 (Nat.zero_le _) e1;obtain⟨c1,c2⟩:=drop_cons g1;obtain⟨b1,b2,b3⟩:=Je l _ (by omega) e2;obtain⟨c3,c4⟩:=drop_cons g2;obtain⟨d1,d2,d3⟩:=Je l _ (by omega) e3;simp only[e1,g1,e2,g2,e3,if_true];refine⟨d1,?_,a3,b3,d3⟩;rw[List.drop_zero]at a2;rw[<-d2,<-c3,<-b2,<-c1];exact a2
     ·rename_i e;exact absurd h e
    ·simp at h
   ·rename_i e;exact absurd h e
  ·simp at h
 ·rename_i e;exact absurd h e
theorem PZ(c:UInt8)(s:Bool)(l:List UInt8)(i:Nat)(hi:i<=l.length)(h:(aO c s l i).1=0) :
  (aO c s l i).2.1<=l.length/\l.drop i=yY c (aO c s l i).2.2++l.drop (aO c s l i).2.1/\xA s (aO c s l i).2.2=true:=by
 unfold aO at h ⊢
 by_cases hc:l[i]?=some c
 ·rw[if_pos hc]at h ⊢;obtain⟨c1,c2⟩:=drop_cons hc
  by_cases h0:(ak s l (i+1)).1=0
  ·rw[if_pos h0];obtain⟨g1,g2,g3⟩:=Fh s l _ (i+1) rfl (by omega) h0;have hlen:=rX l (i+1) ((ak s l (i+1)).2-(i+1)) (by omega);have hne:ah l (i+1) ((ak s l (i+1)).2-(i+1))≠[]:=fun e=>by rw[e]at hlen;simp at hlen;omega
   refine⟨g2,?_,?_⟩
   ·simp only;unfold yY;rw[if_neg hne,c1,List.cons_append];congr 1;have:=@PX l (i+1) ((ak s l (i+1)).2-(i+1));rw[show i+1+((ak s l (i+1)).2-(i+1))=(ak s l (i+1)).2 by omega]at this;exact this
   ·simp only;unfold xA;rw[g3,Bool.or_true]
  ·rw[if_neg h0]at h;exact absurd h h0
 ·rw[if_neg hc];exact⟨hi,rfl,rfl⟩
theorem Zl(l:List UInt8)(h:(dw l).1=0):Jb (dw l).2.2=l/\Jc (dw l).2.2=true:=by
 unfold dw at h ⊢;split at h
 ·rename_i e1;split at h
  ·rename_i e2;split at h
   ·rename_i e3;split at h
    ·simp at h
    ·rename_i e4;obtain⟨a1,a2,a3,a4,a5⟩:=PY l e1;obtain⟨b1,b2,b3⟩:=PZ 45 true l _ a1 e2;obtain⟨c1,c2,c3⟩:=PZ 43 false l _ b1 e3;simp only[e1,e2,e3,if_true,if_neg e4];have hend:l.drop (aO 43 false l (aO 45 true l (bg l).2.1).2.1).2.1=[]:=List.drop_of_length_le (by omega);rw[hend,List.append_nil]at c2;constructor
     ·unfold Jb;simp only;rw[<-c2,<-b2];exact a2.symm
     ·simp only[Jc,Bool.and_eq_true,PW];exact⟨by omega,by omega,by omega,b3,c3⟩
   ·rename_i e;exact absurd h e
  ·rename_i e;exact absurd h e
 ·rename_i e;exact absurd h e
end Go.Proofs.YtmkjelchiacogaaGreatDoor
