import Derived.Lib.Bytealg
import Derived.Lib.TrimByte
import Derived.Lib.Small
import Derived.Lib.ItoaNum
import Derived.Test.YtnnbgjaphfhibaaGreatDoorProg
import Derived.WalkKit
import Derived.WalkSpells
import Derived.WalkLawsBesides
import Derived.Deep.QuietTactic
import Derived.BigQuiet
import Derived.Lib.SmallJoins
import Derived.Deep.RegionWith
set_option linter.unusedVariables false
set_option linter.unusedSimpArgs false
set_option maxRecDepth 100000
set_option maxHeartbeats 6400000
open Go.Proofs.Tryz
namespace Go.Proofs.YtnnbgjaphfhibaaGreatDoor
structure Good{α:Type}(c:α->α->Int):Prop where
 rng:∀a b,c a b=-1\/c a b=0\/c a b=1
 anti:∀a b,c b a=- c a b
 trans:∀a b d,c a b<=0->c b d<=0->c a d<=0/\((c a b=0/\c b d=0)↔c a d=0)
theorem Good.self{α:Type}{c:α->α->Int}(h:Good c)(a:α):c a a=0:=by
 have:=h.anti a a;omega
def aI(c:UInt8):Bool:=decide (48<=c.toNat) && decide (c.toNat<=57)
def aY(c:UInt8):Bool:=aI c || (decide (65<=c.toNat) && decide (c.toNat<=90)) || (decide (97<=c.toNat) && decide (c.toNat<=122)) || decide (c.toNat=45)
def nY(l:List UInt8):Bool:=!l.isEmpty && l.all aI
def qi:List UInt8->List (List UInt8)
 | []=>[[]]
 | c :: l=>if c=46 then[] :: qi l else match qi l with
  | p :: ps=>(c :: p) :: ps
  | []=>[[c]]
theorem OX(c:UInt8)(l:List UInt8):qi (c :: l)=if c=46 then[] :: qi l else match qi l with
  | p :: ps=>(c :: p) :: ps
  | []=>[[c]]:=by rw[qi]
theorem OY:∀(p:List UInt8),(∀c∈p,c≠46)->qi p=[p]
 | [],_=>rfl
 | c :: p,h=>by
  have ih:=OY p (fun x hx=>h x (List.mem_cons_of_mem _ hx));rw[OX];rw[if_neg (h c (List.mem_cons_self ..)),ih]
theorem OZ:∀(p r:List UInt8),(∀c∈p,c≠46)->qi (p++46 :: r)=p :: qi r
 | [],r,_=>by simp[qi]
 | c :: p,r,h=>by
  have ih:=OZ p r (fun x hx=>h x (List.mem_cons_of_mem _ hx));rw[List.cons_append,OX];rw[if_neg (h c (List.mem_cons_self ..)),ih]
structure V where
 major:Int
 minor:Int
 patch:Int
 pre:List UInt8
theorem yC{c:UInt8}(h:aI c=true):48<=c.toNat/\c.toNat<=57:=by
 unfold aI at h;simpa using h
def runN(p:UInt8->Bool)(l:List UInt8)(i:Nat):Nat:=((l.drop i).takeWhile p).length
def ag(l:List UInt8)(i k:Nat):List UInt8:=(l.drop i).take k
theorem O0(p:UInt8->Bool):∀(l:List UInt8),(l.takeWhile p).length<=l.length
 | []=>by simp
 | c :: l=>by
  have ih:=O0 p l;rw[List.takeWhile_cons];split<;>simp;omega
theorem O3(p:UInt8->Bool):∀(l:List UInt8) (k:Nat),k<(l.takeWhile p).length->∃h:k<l.length,p l[k]=true
 | [],k,h=>by simp at h
 | c :: l,k,h=>by
  rw[List.takeWhile_cons]at h;split at h
  ·cases k with
   | zero=>exact⟨by simp,by simpa⟩
   | succ k =>
    obtain⟨h1,h2⟩:=O3 p l k (by simpa using h);exact⟨by simp;omega,by simpa using h2⟩
  ·simp at h
theorem O4(p:UInt8->Bool):∀(l:List UInt8) (h:(l.takeWhile p).length<l.length),p l[(l.takeWhile p).length]=false
 | [],h=>by simp at h
 | c :: l,h=>by
  cases hc:p c with
  | true =>
   have e:(c :: l).takeWhile p=c :: l.takeWhile p:=by rw[List.takeWhile_cons,if_pos hc]
   have h':(l.takeWhile p).length<l.length:=by rw[e]at h;simpa using h
   have:=O4 p l h';simp only[e,List.length_cons,List.getElem_cons_succ];exact this
  | false =>
   have e:(c :: l).takeWhile p=[]:=by rw[List.takeWhile_cons,if_neg (by simp[hc])]
   simp only[e,List.length_nil,List.getElem_cons_zero];exact hc
theorem O5(p:UInt8->Bool):∀(l:List UInt8),l.take (l.takeWhile p).length=l.takeWhile p
 | []=>by simp
 | c :: l=>by
  have ih:=O5 p l;rw[List.takeWhile_cons];split<;>simp[ih]
theorem rD(p:UInt8->Bool)(l:List UInt8)(i:Nat)(h:i<=l.length):i+runN p l i<=l.length:=by
 have:=O0 p (l.drop i);unfold runN;simp at this ⊢;omega
theorem II(p:UInt8->Bool)(l:List UInt8)(i k:Nat)(h:k<runN p l i):∃h:i+k<l.length,p l[i+k]=true:=by
 obtain⟨h1,h2⟩:=O3 p (l.drop i) k h;simp only[List.length_drop]at h1;exact⟨by omega,by simpa using h2⟩
theorem Eh(p:UInt8->Bool)(l:List UInt8)(i:Nat)(h:i+runN p l i<l.length):p l[i+runN p l i]=false:=by
 have h':((l.drop i).takeWhile p).length<(l.drop i).length:=by unfold runN at h;simp at h ⊢;omega
 have:=O4 p (l.drop i) h';simpa [runN] using this
theorem Xb(p:UInt8->Bool)(l:List UInt8)(i:Nat):ag l i (runN p l i)=(l.drop i).takeWhile p:=O5 p (l.drop i)
def qj(n:Int)(c:UInt8):Int:=10*n+((c.toNat:Int)-48)
def bJ(l:List UInt8):Int:=l.foldl qj 0
theorem O6(l:List UInt8)(c:UInt8):bJ (l++[c])=qj (bJ l) c:=by unfold bJ;rw[List.foldl_append];rfl
theorem IJ:∀(l:List UInt8) (n:Int),0<=n->l.all aI=true->n<=l.foldl qj n
 | [],n,_,_=>Int.le_refl n
 | c :: l,n,h,hd=>by
  simp only[List.all_cons,Bool.and_eq_true]at hd;have h1:=yC hd.1;have h2:n<=qj n c:=by unfold qj;omega
  exact Int.le_trans h2 (IJ l _ (by omega) hd.2)
theorem Ei(l:List UInt8)(hd:l.all aI=true):0<=bJ l:=IJ l 0 (by omega) hd
theorem O7(a b:List UInt8)(hd:(a++b).all aI=true):bJ a<=bJ (a++b):=by
 rw[List.all_append,Bool.and_eq_true]at hd;unfold bJ;rw[List.foldl_append];exact IJ b _ (Ei a hd.1) hd.2
def rdNum(l:List UInt8)(i:Nat):Int × Int × Nat :=
 if runN aI l i=0 then(2,0,i)
 else if 1<runN aI l i/\l[i]?=some 48 then(2,0,i)
 else if bJ (ag l i (runN aI l i)) > 999999999 then(3,0,i)
 else(0,bJ (ag l i (runN aI l i)),i+runN aI l i)
def jw(strict:Bool)(p:List UInt8):Bool:=strict && (p.all aI && (decide (1<p.length) && decide (p[0]?=some 48)))
def aH(strict:Bool)(l:List UInt8)(i:Nat):Int × Nat :=
 if runN aY l i=0 then(2,i)
 else if jw strict (ag l i (runN aY l i))=true then(2,i)
 else if h:l[i+runN aY l i]?=some 46 then aH strict l (i+runN aY l i+1)
 else(0,i+runN aY l i)
termination_by l.length-i
decreasing_by
 have:=(List.getElem?_eq_some_iff.1 h).1;omega
theorem Ej(strict:Bool)(l:List UInt8)(i:Nat):aH strict l i =
 if runN aY l i=0 then(2,i)
 else if jw strict (ag l i (runN aY l i))=true then(2,i)
 else if l[i+runN aY l i]?=some 46 then aH strict l (i+runN aY l i+1)
 else(0,i+runN aY l i):=by
 rw[aH];split
 ·rfl
 ·split
  ·rfl
  ·split<;>rfl
def IK(strict:Bool)(p:List UInt8):Bool:=!p.isEmpty && p.all aY && !jw strict p
theorem Xc{c:UInt8}(h:aY c=true):c≠46:=by
 intro e;subst e;exact absurd h (by decide)
theorem Em(p:UInt8->Bool)(l:List UInt8)(i:Nat):(ag l i (runN p l i)).all p=true:=by
 rw[Xb];exact List.all_takeWhile
theorem tC(l:List UInt8)(i k:Nat)(h:i+k<=l.length):(ag l i k).length=k:=by
 unfold ag;simp;omega
def nx(l:List UInt8)(i:Nat):Int:=match l[i]? with|some c=>(c.toNat:Int)|none=>-1
theorem oP(l:List UInt8)(i:Nat)(h:i<l.length):nx l i=(l[i].toNat:Int):=by simp[nx,List.getElem?_eq_getElem h]
theorem ji(l:List UInt8)(i:Nat)(h:l.length<=i):nx l i=-1:=by simp[nx,List.getElem?_eq_none h]
theorem bu{l:List UInt8}{i:Nat}(h:0<=nx l i):i<l.length:=by
 apply Classical.byContradiction;intro hn;rw[ji l i (by omega)]at h;exact absurd h (by decide)
theorem Eo(l:List UInt8)(i:Nat):-1<=nx l i/\nx l i<256:=by
 by_cases h:i<l.length
 ·rw[oP l i h];have:=l[i].toNat_lt;omega
 ·rw[ji l i (by omega)];decide
def toR(p:Int->Bool)(l:List UInt8)(i:Nat):Nat:=i+runN (fun c=>p (c.toNat:Int)) l i
theorem ql(p:Int->Bool)(l:List UInt8)(i:Nat)(hi:i<l.length)(h:p (nx l i)=true):toR p l i=toR p l (i+1):=by
 rw[oP l i hi]at h;unfold toR runN;rw[List.drop_eq_getElem_cons hi,List.takeWhile_cons];simp only[h,if_true,List.length_cons];omega
theorem lG(p:Int->Bool)(l:List UInt8)(i:Nat)(h:p (nx l i)=false):toR p l i=i:=by
 unfold toR runN
 by_cases hi:i<l.length
 ·rw[oP l i hi]at h;rw[List.drop_eq_getElem_cons hi,List.takeWhile_cons];simp[h]
 ·rw[List.drop_eq_nil_of_le (by omega)];simp
theorem oQ(p:Int->Bool)(l:List UInt8)(i:Nat)(hi:i<=l.length):i<=toR p l i/\toR p l i<=l.length:=by
 unfold toR runN;have h1:=(List.takeWhile_sublist (fun c:UInt8=>p (c.toNat:Int)) (l:=l.drop i)).length_le;rw[List.length_drop]at h1;omega
def fC(c:Int):Bool:=decide (c=32\/c=9)
def ax(c:Int):Bool:=decide (48<=c/\c<=57)
def aZ(c:Int):Bool:=decide (97<=c/\c<=122)
def aN(c:Int):Bool:=aZ c || decide (65<=c/\c<=90) || ax c || decide (c=95) || decide (c=45)
def xg(c:Int):Bool:=decide ((0<=c/\c<32)\/c=127)
def gG(c:Int):Bool:=xg c && decide (c≠9)
def dm(c:Int):Bool:=decide (c≠10) && !gG c
def bi(l:List UInt8)(i:Nat):Bool × Nat:=if nx l i=35 then(if nx l (toR dm l i)=10\/nx l (toR dm l i)=-1 then(true,toR dm l i) else(false,toR dm l i)) else(true,i)
theorem Ep(l:List UInt8)(i:Nat)(h:¬nx l i=35):bi l i=(true,i):=by unfold bi;rw[if_neg h]
def bl(l:List UInt8)(i:Nat):Nat:=toR fC l i
theorem Xd(u:Nat)(h:u<10):(UInt8.ofNat (48+u)).toNat=48+u:=by
 show(48+u) % 256=48+u;omega
theorem Xe(l:List UInt8)(hne:l≠[])(hd:l.all aI=true)(hz:¬(1<l.length/\l[0]?=some 48)):Lib.decDigits (bJ l).toNat=l:=by
 -- the last digit off
 have key:∀(n:Nat) (l:List UInt8),l.length=n->l≠[]->l.all aI=true->¬(1<l.length/\l[0]?=some 48)->Lib.decDigits (bJ l).toNat=l/\(1<l.length->0<bJ l.dropLast):=by
  intro n
  induction n with
  | zero=>intro l hl hne;exact absurd (List.length_eq_zero_iff.1 hl) hne
  | succ n ih =>
   intro l hl hne hd hz;obtain⟨q,c,rfl⟩:∃q c,l=q++[c]:=⟨l.dropLast,l.getLast hne,(List.dropLast_concat_getLast hne).symm⟩;have hd':=hd;rw[List.all_append,Bool.and_eq_true]at hd';have hc:=yC (show aI c=true by simpa using hd'.2);have hcv:UInt8.ofNat (48+(c.toNat - 48))=c:=by
    apply UInt8.toNat_inj.1;rw[Xd _ (by omega)];omega
   rw[List.dropLast_concat]
   by_cases hq:q=[]
   ·subst hq;refine⟨?_,by simp⟩;have hv:bJ ([]++[c])=(c.toNat:Int)-48:=by show qj 0 c=_;unfold qj;omega
    have hn:((c.toNat:Int)-48).toNat=c.toNat - 48:=by omega
    rw[hv,hn,Lib.decDigits_one (by omega),hcv];rfl
   ·have dL:0<q.length:=List.length_pos_iff.2 hq;have hz1:q[0]?≠some 48:=by
     intro h;refine hz ⟨by simp;omega,?_⟩;rw[List.getElem?_append_left dL];exact h
    have hlen:q.length=n:=by simp at hl;exact hl
    have h1:=ih q hlen hq hd'.1 (fun h=>hz1 h.2);have hpos:0<bJ q:=by
     rcases Nat.lt_or_ge 1 q.length with hgt|hle
     ·have h2:=h1.2 hgt;have:bJ q.dropLast<=bJ q:=by
       conv=>rhs;rw[<-List.dropLast_concat_getLast hq]
       exact O7 _ _ (by rw[List.dropLast_concat_getLast hq];exact hd'.1)
      omega
     ·obtain⟨x,rfl⟩:∃x,q=[x]:=List.length_eq_one_iff.1 (by omega);have hx:=yC (show aI x=true by simpa using hd'.1);have hx0:x.toNat≠48:=fun hh=>hz1 (by
       have:x=48:=UInt8.toNat_inj.1 hh;rw[this];rfl)
      show 0<qj 0 x;unfold qj;omega
    refine⟨?_,fun _=>hpos⟩;rw[O6];have hv:(qj (bJ q) c).toNat=10*(bJ q).toNat+(c.toNat - 48):=by unfold qj;omega
    rw[hv,Lib.decDigits,dif_neg (by omega)];have e1:(10*(bJ q).toNat+(c.toNat - 48)) / 10=(bJ q).toNat:=by omega
    have e2:(10*(bJ q).toNat+(c.toNat - 48)) % 10=c.toNat - 48:=by omega
    rw[e1,e2,h1.1,hcv]
 exact(key _ l rfl hne hd hz).1
theorem Xf(l:List UInt8)(i:Nat)(hi:i<=l.length)(h:(rdNum l i).1=0) :
  ∃k,0<k/\i+k<=l.length/\(rdNum l i).2.2=i+k/\ag l i k=Lib.decDigits (rdNum l i).2.1.toNat/\0<=(rdNum l i).2.1/\(rdNum l i).2.1<=999999999:=by
 have hle:=rD aI l i hi;have hall:=Em aI l i;have hlen:=tC l i _ hle;unfold rdNum at h ⊢
 by_cases h0:runN aI l i=0
 ·rw[if_pos h0]at h;simp at h
 ·rw[if_neg h0]at h ⊢
  by_cases hz:1<runN aI l i/\l[i]?=some 48
  ·rw[if_pos hz]at h;simp at h
  ·rw[if_neg hz]at h ⊢
   by_cases hv:bJ (ag l i (runN aI l i)) > 999999999
   ·rw[if_pos hv]at h;simp at h
   ·rw[if_neg hv];refine⟨runN aI l i,by omega,hle,rfl,?_,Ei _ hall,Int.not_lt.1 hv⟩;have hne:ag l i (runN aI l i)≠[]:=fun e=>by rw[e]at hlen;simp at hlen;omega
    have h48:(ag l i (runN aI l i))[0]?=l[i]?:=by
     unfold ag;rw[List.getElem?_take_of_lt (by omega),List.getElem?_drop];rfl
    rw[Xe _ hne hall (by rw[hlen,h48];exact hz)]
theorem Xg(l:List UInt8)(i k j:Nat)(hk:i+k<j)(hj:j<=l.length)(h46:l[i+k]?=some 46) :
  ag l i (j-i)=ag l i k++46 :: ag l (i+k+1) (j-(i+k+1)):=by
 unfold ag;obtain⟨hlt,e⟩:=List.getElem?_eq_some_iff.1 h46;have h1:j-i=k+((j-(i+k+1))+1):=by omega
 rw[h1,List.take_add,List.drop_drop,List.drop_eq_getElem_cons hlt,List.take_succ_cons,e]
theorem IL(s:Bool)(l:List UInt8):∀(n i:Nat),l.length-i=n->i<=l.length->(aH s l i).1=0 →
  i<(aH s l i).2/\(aH s l i).2<=l.length/\(qi (ag l i ((aH s l i).2-i))).all (IK s)=true:=by
 intro n
 induction n using Nat.strongRecOn with
 | ind n ih =>
  intro i hn hi h;have hle:=rD aY l i hi;have hall:=Em aY l i;have hlen:=tC l i _ hle;have hnd:∀x∈ag l i (runN aY l i),x≠46:=fun x hx=>Xc (List.all_eq_true.1 hall x hx)
  rw[Ej]at h ⊢
  by_cases h0:runN aY l i=0
  ·rw[if_pos h0]at h;simp at h
  ·rw[if_neg h0]at h ⊢
   by_cases hb:jw s (ag l i (runN aY l i))=true
   ·rw[if_pos hb]at h;simp at h
   ·rw[if_neg hb]at h ⊢;have hok:IK s (ag l i (runN aY l i))=true:=by
     have h1:(ag l i (runN aY l i)).isEmpty=false:=by
      cases h:ag l i (runN aY l i) with
      | nil=>rw[h]at hlen;simp at hlen;omega
      | cons c r=>rfl
     have h2:jw s (ag l i (runN aY l i))=false:=by simpa using hb
     simp[IK,h1,hall,h2]
    by_cases hg:l[i+runN aY l i]?=some 46
    ·rw[if_pos hg]at h ⊢;have hlt:=(List.getElem?_eq_some_iff.1 hg).1;obtain⟨g1,g2,g3⟩:=ih (l.length-(i+runN aY l i+1)) (by omega) (i+runN aY l i+1) rfl (by omega) h;refine⟨by omega,g2,?_⟩;rw[Xg l i (runN aY l i) _ (by omega) g2 hg,OZ _ _ hnd,List.all_cons,hok,g3];rfl
    ·rw[if_neg hg];refine⟨by simp only;omega,hle,?_⟩;simp only;rw[show i+runN aY l i-i=runN aY l i by omega,OY _ hnd];simp[hok]
structure Vv where
 major:Int
 minor:Int
 patch:Int
 pre:List UInt8
 build:List UInt8
def zeroV:Vv:=⟨0,0,0,[],[]⟩
def bP(c:UInt8)(s:Bool)(l:List UInt8)(i:Nat):Int × Nat × List UInt8 :=
 if l[i]?=some c then
  (if(aH s l (i+1)).1=0 then(0,(aH s l (i+1)).2,ag l (i+1) ((aH s l (i+1)).2-(i+1))) else((aH s l (i+1)).1,(aH s l (i+1)).2,[]))
 else(0,i,[])
def bQ(l:List UInt8):Int × Nat × Int × Int × Int :=
 if(rdNum l 0).1=0 then
  if l[(rdNum l 0).2.2]?=some 46 then
   if(rdNum l ((rdNum l 0).2.2+1)).1=0 then
    if l[(rdNum l ((rdNum l 0).2.2+1)).2.2]?=some 46 then
     if(rdNum l ((rdNum l ((rdNum l 0).2.2+1)).2.2+1)).1=0 then
      (0,(rdNum l ((rdNum l ((rdNum l 0).2.2+1)).2.2+1)).2.2,(rdNum l 0).2.1,(rdNum l ((rdNum l 0).2.2+1)).2.1,(rdNum l ((rdNum l ((rdNum l 0).2.2+1)).2.2+1)).2.1)
     else((rdNum l ((rdNum l ((rdNum l 0).2.2+1)).2.2+1)).1,(rdNum l ((rdNum l ((rdNum l 0).2.2+1)).2.2+1)).2.2,0,0,0)
    else(2,(rdNum l ((rdNum l 0).2.2+1)).2.2,0,0,0)
   else((rdNum l ((rdNum l 0).2.2+1)).1,(rdNum l ((rdNum l 0).2.2+1)).2.2,0,0,0)
  else(2,(rdNum l 0).2.2,0,0,0)
 else((rdNum l 0).1,(rdNum l 0).2.2,0,0,0)
def dZ(l:List UInt8):Int × Nat × Vv :=
 if(bQ l).1=0 then
  if(bP 45 true l (bQ l).2.1).1=0 then
   if(bP 43 false l (bP 45 true l (bQ l).2.1).2.1).1=0 then
    if(bP 43 false l (bP 45 true l (bQ l).2.1).2.1).2.1<l.length then(2,(bP 43 false l (bP 45 true l (bQ l).2.1).2.1).2.1,zeroV)
    else(0,0,⟨(bQ l).2.2.1,(bQ l).2.2.2.1,(bQ l).2.2.2.2,(bP 45 true l (bQ l).2.1).2.2,(bP 43 false l (bP 45 true l (bQ l).2.1).2.1).2.2⟩)
   else((bP 43 false l (bP 45 true l (bQ l).2.1).2.1).1,(bP 43 false l (bP 45 true l (bQ l).2.1).2.1).2.1,zeroV)
  else((bP 45 true l (bQ l).2.1).1,(bP 45 true l (bQ l).2.1).2.1,zeroV)
 else((bQ l).1,(bQ l).2.1,zeroV)
def jV(l:List UInt8):Int × Nat × Vv:=if 100<l.length then(1,0,zeroV) else dZ l
def bound(n:Int):Bool:=decide (0<=n) && decide (n<=1000000000)
theorem Xh{n:Int}(h:0<=n):Lib.itoa n=Lib.decDigits n.toNat:=by unfold Lib.itoa;rw[if_neg (by omega)]
theorem Xi{l:List UInt8}{i k:Nat}:l.drop i=ag l i k++l.drop (i+k):=by
 unfold ag;rw[<-List.drop_drop,List.take_append_drop]
theorem drop_cons{l:List UInt8}{i:Nat}{c:UInt8}(h:l[i]?=some c):l.drop i=c :: l.drop (i+1)/\i<l.length:=by
 obtain⟨hlt,e⟩:=List.getElem?_eq_some_iff.1 h;rw[List.drop_eq_getElem_cons hlt,e];exact⟨rfl,hlt⟩
theorem IM(l:List UInt8)(i:Nat)(hi:i<=l.length)(h:(rdNum l i).1=0) :
  (rdNum l i).2.2<=l.length/\l.drop i=Lib.itoa (rdNum l i).2.1++l.drop (rdNum l i).2.2/\0<=(rdNum l i).2.1/\(rdNum l i).2.1<=999999999:=by
 obtain⟨k,h1,h2,h3,h4,h5,h6⟩:=Xf l i hi h;refine⟨by omega,?_,h5,h6⟩;rw[Xh h5,<-h4,h3];exact Xi
theorem Xj(l:List UInt8)(h:(bQ l).1=0) :
  (bQ l).2.1<=l.length/\l=Lib.itoa (bQ l).2.2.1++46 :: (Lib.itoa (bQ l).2.2.2.1++46 :: (Lib.itoa (bQ l).2.2.2.2++l.drop (bQ l).2.1)) ∧
  (0<=(bQ l).2.2.1/\(bQ l).2.2.1<=999999999)/\(0<=(bQ l).2.2.2.1/\(bQ l).2.2.2.1<=999999999)/\(0<=(bQ l).2.2.2.2/\(bQ l).2.2.2.2<=999999999):=by
 unfold bQ at h ⊢;split at h
 ·rename_i e1;split at h
  ·rename_i g1;split at h
   ·rename_i e2;split at h
    ·rename_i g2;split at h
     ·rename_i e3;obtain⟨a1,a2,a3⟩:=IM l 0 (Nat.zero_le _) e1;obtain⟨c1,c2⟩:=drop_cons g1;obtain⟨b1,b2,b3⟩:=IM l _ (by omega) e2;obtain⟨c3,c4⟩:=drop_cons g2;obtain⟨d1,d2,d3⟩:=IM l _ (by omega) e3;simp only[e1,g1,e2,g2,e3,if_true];refine⟨d1,?_,a3,b3,d3⟩;rw[List.drop_zero]at a2;rw[<-d2,<-c3,<-b2,<-c1];exact a2
     ·rename_i e;exact absurd h e
    ·simp at h
   ·rename_i e;exact absurd h e
  ·simp at h
 ·rename_i e;exact absurd h e
open Go.RowKit
theorem zN{α:Sort _}(a:α):∃z,a=z:=⟨a,rfl⟩
theorem kG{α:Type _}{xs:Array α}{i:Nat}{v:α}(h:xs[i]?=some v):i<xs.size:=(Array.getElem?_eq_some_iff.1 h).1
theorem af{w:World}{b:Nat}{cs:Array Value}{T:TypeId}{fr:Nat×Nat}(hb:w.heap[b]?=some (.cells cs T fr))(j:Nat):w.cell? ⟨b,j,none⟩=cs[j]?:=by simp[World.cell?,hb]
def Hd(p:Prop):Prop:=p
theorem Hd.o{p:Prop}(h:Hd p):p:=h
theorem dB{k:IntKind}{a b:Int}(h:a=b):Ending.returned (.int k a)=.returned (.int k b):=by rw[h]
theorem bV{a b:Bool}(h:a=b):Ending.returned (.bool a)=.returned (.bool b):=by rw[h]
theorem xh(c:UInt8)(w:World):Calls prog 224 #[.int .u8 (c.toNat:Int)] w fun e w'=>e=.returned (.bool (aI c))/\w'=w:=by
 go_enter func224,ntmps224;go_wp2
 all_goals go_ret
 all_goals (refine⟨bV ?_,rfl⟩;rw[Bool.eq_iff_iff];unfold aI;simp;omega)
theorem ak(w:World)(r:Option Nat):w.grownBy w r:=⟨rfl,rfl,rfl,Nat.le_refl _,fun _ _ _=>rfl⟩
theorem au{w w':World}{r:Option Nat}(h:w.grownBy w' r)(n:Nat):w.grownBy (w'.drewN n) r:=⟨h.os,h.tape,h.output,h.size,h.block⟩
theorem aV{w w':World}{b:Nat}(h:w.grownBy w' (some b))(o:Nat)(v:Value):w.grownBy (w'.setCell ⟨b,o,none⟩ v) (some b):=by
 refine⟨h.os,h.tape,h.output,by simpa [World.setCell] using h.size,fun k hk hne=>?_⟩;rw[<-h.block k hk hne];exact heap_setCell_other w' _ k v (fun e=>hne (by rw[e]))
theorem ai{w w1 w2:World}{r:Option Nat}(h:w.grownBy w1 r)(h':w1.grownBy w2 r):w.grownBy w2 r :=
 ⟨h'.os.trans h.os,h'.tape.trans h.tape,h'.output.trans h.output,Nat.le_trans h.size h'.size,fun k hk hne=>(h'.block k (Nat.lt_of_lt_of_le hk h.size) hne).trans (h.block k hk hne)⟩
theorem kR(s:ByteArray)(i:Nat)(h:i<s.size):s.data.toList[i]?=some s[i]:=by rw[List.getElem?_eq_getElem (by simpa using h)];rfl
theorem kS(s:ByteArray)(i j:Nat)(hi:i<=j)(hj:j<=s.size)(w:World) :
  (Instr.slice 9 (.string s) (some (.int .i64 (i:Int))) (some (.int .i64 (j:Int))) none).run prog w=.ok (.string ⟨(ag s.data.toList i (j-i)).toArray⟩) w:=by
 have h1:(0:Int)<=(i:Int):=by omega
 have h4:(i:Int)<=(j:Int):=by omega
 have h5:(j:Int)<=(s.size:Int):=by omega
 have e:s.extract i j=⟨(ag s.data.toList i (j-i)).toArray⟩:=by
  apply ByteArray.ext;rw[ByteArray.data_extract];apply Array.ext';unfold ag;simp
 rw[<-e];simp[go_sem,underlying9,h1,h4,h5]
open Go.RowKit Go.Joins
theorem Xk(c:Int)(w:World):Calls prog 147 #[.int .i64 c] w fun e w'=>e=.returned (.bool (fC c))/\w'=w:=by
 go_enter func147,ntmps147;go_wp2
 all_goals go_ret
 all_goals (refine⟨bV ?_,rfl⟩;rw[Bool.eq_iff_iff];unfold fC;simp;try omega)
theorem Et(c:Int)(w:World):Calls prog 151 #[.int .i64 c] w fun e w'=>e=.returned (.bool (ax c))/\w'=w:=by
 go_enter func151,ntmps151;go_wp2
 all_goals go_ret
 all_goals (refine⟨bV ?_,rfl⟩;rw[Bool.eq_iff_iff];unfold ax;simp;try omega)
theorem O8(c:Int)(w:World):Calls prog 150 #[.int .i64 c] w fun e w'=>e=.returned (.bool (aZ c))/\w'=w:=by
 go_enter func150,ntmps150;go_wp2
 all_goals go_ret
 all_goals (refine⟨bV ?_,rfl⟩;rw[Bool.eq_iff_iff];unfold aZ;simp;try omega)
theorem aF{w w1 w2:World}{r:Option Nat}(h:w.grownBy w1 r)(hg:w1.grownBy w2 none):w.grownBy w2 r :=
 ⟨hg.os.trans h.os,hg.tape.trans h.tape,hg.output.trans h.output,Nat.le_trans h.size hg.size,fun k hk hn=>(hg.block k (Nat.lt_of_lt_of_le hk h.size) (by simp)).trans (h.block k hk hn)⟩
def Rd(w:World)(R:Nat)(s:ByteArray)(i:Nat)(T:Nat):Prop:=w.heap[R]?=some (.cells #[.string s,.int .i64 (i:Nat),.pointer (some ⟨T,0,none⟩)] 125 (0,0))
theorem Rd.grow{w w':World}{R:Nat}{s:ByteArray}{i T:Nat}(h:Rd w R s i T)(hg:w.grownBy w' none):Rd w' R s i T:=(hg.block R (Array.getElem?_eq_some_iff.1 h).1 (by simp)).trans h
theorem Rd.cells{w:World}{R:Nat}{s:ByteArray}{i T:Nat}(h:Rd w R s i T):w.cell? ⟨R,0,none⟩=some (.string s)/\w.cell? ⟨R,1,none⟩=some (.int .i64 (i:Nat))/\w.cell? ⟨R,2,none⟩=some (.pointer (some ⟨T,0,none⟩))/\∀k,w.frozen? ⟨R,k,none⟩=false :=
 ⟨by rw[Lib.cell_of_heap h];rfl,by rw[Lib.cell_of_heap h];rfl,by rw[Lib.cell_of_heap h];rfl,fun k=>Lib.frozen_of_heap h k⟩
theorem Rd.set{w:World}{R:Nat}{s:ByteArray}{i T:Nat}(h:Rd w R s i T)(j:Nat):Rd (w.setCell ⟨R,1,none⟩ (.int .i64 (j:Nat))) R s j T:=by
 have:=block_setCell (i:=1) h (.int .i64 (j:Nat));exact this
theorem l7(R:Nat)(s:ByteArray)(i T:Nat)(w:World)(h:Rd w R s i T)(hi:i<=s.size)(hs:s.size<=1048576) :
  Calls prog 104 #[.pointer (some ⟨R,0,none⟩)] w fun e w'=>e=.returned (.int .i64 (nx s.data.toList i))/\w.grownBy w' none:=by
 obtain⟨c0,c1,-,-⟩:=h.cells;have hl:s.data.toList.length=s.size:=by simp
 by_cases he:i=s.size
 ·have hn:nx s.data.toList i=-1:=ji _ _ (by omega);rw[hn];have hee:((i:Int) == (s.size:Int))=true:=by simp[he]
  clear h hn he;go_enter func104,ntmps104;go_wp2;go_quiet (fail);go_wp2;go_ret;exact⟨rfl,au (ak w none) _⟩
 ·have hlt:i<s.size:=by omega
  have hn:nx s.data.toList i=(s[i].toNat:Int):=by
   rw[oP _ _ (by omega)];rfl
  rw[hn];have hne:((i:Int) == (s.size:Int))=false:=by rw[beq_eq_false_iff_ne];omega
  clear h hn he;go_enter func104,ntmps104;go_wp2;go_quiet (fail);go_wp2;go_quiet (fail);go_wp2;go_ret;refine⟨dB ?_,⟨rfl,rfl,rfl,Nat.le_refl _,fun _ _ _=>rfl⟩⟩;have:=s[i].toNat_lt;show wrap64 (s[i].toNat:Int)=_;unfold wrap64;omega
theorem Eu(R:Nat)(s:ByteArray)(i T:Nat)(w:World)(h:Rd w R s i T)(hi:i<=s.size)(hs:s.size<=1048576) :
  Calls prog 103 #[.pointer (some ⟨R,0,none⟩)] w fun e w'=>e=.returned (.tuple #[])/\Rd w' R s (bl s.data.toList i) T/\w.grownBy w' (some R):=by
 have CN:Hd (∀k w,Rd w R s k T->k<=s.size->Calls prog 104 #[.pointer (some ⟨R,0,none⟩)] w fun e w'=>e=.returned (.int .i64 (nx s.data.toList k))/\w.grownBy w' none):=fun k w h1 h2=>l7 R s k T w h1 h2 hs
 have CB:Hd (∀c w,Calls prog 147 #[.int .i64 c] w fun e w'=>e=.returned (.bool (fC c))/\w'=w):=Xk;have hl:s.data.toList.length=s.size:=by simp
 have HST:Hd (∀k,k<s.size->fC (nx s.data.toList k)=true->bl s.data.toList k=bl s.data.toList (k+1)):=fun k hk hb=>ql fC _ k (by omega) hb
 have jH:Hd (∀k,fC (nx s.data.toList k)=false->bl s.data.toList k=k):=fun k hb=>lG fC _ k hb
 have cZ:Hd (∀k,k<=s.size->fC (nx s.data.toList k)=true->k<s.size):=fun k hk hb=>by
  apply Classical.byContradiction;intro hn;rw[ji _ _ (by omega)]at hb;exact absurd hb (by decide)
 obtain⟨J,hJ⟩:∃J,bl s.data.toList i=J:=⟨_,rfl⟩;have HJ:Hd (bl s.data.toList i=J):=hJ;have H0:Hd (Rd w R s i T):=h;rw[hJ];clear h hJ;go_enter func103,ntmps103;go_wp2;go_loopw [] (fun wr=>∃k:Nat,Rd wr R s k T/\k<=s.size/\bl s.data.toList k=J/\w.grownBy wr (some R)) (fun wr=>s.size-(match wr.cell? ⟨R,1,none⟩ with|some (.int _ k)=>k.toNat|_=>0))
 case atStart=>exact⟨i,H0.o,hi,HJ.o,ak _ _⟩
 case round =>
  obtain⟨k,hrd,hk,hbl,hg⟩:=hrel;have dG:Hd (Rd wr R s k T):=hrd;have fP:Hd (bl s.data.toList k=J):=hbl;have HG:Hd (w.grownBy wr (some R)):=hg;have C1:Hd (Calls prog 104 #[.pointer (some ⟨R,0,none⟩)] wr fun e w'=>e=.returned (.int .i64 (nx s.data.toList k))/\wr.grownBy w' none):=CN.o k wr hrd hk;have hme:(match wr.cell? ⟨R,1,none⟩ with|some (.int _ k)=>k.toNat|_=>0)=k:=by rw[hrd.cells.2.1];simp
  have gI:Hd ((match wr.cell? ⟨R,1,none⟩ with|some (.int _ k)=>k.toNat|_=>0)=k):=hme;have eH:Hd (fC (nx s.data.toList k)=true->bl s.data.toList k=bl s.data.toList (k+1)):=fun hb=>HST.o k (cZ.o k hk hb) hb
  have HS2:Hd (fC (nx s.data.toList k)=false->bl s.data.toList k=k):=jH.o k;have HL2:Hd (fC (nx s.data.toList k)=true->k<s.size):=cZ.o k hk;obtain⟨c,hc⟩:∃c,nx s.data.toList k=c:=⟨_,rfl⟩;rw[hc]at C1 eH HS2 HL2;have iU:Hd (∀w,Calls prog 147 #[.int .i64 c] w fun e w'=>e=.returned (.bool (fC c))/\w'=w):=fun w=>CB.o c w
  obtain⟨b,hb⟩:∃b,fC c=b:=⟨_,rfl⟩;rw[hb]at iU eH HS2 HL2;clear hrd hbl hg hme hc hb
  cases b with
  | false =>
   have xk:Hd (k=J):=(HS2.o (by trivial)).symm.trans fP.o;go_wp2_with (first|(go_at_call 104;refine C1.o.mono ?_;rintro e w2 ⟨rfl,hg2⟩)|(go_at_call 147;refine(iU.o _).mono ?_;rintro e w' ⟨rfl,rfl⟩));refine bodyPost_end (results_none rfl _ _ _) rfl ⟨rfl,?_,aF HG.o hg2⟩;rw[<-xk.o];exact dG.o.grow hg2
  | true =>
   have hkl:k<s.size:=HL2.o (by trivial);have HN:Hd (bl s.data.toList (k+1)=J):=(eH.o (by trivial)).symm.trans fP.o;go_wp2_with (first|(go_at_call 104;refine C1.o.mono ?_;rintro e w2 ⟨rfl,hg2⟩;obtain⟨-,d1,-,df⟩:=(dG.o.grow hg2).cells;have df1:=df 1)|(go_at_call 147;refine(iU.o _).mono ?_;rintro e w' ⟨rfl,rfl⟩));have jW:Hd (Rd (w'.setCell ⟨R,1,none⟩ (.int .i64 ((k:Int)+1))) R s (k+1) T):=(dG.o.grow hg2).set (k+1);refine⟨⟨k+1,jW.o,by omega,HN.o,aV (aF HG.o hg2) 1 _⟩,?_⟩;rw[gI.o,jW.o.cells.2.1];simp;omega
open Go.RowKit Go.Joins
theorem Xl(c:Int)(w:World):Calls prog 200 #[.int .i64 c] w fun e w'=>e=.returned (.bool (xg c))/\w'=w:=by
 go_enter func200,ntmps200;go_wp2
 all_goals go_ret
 all_goals (refine⟨bV ?_,rfl⟩;rw[Bool.eq_iff_iff];unfold xg;simp;try omega)
theorem O9(c:Int)(w:World):Calls prog 155 #[.int .i64 c] w fun e w'=>e=.returned (.bool (gG c))/\w'=w:=by
 have CC:Hd (∀w,Calls prog 200 #[.int .i64 c] w fun e w'=>e=.returned (.bool (xg c))/\w'=w):=fun w=>Xl c w
 have HB:Hd (gG c=(xg c && decide (c≠9))):=rfl;obtain⟨b,hb⟩:∃b,xg c=b:=⟨_,rfl⟩;rw[hb]at CC HB;clear hb
 cases b with
 | false =>
  go_enter func155,ntmps155;go_wp2_with (go_at_call 200;refine(CC.o _).mono ?_;rintro e w' ⟨rfl,rfl⟩);go_ret;refine⟨bV ?_,rfl⟩;rw[HB.o];rfl
 | true =>
  go_enter func155,ntmps155;go_wp2_with (go_at_call 200;refine(CC.o _).mono ?_;rintro e w' ⟨rfl,rfl⟩)
  all_goals go_ret
  all_goals (refine⟨bV ?_,rfl⟩;rw[HB.o,Bool.eq_iff_iff];simp;try omega)
def FaultV(w:World)(v:Value)(p:Nat)(ty:TypeId)(pv:Value):Prop:=∃F,v=.iface 130 (.pointer (some ⟨F,0,none⟩))/\w.heap[F]?=some (.cells #[.int .i64 (p:Nat),.iface ty pv] 134 (0,0))
theorem FaultV.grow{w w':World}{v:Value}{p:Nat}{ty:TypeId}{pv:Value}(h:FaultV w v p ty pv)(hg:w.grownBy w' none):FaultV w' v p ty pv:=by
 obtain⟨F,h1,h2⟩:=h;exact⟨F,h1,(hg.block F (Array.getElem?_eq_some_iff.1 h2).1 (by simp)).trans h2⟩
theorem rE(p:Nat)(ty:TypeId)(pv:Value)(w:World):Calls prog 195 #[.iface ty pv,.int .i64 (p:Nat)] w fun e w'=>(∃v,e=.returned v/\FaultV w' v p ty pv)/\w.grownBy w' none:=by
 have hn:=heap_alloc_new w (.cells #[.int .i64 (p:Nat),.iface ty pv] 134);have hg:w.grownBy (w.alloc (.cells #[.int .i64 (p:Nat),.iface ty pv] 134)) none:=World.grownBy_alloc w _ none;have HN:Hd ((w.alloc (.cells #[.int .i64 (p:Nat),.iface ty pv] 134)).heap[w.heap.size]?=some (.cells #[.int .i64 (p:Nat),.iface ty pv] 134 (0,0))):=hn;have HG:Hd (w.grownBy (w.alloc (.cells #[.int .i64 (p:Nat),.iface ty pv] 134)) none):=hg;clear hn hg;go_enter func195,ntmps195;go_wp2;go_ret;exact⟨⟨_,rfl,_,rfl,HN.o⟩,HG.o⟩
def Ew(w:World)(ty:TypeId)(pv:Value):Prop:=w.cell? ⟨6,0,none⟩=some (.iface ty pv)
theorem uS(R:Nat)(s:ByteArray)(i T:Nat)(ty:TypeId)(pv:Value)(w:World)(h:Rd w R s i T)(he:Ew w ty pv) :
  Calls prog 156 #[.pointer (some ⟨R,0,none⟩)] w fun e w'=>(∃v,e=.returned v/\FaultV w' v i ty pv)/\w.grownBy w' none:=by
 have CW:Hd (∀w,Calls prog 195 #[.iface ty pv,.int .i64 (i:Nat)] w fun e w'=>(∃v,e=.returned v/\FaultV w' v i ty pv)/\w.grownBy w' none):=fun w=>rE i ty pv w
 obtain⟨-,c1,-,-⟩:=h.cells;have c0:w.cell? ⟨6,0,none⟩=some (.iface ty pv):=he;clear h he;go_enter func156,ntmps156;go_wp2;go_region_with (first|(go_at_call 195;refine(CW.o _).mono ?_;rintro e w2 ⟨⟨v,rfl,hv⟩,hg2⟩))
 all_goals (
  go_wp2;go_ret;exact⟨⟨v,rfl,hv⟩,ai (show w.grownBy w.drew none from⟨rfl,rfl,rfl,Nat.le_refl _,fun _ _ _=>rfl⟩) hg2⟩)
theorem IP(R:Nat)(s:ByteArray)(i T:Nat)(c:Int)(ty:TypeId)(pv:Value)(w:World)(h:Rd w R s i T)(hi:i<=s.size)(hs:s.size<=1048576)(hc:0<=c)(he:Ew w ty pv) :
  Calls prog 109 #[.pointer (some ⟨R,0,none⟩),.int .i64 c] w fun e w'=>(nx s.data.toList i=c->e=.returned .nilIface/\Rd w' R s (i+1) T)/\(¬nx s.data.toList i=c->(∃v,e=.returned v/\FaultV w' v i ty pv)/\Rd w' R s i T)/\w.grownBy w' (some R):=by
 have CN:Hd (Calls prog 104 #[.pointer (some ⟨R,0,none⟩)] w fun e w'=>e=.returned (.int .i64 (nx s.data.toList i))/\w.grownBy w' none):=l7 R s i T w h hi hs;have CH:Hd (∀w',w.grownBy w' none->Calls prog 156 #[.pointer (some ⟨R,0,none⟩)] w' fun e w''=>(∃v,e=.returned v/\FaultV w'' v i ty pv)/\w'.grownBy w'' none):=fun w' hg=>uS R s i T ty pv w' (h.grow hg) (hg.cell he (by simp))
 have dG:Hd (Rd w R s i T):=h;obtain⟨x,hx⟩:∃x,nx s.data.toList i=x:=⟨_,rfl⟩;rw[hx]at CN ⊢;clear h he hx;go_enter func109,ntmps109;go_wp2_with (go_at_call 104;refine CN.o.mono ?_);rintro e w2 ⟨rfl,hg2⟩;have HG2:Hd (w.grownBy w2 none):=hg2;obtain⟨-,d1,-,df⟩:=(dG.o.grow hg2).cells;have df1:=df 1;clear df hg2
 by_cases hxc:x=c
 ·have IQ:Hd (x=c):=hxc;have HS:Hd (Rd (w2.setCell ⟨R,1,none⟩ (.int .i64 ((i:Int)+1))) R s (i+1) T):=(dG.o.grow HG2.o).set (i+1);have hb:(x != c)=false:=by simp[hxc]
  clear hxc;go_wp2;refine bodyPost_ret (results_tmp (t:=4) rfl _ _ _) rfl ⟨fun _=>⟨rfl,HS.o⟩,fun hn=>absurd IQ.o hn,aV (aF (ak w (some R)) HG2.o) 1 _⟩
 ·have hb:(x != c)=true:=by simp[hxc]
  have IQ:Hd (¬x=c):=hxc;clear hxc;go_wp2_with (go_at_call 156;refine(CH.o _ HG2.o).mono ?_;rintro e w3 ⟨⟨v,rfl,hv⟩,hg3⟩);refine bodyPost_ret (results_tmp (t:=4) rfl _ _ _) rfl ⟨fun hh=>absurd hh IQ.o,fun _=>⟨⟨v,rfl,hv⟩,(dG.o.grow HG2.o).grow hg3⟩,aF (aF (ak w (some R)) HG2.o) hg3⟩
structure Tn where
 kd:Int
 ky:List UInt8
 tx:List UInt8
 nu:Int
 ks:List Nat
 pl:Nat
abbrev Rs(α:Type):=Except (Int × Nat) α
def hexV(c:Int):Int:=if ax c=true then c-48 else if 97<=c/\c<=102 then c-87 else if 65<=c/\c<=70 then c-55 else -1
def four(l:List UInt8):Nat->Nat->Nat->Rs (Nat × Nat)
 | 0,i,n=>.ok (n,i)
 | k+1,i,n=>if hexV (nx l i)<0 then .error (2,i) else four l k (i+1) (16*n+(hexV (nx l i)).toNat)
def fO(n:Nat):List UInt8:=if n<128 then[UInt8.ofNat n] else if n<2048 then[UInt8.ofNat (192+n / 64),UInt8.ofNat (128+n % 64)] else[UInt8.ofNat (224+n / 4096),UInt8.ofNat (128+n / 64 % 64),UInt8.ofNat (128+n % 64)]
def esc(l:List UInt8)(i:Nat):Rs (List UInt8 × Nat) :=
 if nx l (i+1)=117 then
  match four l 4 (i+2) 0 with
  | .error e=>.error e
  | .ok (n,j)=>if 55296<=n/\n<=57343 then .error (2,i) else .ok (fO n,j)
 else if nx l (i+1)=98 then .ok ([8],i+2)
 else if nx l (i+1)=116 then .ok ([9],i+2)
 else if nx l (i+1)=110 then .ok ([10],i+2)
 else if nx l (i+1)=102 then .ok ([12],i+2)
 else if nx l (i+1)=114 then .ok ([13],i+2)
 else if nx l (i+1)=34 then .ok ([34],i+2)
 else if nx l (i+1)=92 then .ok ([92],i+2)
 else .error (2,i+1)
def dC(l:List UInt8)(i:Nat)(lo hi:Int):Bool:=decide (lo<=nx l i/\nx l i<=hi)
def aJ(l:List UInt8)(i:Nat):Nat :=
 let c:=nx l i
 if c<0 then 0
 else if c<128 then 1
 else if c<194\/244<c then 0
 else if dC l (i+1) (if c=224 then 160 else if c=240 then 144 else 128) (if c=237 then 159 else if c=244 then 143 else 191)=false then 0
 else if c<224 then 2
 else if dC l (i+2) 128 191=false then 0
 else if c<240 then 3
 else if dC l (i+3) 128 191=false then 0
 else 4
def str(l:List UInt8):Nat->Nat->List UInt8->Rs (List UInt8 × Nat)
 | 0,i,_=>.error (2,i)
 | f+1,i,acc =>
  if nx l i=34 then .ok (acc,i+1)
  else if nx l i=92 then
   match esc l i with
   | .error e=>.error e
   | .ok (b,j)=>str l f j (acc++b)
  else if nx l i=-1\/gG (nx l i)=true then .error (2,i)
  else if aJ l i=0 then .error (2,i)
  else str l f (i+aJ l i) (acc++ag l i (aJ l i))
def bW(l:List UInt8)(i:Nat):Rs (List UInt8 × Nat) :=
 if nx l i=34 then str l (l.length+1) (i+1) []
 else if toR aN l i=i then .error (2,i)
 else .ok (ag l i (toR aN l i-i),toR aN l i)
def gJ:List UInt8->Nat->Nat
 | [],n=>n
 | c :: r,n=>gJ r (10*n+(c.toNat - 48))
def iQ(l:List UInt8)(i:Nat):Rs (Int × Nat) :=
 let a:=if ax (nx l i)=true then i else i+1
 let j:=toR ax l a
 if j=a\/(1<j-a/\nx l a=48) then .error (2,a)
 else if 18<j-a then .error (3,i)
 else .ok (if nx l i=45 then -(gJ (ag l a (j-a)) 0:Int) else(gJ (ag l a (j-a)) 0:Int),j)
def kH(l:List UInt8)(i:Nat):Rs (Int × Nat) :=
 let j:=toR aZ l i
 if ag l i (j-i)=[116,114,117,101] then .ok (1,j)
 else if ag l i (j-i)=[102,97,108,115,101] then .ok (0,j)
 else .error (2,i)
def addN(ns:List Tn)(up:Nat)(n:Tn):List Tn:=(match ns[up]? with|some u=>ns.set up { u with ks:=u.ks++[ns.length] }|none=>ns)++[n]
def gap(l:List UInt8):Nat->Nat->Rs Nat
 | 0,i=>.error (2,i)
 | f+1,i =>
  let j:=bl l i
  if(bi l j).1=false then .error (2,(bi l j).2)
  else if nx l (bi l j).2=10 then gap l f ((bi l j).2+1)
  else .ok (bi l j).2
mutual
def val(l:List UInt8):Nat->Nat->Nat->List UInt8->Nat->Nat->List Tn->Rs (Nat × List Tn)
 | 0,i,_,_,_,_,_=>.error (2,i)
 | f+1,i,up,k,p,d,ns =>
  if nx l i=34 then
   match str l (l.length+1) (i+1) [] with
   | .error e=>.error e
   | .ok (t,j)=>.ok (j,addN ns up ⟨3,k,t,0,[],p⟩)
  else if nx l i=43\/nx l i=45\/ax (nx l i)=true then
   match iQ l i with
   | .error e=>.error e
   | .ok (n,j)=>.ok (j,addN ns up ⟨4,k,[],n,[],p⟩)
  else if nx l i=116\/nx l i=102 then
   match kH l i with
   | .error e=>.error e
   | .ok (n,j)=>.ok (j,addN ns up ⟨5,k,[],n,[],p⟩)
  else if nx l i=91 then
   if d=8 then .error (4,i)
   else lst l f (i+1) ns.length (d+1) (addN ns up ⟨1,k,[],0,[],p⟩)
  else .error (2,i)
def lst(l:List UInt8):Nat->Nat->Nat->Nat->List Tn->Rs (Nat × List Tn)
 | 0,i,_,_,_=>.error (2,i)
 | f+1,i,up,d,ns =>
  match gap l (l.length+1) i with
  | .error e=>.error e
  | .ok j =>
   if nx l j=93 then .ok (j+1,ns)
   else
    match val l f j up [] j d ns with
    | .error e=>.error e
    | .ok (j1,ns1) =>
     match gap l (l.length+1) j1 with
     | .error e=>.error e
     | .ok j2 =>
      if nx l j2=44 then lst l f (j2+1) up d ns1
      else if nx l j2=93 then .ok (j2+1,ns1)
      else .error (2,j2)
end
def ah(ns:List Tn)(t:Nat)(k:List UInt8):Option Nat:=match ns[t]? with|some u=>u.ks.find? (fun q=>match ns[q]? with|some x=>decide (x.ky=k)|none=>false)|none=>none
def aj(ns:List Tn)(t:Nat):Int:=match ns[t]? with|some u=>u.kd|none=>-1
def fD(ns:List Tn)(t:Nat)(k:List UInt8)(p:Nat):Rs (Nat × List Tn) :=
 match ah ns t k with
 | none=>.ok (ns.length,addN ns t ⟨0,k,[],0,[],p⟩)
 | some q=>if aj ns q=0 then .ok (q,ns) else if aj ns q=2 then(match ns[q]? with|some u=>.ok (u.ks.getLastD 0,ns)|none=>.error (5,p)) else .error (5,p)
def fJ(ns:List Tn)(own:List Nat)(t:Nat)(k:List UInt8)(p:Nat):Rs (Nat × List Tn) :=
 match ah ns t k with
 | none=>.ok (ns.length,addN ns t ⟨0,k,[],0,[],p⟩)
 | some q=>if aj ns q=0/\¬q∈own then .ok (q,ns) else .error (5,p)
def fK(ns:List Tn)(t:Nat)(k:List UInt8)(p:Nat):Rs (Nat × List Tn) :=
 match ah ns t k with
 | none=>.ok (ns.length+1,addN (addN ns t ⟨2,k,[],0,[],p⟩) ns.length ⟨0,[],[],0,[],p⟩)
 | some q=>if aj ns q=2 then .ok (ns.length,addN ns q ⟨0,[],[],0,[],p⟩) else .error (5,p)
def way(many:Bool)(own:List Nat):List (List UInt8 × Nat)->Nat->List Tn->Rs (Nat × List Tn)
 | [],t,ns=>.ok (t,ns)
 | [(k,p)],t,ns=>if many=true then fK ns t k p else fJ ns own t k p
 | (k,p) :: r,t,ns =>
  match fD ns t k p with
  | .error e=>.error e
  | .ok (t1,ns1)=>way many own r t1 ns1
def fF(l:List UInt8):Nat->Nat->List (List UInt8 × Nat)->Rs (List (List UInt8 × Nat) × Nat)
 | 0,i,_=>.error (2,i)
 | f+1,i,acc =>
  match bW l (bl l i) with
  | .error e=>.error e
  | .ok (k,j)=>if nx l (bl l j)=46 then fF l f (bl l j+1) (acc++[(k,bl l i)]) else .ok (acc++[(k,bl l i)],bl l j)
structure Sd where
 i:Nat
 ns:List Tn
 own:List Nat
 now:Nat
def must(l:List UInt8)(i:Nat)(c:Int):Rs Nat:=if nx l i=c then .ok (i+1) else .error (2,i)
def fQ(l:List UInt8)(s:Sd):Rs Sd :=
 let many:Bool:=decide (nx l (s.i+1)=91)
 match fF l (l.length+1) (if many=true then s.i+2 else s.i+1) [] with
 | .error e=>.error e
 | .ok (ks,j) =>
  match must l j 93 with
  | .error e=>.error e
  | .ok j1 =>
   match (if many=true then must l j1 93 else .ok j1) with
   | .error e=>.error e
   | .ok j2 =>
    match way many s.own ks 0 s.ns with
    | .error e=>.error e
    | .ok (t,ns)=>.ok ⟨j2,ns,t :: s.own,t⟩
def rdPair(l:List UInt8)(s:Sd):Rs Sd :=
 match bW l s.i with
 | .error e=>.error e
 | .ok (k,j) =>
  match must l (bl l j) 61 with
  | .error e=>.error e
  | .ok j1 =>
   match ah s.ns s.now k with
   | some _=>.error (5,s.i)
   | none =>
    match val l (2*l.length+2) (bl l j1) s.now k s.i 0 s.ns with
    | .error e=>.error e
    | .ok (j2,ns)=>.ok ⟨j2,ns,s.own,s.now⟩
def iF(l:List UInt8)(s0:Sd):Rs Sd :=
 let s:Sd:=⟨bl l s0.i,s0.ns,s0.own,s0.now⟩
 match (if nx l s.i=91 then fQ l s else if nx l s.i=34\/aN (nx l s.i)=true then rdPair l s else .ok s) with
 | .error e=>.error e
 | .ok s1 =>
  if(bi l (bl l s1.i)).1=false then .error (2,(bi l (bl l s1.i)).2)
  else if nx l (bi l (bl l s1.i)).2=-1 then .ok ⟨(bi l (bl l s1.i)).2,s1.ns,s1.own,s1.now⟩
  else match must l (bi l (bl l s1.i)).2 10 with
   | .error e=>.error e
   | .ok j=>.ok ⟨j,s1.ns,s1.own,s1.now⟩
def jc(l:List UInt8):Nat->Sd->Rs Sd
 | 0,s=>.ok s
 | f+1,s=>if l.length<=s.i then .ok s else match iF l s with | .error e=>.error e | .ok s1=>jc l f s1
def jy(l:List UInt8):Rs (List Tn) :=
 if 100000<l.length then .error (1,0)
 else match jc l (l.length+1) ⟨0,[⟨0,[],[],0,[],0⟩],[],0⟩ with
  | .error e=>.error e
  | .ok s=>.ok s.ns
open Go.RowKit Go.Joins
theorem Pg(c:Int)(w:World):Calls prog 106 #[.int .i64 c] w fun e w'=>e=.returned (.bool (aN c))/\w'=w:=by
 have CS:Hd (∀w,Calls prog 150 #[.int .i64 c] w fun e w'=>e=.returned (.bool (aZ c))/\w'=w):=fun w=>O8 c w
 have CD:Hd (∀w,Calls prog 151 #[.int .i64 c] w fun e w'=>e=.returned (.bool (ax c))/\w'=w):=fun w=>Et c w
 have HB:Hd (aN c=(aZ c || decide (65<=c/\c<=90) || ax c || decide (c=95) || decide (c=45))):=rfl;obtain⟨b,hb⟩:∃b,aZ c=b:=⟨_,rfl⟩;obtain⟨d,hd⟩:∃d,ax c=d:=⟨_,rfl⟩;rw[hb]at CS HB;rw[hd]at CD HB;clear hb hd
 cases b with
 | true =>
  go_enter func106,ntmps106;go_wp2_with (first|(go_at_call 150;refine(CS.o _).mono ?_;rintro e w' ⟨rfl,rfl⟩)|(go_at_call 151;refine(CD.o _).mono ?_;rintro e w' ⟨rfl,rfl⟩));go_ret;refine⟨bV ?_,rfl⟩;rw[HB.o];rfl
 | false =>
  cases d with
  | true =>
   go_enter func106,ntmps106;go_wp2_with (first|(go_at_call 150;refine(CS.o _).mono ?_;rintro e w' ⟨rfl,rfl⟩)|(go_at_call 151;refine(CD.o _).mono ?_;rintro e w' ⟨rfl,rfl⟩))
   all_goals go_ret
   all_goals (refine⟨bV ?_,rfl⟩;rw[HB.o,Bool.eq_iff_iff];simp;try omega)
  | false =>
   go_enter func106,ntmps106;go_wp2_with (first|(go_at_call 150;refine(CS.o _).mono ?_;rintro e w' ⟨rfl,rfl⟩)|(go_at_call 151;refine(CD.o _).mono ?_;rintro e w' ⟨rfl,rfl⟩))
   all_goals go_ret
   all_goals (refine⟨bV ?_,rfl⟩;rw[HB.o,Bool.eq_iff_iff];simp;try omega)
theorem Ey(c:Int):-1<=hexV c/\hexV c<16:=by
 unfold hexV ax;simp only[decide_eq_true_eq]
 repeat' split
 all_goals omega
theorem Xm(c:Int)(hc:-1<=c/\c<256)(w:World):Calls prog 237 #[.int .i64 c] w fun e w'=>e=.returned (.int .i64 (hexV c))/\w'=w:=by
 have CD:Hd (∀w,Calls prog 151 #[.int .i64 c] w fun e w'=>e=.returned (.bool (ax c))/\w'=w):=fun w=>Et c w
 have HX:Hd (hexV c=if ax c=true then c-48 else if 97<=c/\c<=102 then c-87 else if 65<=c/\c<=70 then c-55 else -1):=rfl;obtain⟨d,hd⟩:∃d,ax c=d:=⟨_,rfl⟩;rw[hd]at CD HX;clear hd;obtain⟨h1,h2⟩:=hc;obtain⟨y,hy⟩:∃y,hexV c=y:=⟨_,rfl⟩;rw[hy]at HX ⊢;clear hy
 cases d with
 | true =>
  go_enter func237,ntmps237;go_wp2_with (go_at_call 151;refine(CD.o _).mono ?_;rintro e w' ⟨rfl,rfl⟩);go_ret;refine⟨dB ?_,rfl⟩;rw[HX.o];simp
 | false =>
  go_enter func237,ntmps237;go_wp2_with (go_at_call 151;refine(CD.o _).mono ?_;rintro e w' ⟨rfl,rfl⟩)
  all_goals go_ret
  all_goals (refine⟨dB ?_,rfl⟩;rw[HX.o];simp;try omega)
open Go.RowKit Go.Joins
theorem zV(p:Int->Bool)(l:List UInt8)(i:Nat)(h:l.length<=i):toR p l i=i:=by
 unfold toR runN;rw[List.drop_eq_nil_of_le h];simp
theorem zW{l:List UInt8}{i:Nat}(h:nx l i=-1):l.length<=i:=by
 apply Classical.byContradiction;intro hn;rw[oP l i (by omega)]at h;omega
def zX(R:Nat)(s:ByteArray)(T:Nat)(ty:TypeId)(pv:Value)(r:Bool × Nat)(w:World)(e:Ending)(w':World):Prop:=(r.1=true->e=.returned .nilIface)/\(r.1=false->∃v,e=.returned v/\FaultV w' v r.2 ty pv)/\Rd w' R s r.2 T/\w.grownBy w' (some R)
theorem Ph(R:Nat)(s:ByteArray)(i T:Nat)(ty:TypeId)(pv:Value)(w:World)(h:Rd w R s i T)(hi:i<=s.size)(hs:s.size<=1048576)(he:Ew w ty pv)(hR:¬R=6) :
  Calls prog 108 #[.pointer (some ⟨R,0,none⟩)] w (zX R s T ty pv (bi s.data.toList i) w):=by
 have CN:Hd (∀k w,Rd w R s k T->k<=s.size->Calls prog 104 #[.pointer (some ⟨R,0,none⟩)] w fun e w'=>e=.returned (.int .i64 (nx s.data.toList k))/\w.grownBy w' none):=fun k w h1 h2=>l7 R s k T w h1 h2 hs
 have CB:Hd (∀c w,Calls prog 155 #[.int .i64 c] w fun e w'=>e=.returned (.bool (gG c))/\w'=w):=O9;have CH:Hd (∀k w',w.grownBy w' (some R)->Rd w' R s k T->Calls prog 156 #[.pointer (some ⟨R,0,none⟩)] w' fun e w''=>(∃v,e=.returned v/\FaultV w'' v k ty pv)/\w'.grownBy w'' none):=fun k w' hg hr=>uS R s k T ty pv w' hr (hg.cell he (by simp;exact fun e=>hR e.symm))
 have hl:s.data.toList.length=s.size:=by simp
 have qm:Hd (¬nx s.data.toList i=35->bi s.data.toList i=(true,i)):=Ep _ i;have kT:Hd (nx s.data.toList i=35->bi s.data.toList i=if nx s.data.toList (toR dm s.data.toList i)=10\/nx s.data.toList (toR dm s.data.toList i)=-1 then(true,toR dm s.data.toList i) else(false,toR dm s.data.toList i)):=fun h=>by
  show _=_;unfold bi;rw[if_pos h]
 have HST:Hd (∀k,k<s.size->dm (nx s.data.toList k)=true->toR dm s.data.toList k=toR dm s.data.toList (k+1)):=fun k hk hb=>ql dm _ k (by omega) hb
 have jH:Hd (∀k,dm (nx s.data.toList k)=false->toR dm s.data.toList k=k):=fun k hb=>lG dm _ k hb
 have qo:Hd (∀k,nx s.data.toList k=-1->toR dm s.data.toList k=k):=fun k hb=>zV dm _ k (zW hb)
 have cZ:Hd (∀k,k<=s.size->¬nx s.data.toList k=-1->k<s.size):=fun k hk hn=>by
  apply Classical.byContradiction;intro hh;exact hn (ji _ _ (by omega))
 have dG:Hd (Rd w R s i T):=h;have C1:Hd (Calls prog 104 #[.pointer (some ⟨R,0,none⟩)] w fun e w'=>e=.returned (.int .i64 (nx s.data.toList i))/\w.grownBy w' none):=CN.o i w h hi;obtain⟨r,hr⟩:∃r,bi s.data.toList i=r:=⟨_,rfl⟩;rw[hr]at qm kT ⊢;obtain⟨x,hx⟩:∃x,nx s.data.toList i=x:=⟨_,rfl⟩;rw[hx]at C1 qm kT;obtain⟨J,hJ⟩:∃J,toR dm s.data.toList i=J:=⟨_,rfl⟩;have HJ:Hd (toR dm s.data.toList i=J):=hJ;rw[hJ]at kT;clear h he hr hx hJ;go_enter func108,ntmps108;go_wp2_with (go_at_call 104;refine C1.o.mono ?_);rintro e w1 ⟨rfl,hg1⟩;have ay:Hd (w.grownBy w1 (some R)):=aF (ak w (some R)) hg1;have HR1:Hd (Rd w1 R s i T):=dG.o.grow hg1;clear hg1
 by_cases hx:x=35
 ·have hb:(x != 35)=false:=by simp[hx]
  have HC:Hd (r=if nx s.data.toList J=10\/nx s.data.toList J=-1 then(true,J) else(false,J)):=kT.o hx;clear hx;go_wp2;go_loopw [] (fun wr=>∃k:Nat,Rd wr R s k T/\k<=s.size/\toR dm s.data.toList k=J/\w.grownBy wr (some R)) (fun wr=>s.size-(match wr.cell? ⟨R,1,none⟩ with|some (.int _ k)=>k.toNat|_=>0))
  case atStart=>exact⟨i,HR1.o,hi,HJ.o,ay.o⟩
  case round =>
   obtain⟨k,hrd,hk,hto,hg⟩:=hrel;have kJ:Hd (Rd wr R s k T):=hrd;have l9:Hd (toR dm s.data.toList k=J):=hto;have jI:Hd (w.grownBy wr (some R)):=hg;have gI:Hd ((match wr.cell? ⟨R,1,none⟩ with|some (.int _ k)=>k.toNat|_=>0)=k):=by show _=_;rw[hrd.cells.2.1];simp
   have eH:=HST.o k;have HS2:=jH.o k;have jW:=qo.o k;have rF:=cZ.o k hk;have HC2:Hd (∀w',wr.grownBy w' none->Calls prog 104 #[.pointer (some ⟨R,0,none⟩)] w' fun e w''=>e=.returned (.int .i64 (nx s.data.toList k))/\w'.grownBy w'' none):=fun w' hg'=>CN.o k w' (kJ.o.grow hg') hk
   have Ez:Hd (toR dm s.data.toList k=k->r=if nx s.data.toList k=10\/nx s.data.toList k=-1 then(true,k) else(false,k)):=fun h1=>by
    have e1:J=k:=l9.o.symm.trans h1;have h2:=HC.o;rw[e1]at h2;exact h2
   obtain⟨c,hc⟩:∃c,nx s.data.toList k=c:=⟨_,rfl⟩;rw[hc]at eH HS2 jW rF HC2 Ez;have H1:Hd (k<s.size->dm c=true->toR dm s.data.toList k=toR dm s.data.toList (k+1)):=eH;have H2:Hd (dm c=false->toR dm s.data.toList k=k):=HS2;have H3:Hd (c=-1->toR dm s.data.toList k=k):=jW;have H4:Hd (¬c=-1->k<s.size):=rF;have EC:Hd (dm c=(decide (c≠10) && !gG c)):=rfl;clear hrd hto hg eH HS2 jW rF hc
   by_cases he:c=-1
   ·have hbe:(c != -1)=false:=by simp[he]
    have HRR:Hd (r=(true,k)):=by
     show r=_;rw[Ez.o (H3.o he),if_pos (Or.inr he)]
    clear he;go_wp2_with (go_at_call 104;refine(HC2.o _ (ak _ _)).mono ?_);rintro e w2 ⟨rfl,hg2⟩;have HG2:Hd (wr.grownBy w2 none):=hg2;clear hg2;go_wp2;refine bodyPost_ret (results_tmp (t:=2) rfl _ _ _) rfl ?_;rw[HRR.o];exact⟨fun _=>rfl,fun hh=>(by cases hh),kJ.o.grow HG2.o,aF jI.o HG2.o⟩
   ·have hbe:(c != -1)=true:=by simp[he]
    have hkl:k<s.size:=H4.o he;have oU:Hd (¬c=-1):=he;clear he;go_wp2_with (go_at_call 104;refine(HC2.o _ (ak _ _)).mono ?_);rintro e w2 ⟨rfl,hg2⟩;have HG2:Hd (wr.grownBy w2 none):=hg2;clear hg2;go_wp2_with (go_at_call 104;refine(HC2.o _ HG2.o).mono ?_);rintro e w3 ⟨rfl,hg3⟩;have aO:Hd (wr.grownBy w3 none):=ai HG2.o hg3;clear hg3
    by_cases h10:c=10
    ·have Xn:(c != 10)=false:=by simp[h10]
     have HRR:Hd (r=(true,k)):=by
      show r=_;rw[Ez.o (H2.o (by rw[EC.o,h10];rfl)),if_pos (Or.inl h10)]
     clear h10;go_wp2;refine bodyPost_ret (results_tmp (t:=2) rfl _ _ _) rfl ?_;rw[HRR.o];exact⟨fun _=>rfl,fun hh=>(by cases hh),kJ.o.grow aO.o,aF jI.o aO.o⟩
    ·have Xn:(c != 10)=true:=by simp[h10]
     have zY:Hd (¬c=10):=h10;have IR:Hd (∀w,Calls prog 155 #[.int .i64 c] w fun e w'=>e=.returned (.bool (gG c))/\w'=w):=fun w=>CB.o c w
     obtain⟨b,hb2⟩:∃b,gG c=b:=⟨_,rfl⟩;rw[hb2]at IR EC;clear h10 hb2;go_wp2_with (go_at_call 104;refine(HC2.o _ aO.o).mono ?_);rintro e w4 ⟨rfl,hg4⟩;have dQ:Hd (wr.grownBy w4 none):=ai aO.o hg4;clear hg4
     cases b with
     | true =>
      have HRR:Hd (r=(false,k)):=by
       show r=_;rw[Ez.o (H2.o (by rw[EC.o];simp)),if_neg (by rintro(h|h);exact zY.o h;exact oU.o h)]
      go_wp2_with (first|(go_at_call 155;refine(IR.o _).mono ?_;rintro e w' ⟨rfl,rfl⟩)|(go_at_call 156;refine(CH.o k _ (aF jI.o dQ.o) (kJ.o.grow dQ.o)).mono ?_;rintro e w5 ⟨⟨v,rfl,hv⟩,hg5⟩));refine bodyPost_ret (results_tmp (t:=2) rfl _ _ _) rfl ?_;rw[HRR.o];exact⟨fun hh=>(by cases hh),fun _=>⟨v,rfl,hv⟩,(kJ.o.grow dQ.o).grow hg5,aF (aF jI.o dQ.o) hg5⟩
     | false =>
      have HN:Hd (toR dm s.data.toList (k+1)=J):=(H1.o hkl (by rw[EC.o,decide_eq_true zY.o];rfl)).symm.trans l9.o;obtain⟨-,d1,-,df⟩:=(kJ.o.grow dQ.o).cells;have df1:=df 1;clear df;have zZ:Hd (Rd (w4.setCell ⟨R,1,none⟩ (.int .i64 ((k:Int)+1))) R s (k+1) T):=(kJ.o.grow dQ.o).set (k+1);go_wp2_with (go_at_call 155;refine(IR.o _).mono ?_;rintro e w' ⟨rfl,rfl⟩);refine⟨⟨k+1,zZ.o,by omega,HN.o,aV (aF jI.o dQ.o) 1 _⟩,?_⟩;rw[gI.o,zZ.o.cells.2.1];simp;omega
 ·have hb:(x != 35)=true:=by simp[hx]
  have HRR:Hd (r=(true,i)):=qm.o hx;clear hx;go_wp2;refine bodyPost_ret (results_tmp (t:=2) rfl _ _ _) rfl ?_;rw[HRR.o];exact⟨fun _=>rfl,fun hh=>(by cases hh),HR1.o,ay.o⟩
end Go.Proofs.YtnnbgjaphfhibaaGreatDoor
