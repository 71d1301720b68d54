import Derived.Lib.Bytealg
import Derived.Lib.TrimByte
import Derived.Lib.Small
import Derived.Lib.ItoaNum
import Derived.Test.YteciokcdpadmpaaGreatDoorProg
import Derived.WalkKit
import Derived.WalkSpells
import Derived.WalkLawsBesides
import Derived.Deep.QuietTactic
import Derived.BigQuiet
import Derived.Below
import Derived.Lib.ConvBytes
import Derived.Laws.AppendOwn
import Derived.Deep.RegionLaw
import Derived.Deep.AppendLies
set_option linter.all false
set_option maxRecDepth 100000
set_option maxHeartbeats 0
open Go.Proofs.Tryz
namespace Go.Proofs.YteciokcdpadmpaaGreatDoor
structure Good{α:Type}(c:α->α->Int):Prop where
 rng:∀a b,c a b=-1\/c a b=0\/c a b=1
 anti:∀a b,c b a=- c a b
 trans:∀a b d,c a b<=0->c b d<=0->c a d<=0/\((c a b=0/\c b d=0)↔c a d=0)
theorem Good.self{α:Type}{c:α->α->Int}(h:Good c)(a:α):c a a=0:=by
 have:=h.anti a a;omega
theorem pR{α β:Type}{c:α->α->Int}(h:Good c)(f:β->α):Good (fun a b=>c (f a) (f b)) :=
 ⟨fun a b=>h.rng _ _,fun a b=>h.anti _ _,fun a b d=>h.trans _ _ _⟩
def oO{α:Type}(c d:α->α->Int)(a b:α):Int:=if c a b=0 then d a b else c a b
theorem yU{α:Type}{c d:α->α->Int}(hc:Good c)(hd:Good d):Good (oO c d):=by
 refine⟨fun a b=>?_,fun a b=>?_,fun x y z=>?_⟩
 ·unfold oO;split
  ·exact hd.rng a b
  ·exact hc.rng a b
 ·have h1:=hc.anti a b;have h2:=hd.anti a b;unfold oO
  by_cases h:c a b=0
  ·rw[if_pos h,if_pos (by omega),h2]
  ·rw[if_neg h,if_neg (by omega),h1]
 ·have h1:=hc.trans x y z;have h2:=hd.trans x y z;have r1:=hc.rng x y;have r2:=hc.rng y z;have r3:=hc.rng x z;have s3:=hd.rng x z;unfold oO;intro p q;split at p<;>split at q
  ·rename_i e1 e2;have e3:=(h1 (by omega) (by omega)).2.1 ⟨e1,e2⟩;rw[if_pos e1,if_pos e2,if_pos e3];exact h2 p q
  ·rename_i e1 e2;have e3:=h1 (by omega) (by omega);have e4:c x z≠0:=fun hh=>e2 (e3.2.2 hh).2
   rw[if_pos e1,if_neg e2,if_neg e4];refine⟨e3.1,?_⟩;constructor
   ·rintro⟨_,h⟩;exact absurd h e2
   ·intro h;exact absurd h e4
  ·rename_i e1 e2;have e3:=h1 (by omega) (by omega);have e4:c x z≠0:=fun hh=>e1 (e3.2.2 hh).1
   rw[if_neg e1,if_pos e2,if_neg e4];refine⟨e3.1,?_⟩;constructor
   ·rintro⟨h,_⟩;exact absurd h e1
   ·intro h;exact absurd h e4
  ·rename_i e1 e2;have e3:=h1 (by omega) (by omega);have e4:c x z≠0:=fun hh=>e1 (e3.2.2 hh).1
   rw[if_neg e1,if_neg e2,if_neg e4];refine⟨e3.1,?_⟩;constructor
   ·rintro⟨h,_⟩;exact absurd h e1
   ·intro h;exact absurd h e4
def dw{α:Type}(c:α->α->Int):List α->List α->Int
 | [],[]=>0
 | [],_ :: _=>-1
 | _ :: _,[]=>1
 | a :: al,b :: bs=>if c a b=0 then dw c al bs else c a b
theorem MP{α:Type}{c:α->α->Int}(hc:Good c):Good (dw c):=by
 refine⟨fun a=>?_,fun a=>?_,fun x=>?_⟩
 ·induction a with
  | nil=>intro b;cases b<;>simp[dw]
  | cons a al ih =>
   intro b
   cases b with
   | nil=>simp[dw]
   | cons b bs =>
    simp only[dw];split
    ·exact ih bs
    ·exact hc.rng a b
 ·induction a with
  | nil=>intro b;cases b<;>simp[dw]
  | cons a al ih =>
   intro b
   cases b with
   | nil=>simp[dw]
   | cons b bs =>
    have h1:=hc.anti a b;simp only[dw]
    by_cases h:c a b=0
    ·rw[if_pos h,if_pos (by omega),ih]
    ·rw[if_neg h,if_neg (by omega),h1]
 ·induction x with
  | nil =>
   intro y z p q
   cases y with
   | nil=>cases z<;>simp[dw]at q ⊢
   | cons y ys=>cases z with
    | nil=>simp[dw]at q
    | cons z zs=>simp[dw]
  | cons x xs ih =>
   intro y z
   cases y with
   | nil=>intro p;simp[dw]at p
   | cons y ys =>
    cases z with
    | nil=>intro p q;simp[dw]at q
    | cons z zs =>
     have h1:=hc.trans x y z;have h2:=ih ys zs;have r1:=hc.rng x y;have r2:=hc.rng y z;have r3:=hc.rng x z;simp only[dw];intro p q;split at p<;>split at q
     ·rename_i e1 e2;have e3:=(h1 (by omega) (by omega)).2.1 ⟨e1,e2⟩;rw[if_pos e1,if_pos e2,if_pos e3];exact h2 p q
     ·rename_i e1 e2;have e3:=h1 (by omega) (by omega);have e4:c x z≠0:=fun hh=>e2 (e3.2.2 hh).2
      rw[if_pos e1,if_neg e2,if_neg e4];refine⟨e3.1,?_⟩;constructor
      ·rintro⟨_,h⟩;exact absurd h e2
      ·intro h;exact absurd h e4
     ·rename_i e1 e2;have e3:=h1 (by omega) (by omega);have e4:c x z≠0:=fun hh=>e1 (e3.2.2 hh).1
      rw[if_neg e1,if_pos e2,if_neg e4];refine⟨e3.1,?_⟩;constructor
      ·rintro⟨h,_⟩;exact absurd h e1
      ·intro h;exact absurd h e4
     ·rename_i e1 e2;have e3:=h1 (by omega) (by omega);have e4:c x z≠0:=fun hh=>e1 (e3.2.2 hh).1
      rw[if_neg e1,if_neg e2,if_neg e4];refine⟨e3.1,?_⟩;constructor
      ·rintro⟨h,_⟩;exact absurd h e1
      ·intro h;exact absurd h e4
theorem nK:Good Lib.compareInt:=by
 refine⟨fun a b=>?_,fun a b=>?_,fun x y z=>?_⟩
 ·unfold Lib.compareInt;split
  ·simp
  ·split<;>simp
 ·unfold Lib.compareInt;repeat' split
  all_goals omega
 ·unfold Lib.compareInt;repeat' split
  all_goals omega
def Ee(a b:UInt8):Int:=Lib.compareInt a.toNat b.toNat
theorem VF:Good Ee:=pR nK (fun a:UInt8=>(a.toNat:Int))
theorem MQ:∀a b,Lib.compareBytes a b=dw Ee a b
 | [],[]=>rfl
 | [],_ :: _=>rfl
 | _ :: _,[]=>rfl
 | a :: al,b :: bs=>by
  have ih:=MQ al bs;unfold Lib.compareBytes dw;rw[ih];have eb:Ee a b=if(a.toNat:Int)<b.toNat then -1 else if(a.toNat:Int) > b.toNat then 1 else 0:=rfl;rw[eb]
  by_cases h:a<b
  ·have h':((a.toNat:Int)<b.toNat):=by have:=UInt8.lt_iff_toNat_lt.1 h;omega
   simp[h,h']
  ·by_cases h2:b<a
   ·have h':((b.toNat:Int)<a.toNat):=by have:=UInt8.lt_iff_toNat_lt.1 h2;omega
    have h'':¬((a.toNat:Int)<b.toNat):=by omega
    simp[h,h2,h',h'']
   ·have h':¬((b.toNat:Int)<a.toNat):=by intro hh;exact h2 (UInt8.lt_iff_toNat_lt.2 (by omega))
    have h'':¬((a.toNat:Int)<b.toNat):=by intro hh;exact h (UInt8.lt_iff_toNat_lt.2 (by omega))
    simp[h,h2,h',h'']
theorem MR:Good Lib.compareBytes:=by
 have e:Lib.compareBytes=dw Ee:=by funext a b;exact MQ a b
 rw[e];exact MP VF
def aP(c:UInt8):Bool:=decide (48<=c.toNat) && decide (c.toNat<=57)
def aT(c:UInt8):Bool:=aP c || (decide (65<=c.toNat) && decide (c.toNat<=90)) || (decide (97<=c.toNat) && decide (c.toNat<=122)) || decide (c.toNat=45)
def eU(l:List UInt8):Bool:=!l.isEmpty && l.all aP
def dY(l:List UInt8):List UInt8:=Lib.trimLeftB l 48
def lK(l:List UInt8):Int:=if eU l then 0 else 1
def mQ(l:List UInt8):Int:=if eU l then(dY l).length else 0
def bodyT(l:List UInt8):List UInt8:=if eU l then dY l else l
def dZ(a b:List UInt8):Int:=oO (fun a b=>Lib.compareInt (lK a) (lK b)) (oO (fun a b=>Lib.compareInt (mQ a) (mQ b)) (fun a b=>Lib.compareBytes (bodyT a) (bodyT b))) a b
theorem Ef:Good dZ:=yU (pR nK lK) (yU (pR nK mQ) (pR MR bodyT))
def aV:List UInt8->List (List UInt8)
 | []=>[[]]
 | c :: l=>if c=46 then[] :: aV l else match aV l with
  | p :: ps=>(c :: p) :: ps
  | []=>[[c]]
theorem sH(c:UInt8)(l:List UInt8):aV (c :: l)=if c=46 then[] :: aV l else match aV l with
  | p :: ps=>(c :: p) :: ps
  | []=>[[c]]:=by rw[aV]
theorem uT(l:List UInt8):aV l≠[]:=by
 cases l with
 | nil=>simp[aV]
 | cons c l =>
  rw[sH];split
  ·simp
  ·split<;>simp
theorem AX:∀(p:List UInt8),(∀c∈p,c≠46)->aV p=[p]
 | [],_=>rfl
 | c :: p,h=>by
  have ih:=AX p (fun x hx=>h x (List.mem_cons_of_mem _ hx));rw[sH];rw[if_neg (h c (List.mem_cons_self ..)),ih]
theorem AY:∀(p r:List UInt8),(∀c∈p,c≠46)->aV (p++46 :: r)=p :: aV r
 | [],r,_=>by simp[aV]
 | c :: p,r,h=>by
  have ih:=AY p r (fun x hx=>h x (List.mem_cons_of_mem _ hx));rw[List.cons_append,sH];rw[if_neg (h c (List.mem_cons_self ..)),ih]
theorem Eg:∀(l r:List UInt8),aV (l++46 :: r)=aV l++aV r
 | [],r=>by simp[aV]
 | c :: l,r=>by
  have ih:=Eg l r;rw[List.cons_append,sH,sH]
  by_cases h:c=46
  ·rw[if_pos h,if_pos h,ih,List.cons_append]
  ·rw[if_neg h,if_neg h,ih];obtain⟨p,ps,e⟩:∃p ps,aV l=p :: ps:=by
    cases e:aV l with
    | nil=>exact absurd e (uT l)
    | cons p ps=>exact⟨p,ps,rfl⟩
   rw[e];rfl
def kU(a b:List UInt8):Int :=
 oO (fun a b:List UInt8=>Lib.compareInt (if a.isEmpty then 1 else 0) (if b.isEmpty then 1 else 0)) (fun a b=>dw dZ (aV a) (aV b)) a b
theorem Eh:Good kU:=yU (pR nK (fun a:List UInt8=>if a.isEmpty then(1:Int) else 0)) (pR (MP Ef) aV)
structure V where
 major:Int
 minor:Int
 patch:Int
 pre:List UInt8
def aC(a b:V):Int:=oO (fun a b=>Lib.compareInt a.major b.major) (oO (fun a b=>Lib.compareInt a.minor b.minor) (oO (fun a b=>Lib.compareInt a.patch b.patch) (fun a b=>kU a.pre b.pre))) a b
theorem wU:Good aC:=yU (pR nK V.major) (yU (pR nK V.minor) (yU (pR nK V.patch) (pR Eh V.pre)))
theorem yV{x y:Int}(h:x<y):Lib.compareInt x y=-1:=by unfold Lib.compareInt;rw[if_pos h]
theorem AZ{x y:Int}(h:y<x):Lib.compareInt x y=1:=by unfold Lib.compareInt;rw[if_neg (by omega),if_pos h]
theorem cmp_eq(x:Int):Lib.compareInt x x=0:=nK.self x
theorem mV{x y:Int}:Lib.compareInt x y=0↔x=y:=by
 unfold Lib.compareInt;repeat' split
 all_goals omega
theorem A7{x y:Int}:Lib.compareInt x y<=0↔x<=y:=by
 unfold Lib.compareInt;repeat' split
 all_goals omega
theorem Hf{α:Type}{c d:α->α->Int}{a b:α}(h1:c a b<=0)(h2:c a b=0->d a b<=0):oO c d a b<=0:=by
 unfold oO;split
 ·exact h2 ‹_›
 ·exact h1
theorem VG(p:List UInt8):0<=lK p:=by unfold lK;split<;>decide
theorem VH(p:List UInt8):0<=mQ p:=by unfold mQ;split<;>omega
theorem VI:lK [48]=0:=by decide
theorem len0:mQ [48]=0:=by decide
theorem VJ:bodyT [48]=[]:=by decide
theorem MS(p:List UInt8):dZ [48] p<=0:=by
 unfold dZ;refine Hf ?_ fun h=>Hf ?_ fun h2=>?_
 ·show Lib.compareInt (lK [48]) (lK p)<=0;rw[A7,VI];exact VG p
 ·show Lib.compareInt (mQ [48]) (mQ p)<=0;rw[A7,len0];exact VH p
 ·show Lib.compareBytes (bodyT [48]) (bodyT p)<=0;rw[VJ]
  cases bodyT p<;>simp[Lib.compareBytes]
theorem MV(l:List UInt8):kU [48] l<=0:=by
 unfold kU;refine Hf ?_ fun h=>?_
 ·show Lib.compareInt 0 _<=0;rw[A7];split<;>decide
 ·show dw dZ (aV [48]) (aV l)<=0;have e:aV [48]=[[48]]:=by decide
  rw[e]
  cases h:aV l with
  | nil=>exact absurd h (uT l)
  | cons q qs =>
   unfold dw;split
   ·cases qs<;>simp[dw]
   ·exact MS q
theorem MW{α:Type}{c:α->α->Int}(h:Good c)(x:α)(r:List α):∀l,dw c l (l++x :: r)=-1
 | []=>rfl
 | a :: l=>by rw[List.cons_append];unfold dw;rw[if_pos (h.self a)];exact MW h x r l
theorem MX:∀(L K:List (List UInt8)),dw dZ L K<0->dw dZ K (L++[[48]])<0->False
 | [],[],h,_=>by simp[dw]at h
 | [],k :: ks,_,h=>by
  have h1:=Ef.anti [48] k;have h2:=MS k;rw[List.nil_append]at h;unfold dw at h;split at h
  ·cases ks<;>simp[dw]at h
  ·omega
 | a :: L,[],h,_=>by simp[dw]at h
 | a :: L,k :: K,h,h'=>by
  have h1:=Ef.anti a k;rw[List.cons_append]at h';unfold dw at h h'
  by_cases e:dZ a k=0
  ·rw[if_pos e]at h;rw[if_pos (by omega)]at h';exact MX L K h h'
  ·rw[if_neg e]at h;rw[if_neg (by omega)]at h';omega
def lL(v:V):V:=if v.pre=[] then⟨v.major,v.minor,if v.patch<4611686018427387904 then v.patch+1 else v.patch,[48]⟩ else⟨v.major,v.minor,v.patch,v.pre++[46,48]⟩
theorem oP(a b:V):aC a b=if Lib.compareInt a.major b.major=0 then(if Lib.compareInt a.minor b.minor=0 then(if Lib.compareInt a.patch b.patch=0 then kU a.pre b.pre else Lib.compareInt a.patch b.patch) else Lib.compareInt a.minor b.minor) else Lib.compareInt a.major b.major:=rfl
theorem yX(a b:List UInt8):kU a b=if Lib.compareInt (if a.isEmpty then 1 else 0) (if b.isEmpty then 1 else 0)=0 then dw dZ (aV a) (aV b) else Lib.compareInt (if a.isEmpty then 1 else 0) (if b.isEmpty then 1 else 0):=rfl
theorem VK(v:V)(h:v.patch<4611686018427387904):aC v (lL v)=-1:=by
 unfold lL
 by_cases e:v.pre=[]
 ·rw[if_pos e,if_pos h,oP];simp only;have h3:Lib.compareInt v.patch (v.patch+1)=-1:=yV (by omega);rw[if_pos (cmp_eq _),if_pos (cmp_eq _),if_neg (by omega),h3]
 ·rw[if_neg e,oP];simp only;rw[if_pos (cmp_eq _),if_pos (cmp_eq _),if_pos (cmp_eq _),yX];have e1:v.pre.isEmpty=false:=by simpa using e
  have e2:(v.pre++[46,48]).isEmpty=false:=by simp
  rw[e1,e2,if_pos (cmp_eq _),Eg];exact MW Ef [48] [] _
theorem VL(l:List UInt8):0<=kU [] l:=by
 rw[yX]
 cases l with
 | nil=>decide
 | cons c l=>exact(by decide:(0:Int)<=Lib.compareInt 1 0)
theorem VM(v w:V)(h:v.patch<4611686018427387904)(hx:aC v w<0)(hy:aC w (lL v)<0):False:=by
 unfold lL at hy
 by_cases e:v.pre=[]
 ·rw[if_pos e,if_pos h,oP]at hy;rw[oP]at hx;simp only at hy;have a1:=nK.anti v.major w.major;have a2:=nK.anti v.minor w.minor
  by_cases c1:Lib.compareInt v.major w.major=0
  ·rw[if_pos c1]at hx;rw[if_pos (by omega)]at hy
   by_cases c2:Lib.compareInt v.minor w.minor=0
   ·rw[if_pos c2]at hx;rw[if_pos (by omega)]at hy;have p0:=VL w.pre;rw[e]at hx;have p1:=MV w.pre;have p2:=Eh.anti [48] w.pre
    by_cases c3:Lib.compareInt v.patch w.patch=0
    ·rw[if_pos c3]at hx;omega
    ·rw[if_neg c3]at hx;have l1:v.patch<=w.patch:=A7.1 (by omega);have l2:v.patch≠w.patch:=fun hh=>c3 (mV.2 hh)
     by_cases c4:Lib.compareInt w.patch (v.patch+1)=0
     ·rw[if_pos c4]at hy;omega
     ·rw[if_neg c4]at hy;have l3:w.patch<=v.patch+1:=A7.1 (by omega);have l4:w.patch≠v.patch+1:=fun hh=>c4 (mV.2 hh)
      omega
   ·rw[if_neg c2]at hx;rw[if_neg (by omega)]at hy;omega
  ·rw[if_neg c1]at hx;rw[if_neg (by omega)]at hy;omega
 ·rw[if_neg e,oP]at hy;rw[oP]at hx;simp only at hy;have a1:=nK.anti v.major w.major;have a2:=nK.anti v.minor w.minor;have a3:=nK.anti v.patch w.patch
  by_cases c1:Lib.compareInt v.major w.major=0
  ·rw[if_pos c1]at hx;rw[if_pos (by omega)]at hy
   by_cases c2:Lib.compareInt v.minor w.minor=0
   ·rw[if_pos c2]at hx;rw[if_pos (by omega)]at hy
    by_cases c3:Lib.compareInt v.patch w.patch=0
    ·rw[if_pos c3]at hx;rw[if_pos (by omega)]at hy;have e1:v.pre.isEmpty=false:=by simpa using e
     have e2:(v.pre++[46,48]).isEmpty=false:=by simp
     rw[yX,e1]at hx;rw[yX,e2]at hy
     cases hw:w.pre.isEmpty with
     | true =>
      rw[hw]at hy;have hc:Lib.compareInt (if true=true then 1 else 0) (if false=true then 1 else 0)=1:=by decide
      rw[hc]at hy;simp at hy
     | false =>
      rw[hw]at hx hy;rw[if_pos (cmp_eq _)]at hx hy;rw[Eg]at hy;exact MX _ _ hx hy
    ·rw[if_neg c3]at hx;rw[if_neg (by omega)]at hy;omega
   ·rw[if_neg c2]at hx;rw[if_neg (by omega)]at hy;omega
  ·rw[if_neg c1]at hx;rw[if_neg (by omega)]at hy;omega
theorem Ei(a b:List UInt8):dZ a b=if Lib.compareInt (lK a) (lK b)=0 then(if Lib.compareInt (mQ a) (mQ b)=0 then Lib.compareBytes (bodyT a) (bodyT b) else Lib.compareInt (mQ a) (mQ b)) else Lib.compareInt (lK a) (lK b):=rfl
theorem MZ{a b:List UInt8}(ha:eU a=true)(hb:eU b=true):dZ a b=if((dY a).length:Int)=(dY b).length then Lib.compareBytes (dY a) (dY b) else Lib.compareInt (dY a).length (dY b).length:=by
 rw[Ei];unfold lK mQ bodyT;simp only[ha,hb,if_true];rw[if_pos (cmp_eq _)]
 by_cases h:((dY a).length:Int)=(dY b).length
 ·rw[if_pos (mV.2 h),if_pos h]
 ·rw[if_neg (fun hh=>h (mV.1 hh)),if_neg h]
theorem Na{a b:List UInt8}(ha:eU a=true)(hb:eU b=false):dZ a b=-1:=by
 rw[Ei];unfold lK;simp[ha,hb,Lib.compareInt]
theorem Nb{a b:List UInt8}(ha:eU a=false)(hb:eU b=true):dZ a b=1:=by
 rw[Ei];unfold lK;simp[ha,hb,Lib.compareInt]
theorem Nc{a b:List UInt8}(ha:eU a=false)(hb:eU b=false):dZ a b=Lib.compareBytes a b:=by
 rw[Ei];unfold lK mQ bodyT;simp[ha,hb,Lib.compareInt]
theorem Ej:∀(l:List UInt8),(Lib.indexByte l 46=-1/\∀c∈l,c≠46)\/∃k:Nat,Lib.indexByte l 46=k/\k<l.length/\(∀c∈l.take k,c≠46)/\l=l.take k++46 :: l.drop (k+1)
 | []=>Or.inl ⟨rfl,by simp⟩
 | b :: l=>by
  unfold Lib.indexByte
  by_cases hb:b=46
  ·subst hb;right;exact⟨0,by simp,by simp,by simp,by simp⟩
  ·have hb':(b == (46:UInt8))=false:=by simpa using hb
   rw[hb']
   rcases Ej l with⟨h1,h2⟩|⟨k,h1,h2,h3,h4⟩
   ·left;refine⟨by rw[h1];rfl,?_⟩;intro c hc
    rcases List.mem_cons.1 hc with rfl|hc
    ·exact hb
    ·exact h2 c hc
   ·right;refine⟨k+1,?_,Nat.succ_lt_succ h2,?_,?_⟩
    ·rw[h1];have:((k:Int) == -1)=false:=by simp
     rw[this];simp
    ·intro c hc;rw[List.take_succ_cons]at hc
     rcases List.mem_cons.1 hc with rfl|hc
     ·exact hb
     ·exact h3 c hc
    ·rw[List.take_succ_cons,List.drop_succ_cons,List.cons_append,<-h4]
def jI(l:List UInt8):List UInt8:=if Lib.indexByte l 46=-1 then l else l.take (Lib.indexByte l 46).toNat
def kD(l:List UInt8):List UInt8:=if Lib.indexByte l 46=-1 then[] else l.drop ((Lib.indexByte l 46).toNat+1)
def jw(l:List UInt8):Bool:=!decide (Lib.indexByte l 46=-1)
theorem Hg{l:List UInt8}(h:jw l=false):aV l=[jI l]:=by
 have h':Lib.indexByte l 46=-1:=by simpa [jw] using h
 rcases Ej l with⟨h1,h2⟩|⟨k,h1,h2,h3,h4⟩
 ·unfold jI;rw[if_pos h1];exact AX l h2
 ·omega
theorem Em{l:List UInt8}(h:jw l=true):aV l=jI l :: aV (kD l)/\(kD l).length<l.length:=by
 have h':¬Lib.indexByte l 46=-1:=by simpa [jw] using h
 rcases Ej l with⟨h1,h2⟩|⟨k,h1,h2,h3,h4⟩
 ·exact absurd h1 h'
 ·unfold jI kD;rw[if_neg h',if_neg h',h1,Int.toNat_natCast];refine⟨?_,by simp;omega⟩
  conv=>lhs;rw[h4]
  exact AY _ _ h3
theorem Nh(l:List UInt8):(jI l).length<=l.length:=by
 unfold jI;split
 ·exact Nat.le_refl _
 ·simp;omega
theorem Nj(l:List UInt8):(kD l).length<=l.length:=by
 unfold kD;split
 ·simp
 ·simp
theorem VN(a b:List UInt8):dw dZ (aV a) (aV b) =
  if dZ (jI a) (jI b)=0 then(if jw a=true then(if jw b=true then dw dZ (aV (kD a)) (aV (kD b)) else 1) else(if jw b=true then -1 else 0)) else dZ (jI a) (jI b):=by
 cases ha:jw a with
 | true =>
  rw[(Em ha).1]
  cases hb:jw b with
  | true=>rw[(Em hb).1];simp[dw]
  | false =>
   rw[Hg hb]
   cases hs:aV (kD a) with
   | nil=>exact absurd hs (uT _)
   | cons x xs=>simp[dw]
 | false =>
  rw[Hg ha]
  cases hb:jw b with
  | true =>
   rw[(Em hb).1]
   cases hs:aV (kD b) with
   | nil=>exact absurd hs (uT _)
   | cons x xs=>simp[dw]
  | false=>rw[Hg hb];simp[dw]
theorem Hl(a b:List UInt8)(h:a=[]\/b=[]):kU a b=Lib.compareInt b.length a.length:=by
 rw[yX]
 rcases h with rfl|rfl
 ·cases b with
  | nil=>decide
  | cons c b =>
   have:Lib.compareInt ((c :: b).length:Nat) (([]:List UInt8).length:Nat)=1:=AZ (by simp);rw[this];simp[Lib.compareInt]
 ·cases a with
  | nil=>decide
  | cons c a =>
   have:Lib.compareInt (([]:List UInt8).length:Nat) ((c :: a).length:Nat)=-1:=yV (by simp);rw[this];simp[Lib.compareInt]
theorem Nk(a b:List UInt8)(ha:a≠[])(hb:b≠[]):kU a b=dw dZ (aV a) (aV b):=by
 rw[yX];have h1:a.isEmpty=false:=by simpa using ha
 have h2:b.isEmpty=false:=by simpa using hb
 rw[h1,h2,if_pos (cmp_eq _)]
def gU:List UInt8->List UInt8
 | c :: d :: l=>if c=48 then gU (d :: l) else c :: d :: l
 | l=>l
theorem Hm:∀(l:List UInt8),l≠[]->gU l=if dY l=[] then[48] else dY l
 | [],h=>absurd rfl h
 | [c],_=>by
  unfold gU dY Lib.trimLeftB
  by_cases h:c=48
  ·subst h;simp
  ·have:(c == (48:UInt8))=false:=by simpa using h
   simp[List.dropWhile,this]
 | c :: d :: l,_=>by
  unfold gU
  by_cases h:c=48
  ·subst h;rw[if_pos rfl,Hm (d :: l) (by simp)];have e:dY (48 :: d :: l)=dY (d :: l):=by unfold dY Lib.trimLeftB;simp[List.dropWhile]
   rw[e]
  ·rw[if_neg h];have h':(c == (48:UInt8))=false:=by simpa using h
   have e:dY (c :: d :: l)=c :: d :: l:=by unfold dY Lib.trimLeftB;simp[List.dropWhile,h']
   rw[e];simp
theorem Nl(l:List UInt8)(c:UInt8)(r:List UInt8)(h:dY l=c :: r):c≠48:=by
 unfold dY Lib.trimLeftB at h;intro hc;subst hc;have:=List.head?_dropWhile_not (p:=fun x:UInt8=>x == 48) (l:=l);rw[h]at this;simp at this
theorem Np(l:List UInt8)(h:l.all aP=true):(dY l).all aP=true:=by
 rw[List.all_eq_true]at h ⊢;intro c hc;exact h c ((List.dropWhile_sublist _).mem hc)
theorem sJ{c:UInt8}(h:aP c=true):48<=c.toNat/\c.toNat<=57:=by
 unfold aP at h;simpa using h
theorem Nq{a b:List UInt8}(ha:eU a=true)(hb:eU b=true):dZ a b=if((gU a).length:Int)=(gU b).length then Lib.compareBytes (gU a) (gU b) else Lib.compareInt (gU a).length (gU b).length:=by
 have ha1:a≠[]/\a.all aP=true:=by simpa [eU] using ha
 have hb1:b≠[]/\b.all aP=true:=by simpa [eU] using hb
 rw[MZ ha hb,Hm a ha1.1,Hm b hb1.1]
 cases h1:dY a with
 | nil =>
  cases h2:dY b with
  | nil=>decide
  | cons d r =>
   have hd:=Nl b d r h2;have hd2:=sJ (List.all_eq_true.1 (Np b hb1.2) d (by rw[h2];simp));have hlt:(48:UInt8)<d:=by
    rw[UInt8.lt_iff_toNat_lt];have:d.toNat≠48:=fun hh=>hd (UInt8.toNat_inj.1 hh)
    have e:(48:UInt8).toNat=48:=rfl;omega
   have n0:(if([]:List UInt8)=[] then[48] else([]:List UInt8))=[48]:=if_pos rfl;have n1:(if d :: r=[] then[48] else d :: r)=d :: r:=if_neg (by simp);rw[n0,n1];have l0:(([]:List UInt8).length:Int)=0:=rfl;have l1:(([48]:List UInt8).length:Int)=1:=rfl;have hl:((d :: r).length:Int)=r.length+1:=by simp
   rw[l0,l1,hl,if_neg (by omega),yV (show(0:Int)<r.length+1 by omega)]
   by_cases hr:(1:Int)=r.length+1
   ·rw[if_pos hr];simp[Lib.compareBytes,hlt]
   ·rw[if_neg hr,yV];omega
 | cons d r =>
  cases h2:dY b with
  | nil =>
   have hd:=Nl a d r h1;have hd2:=sJ (List.all_eq_true.1 (Np a ha1.2) d (by rw[h1];simp));have hlt:(48:UInt8)<d:=by
    rw[UInt8.lt_iff_toNat_lt];have:d.toNat≠48:=fun hh=>hd (UInt8.toNat_inj.1 hh)
    have e:(48:UInt8).toNat=48:=rfl;omega
   have hge:¬d<(48:UInt8):=by
    rw[UInt8.lt_iff_toNat_lt];have e:(48:UInt8).toNat=48:=rfl;omega
   have n0:(if([]:List UInt8)=[] then[48] else([]:List UInt8))=[48]:=if_pos rfl;have n1:(if d :: r=[] then[48] else d :: r)=d :: r:=if_neg (by simp);rw[n0,n1];have l0:(([]:List UInt8).length:Int)=0:=rfl;have l1:(([48]:List UInt8).length:Int)=1:=rfl;have hl:((d :: r).length:Int)=r.length+1:=by simp
   rw[l0,l1,hl,if_neg (by omega),AZ (show(0:Int)<r.length+1 by omega)]
   by_cases hr:(r.length:Int)+1=1
   ·rw[if_pos hr];simp[Lib.compareBytes,hlt,hge]
   ·rw[if_neg hr,AZ];omega
  | cons e s=>simp
theorem Nr(L M:List (List UInt8))(i:Nat)(h1:¬(i<L.length/\i<M.length))(h2:i<=L.length)(h3:i<=M.length)(h:dw dZ L M=dw dZ (L.drop i) (M.drop i)) :
  dw dZ L M=Lib.compareInt L.length M.length:=by
 rw[h]
 by_cases hL:i=L.length
 ·by_cases hM:i=M.length
  ·rw[List.drop_of_length_le (by omega),List.drop_of_length_le (by omega)];rw[show L.length=M.length by omega,cmp_eq];rfl
  ·rw[List.drop_of_length_le (show L.length<=i by omega),List.drop_eq_getElem_cons (show i<M.length by omega)];rw[yV (by omega)];rfl
 ·have hM:i=M.length:=by omega
  rw[List.drop_of_length_le (show M.length<=i by omega),List.drop_eq_getElem_cons (show i<L.length by omega)];rw[AZ (by omega)];rfl
def runN(p:UInt8->Bool)(l:List UInt8)(i:Nat):Nat:=((l.drop i).takeWhile p).length
def aO(l:List UInt8)(i k:Nat):List UInt8:=(l.drop i).take k
theorem Ns(p:UInt8->Bool):∀(l:List UInt8),(l.takeWhile p).length<=l.length
 | []=>by simp
 | c :: l=>by
  have ih:=Ns p l;rw[List.takeWhile_cons];split<;>simp;omega
theorem Nu(p:UInt8->Bool):∀(l:List UInt8) (k:Nat),k<(l.takeWhile p).length->∃h:k<l.length,p l[k]=true
 | [],k,h=>by simp at h
 | c :: l,k,h=>by
  rw[List.takeWhile_cons]at h;split at h
  ·cases k with
   | zero=>exact⟨by simp,by simpa⟩
   | succ k =>
    obtain⟨h1,h2⟩:=Nu p l k (by simpa using h);exact⟨by simp;omega,by simpa using h2⟩
  ·simp at h
theorem Nv(p:UInt8->Bool):∀(l:List UInt8) (h:(l.takeWhile p).length<l.length),p l[(l.takeWhile p).length]=false
 | [],h=>by simp at h
 | c :: l,h=>by
  cases hc:p c with
  | true =>
   have e:(c :: l).takeWhile p=c :: l.takeWhile p:=by rw[List.takeWhile_cons,if_pos hc]
   have h':(l.takeWhile p).length<l.length:=by rw[e]at h;simpa using h
   have:=Nv p l h';simp only[e,List.length_cons,List.getElem_cons_succ];exact this
  | false =>
   have e:(c :: l).takeWhile p=[]:=by rw[List.takeWhile_cons,if_neg (by simp[hc])]
   simp only[e,List.length_nil,List.getElem_cons_zero];exact hc
theorem Ny(p:UInt8->Bool):∀(l:List UInt8),l.take (l.takeWhile p).length=l.takeWhile p
 | []=>by simp
 | c :: l=>by
  have ih:=Ny p l;rw[List.takeWhile_cons];split<;>simp[ih]
theorem lM(p:UInt8->Bool)(l:List UInt8)(i:Nat)(h:i<=l.length):i+runN p l i<=l.length:=by
 have:=Ns p (l.drop i);unfold runN;simp at this ⊢;omega
theorem yY(p:UInt8->Bool)(l:List UInt8)(i k:Nat)(h:k<runN p l i):∃h:i+k<l.length,p l[i+k]=true:=by
 obtain⟨h1,h2⟩:=Nu p (l.drop i) k h;simp only[List.length_drop]at h1;exact⟨by omega,by simpa using h2⟩
theorem sK(p:UInt8->Bool)(l:List UInt8)(i:Nat)(h:i+runN p l i<l.length):p l[i+runN p l i]=false:=by
 have h':((l.drop i).takeWhile p).length<(l.drop i).length:=by unfold runN at h;simp at h ⊢;omega
 have:=Nv p (l.drop i) h';simpa [runN] using this
theorem VO(p:UInt8->Bool)(l:List UInt8)(i:Nat):aO l i (runN p l i)=(l.drop i).takeWhile p:=Ny p (l.drop i)
theorem Nz(p:UInt8->Bool)(l:List UInt8)(i k:Nat)(h1:k<=runN p l i)(h2:∀h:i+k<l.length,p l[i+k]=false):runN p l i=k:=by
 rcases Nat.lt_or_ge k (runN p l i) with h|h
 ·obtain⟨h3,h4⟩:=yY p l i k h;rw[h2 h3]at h4;exact absurd h4 (by simp)
 ·omega
def pU(n:Int)(c:UInt8):Int:=10*n+((c.toNat:Int)-48)
def bg(l:List UInt8):Int:=l.foldl pU 0
theorem NC(l:List UInt8)(c:UInt8):bg (l++[c])=pU (bg l) c:=by unfold bg;rw[List.foldl_append];rfl
theorem Ho:∀(l:List UInt8) (n:Int),0<=n->l.all aP=true->n<=l.foldl pU n
 | [],n,_,_=>Int.le_refl n
 | c :: l,n,h,hd=>by
  simp only[List.all_cons,Bool.and_eq_true]at hd;have h1:=sJ hd.1;have h2:n<=pU n c:=by unfold pU;omega
  exact Int.le_trans h2 (Ho l _ (by omega) hd.2)
theorem A8(l:List UInt8)(hd:l.all aP=true):0<=bg l:=Ho l 0 (by omega) hd
theorem ND(a b:List UInt8)(hd:(a++b).all aP=true):bg a<=bg (a++b):=by
 rw[List.all_append,Bool.and_eq_true]at hd;unfold bg;rw[List.foldl_append];exact Ho b _ (A8 a hd.1) hd.2
def rdNum(l:List UInt8)(i:Nat):Int × Int × Nat :=
 if runN aP l i=0 then(2,0,i)
 else if 1<runN aP l i/\l[i]?=some 48 then(2,0,i)
 else if bg (aO l i (runN aP l i)) > 999999999 then(3,0,i)
 else(0,bg (aO l i (runN aP l i)),i+runN aP l i)
def iW(strict:Bool)(p:List UInt8):Bool:=strict && (p.all aP && (decide (1<p.length) && decide (p[0]?=some 48)))
def aQ(strict:Bool)(l:List UInt8)(i:Nat):Int × Nat :=
 if runN aT l i=0 then(2,i)
 else if iW strict (aO l i (runN aT l i))=true then(2,i)
 else if h:l[i+runN aT l i]?=some 46 then aQ strict l (i+runN aT l i+1)
 else(0,i+runN aT l i)
termination_by l.length-i
decreasing_by
 have:=(List.getElem?_eq_some_iff.1 h).1;omega
theorem Ba(strict:Bool)(l:List UInt8)(i:Nat):aQ strict l i =
 if runN aT l i=0 then(2,i)
 else if iW strict (aO l i (runN aT l i))=true then(2,i)
 else if l[i+runN aT l i]?=some 46 then aQ strict l (i+runN aT l i+1)
 else(0,i+runN aT l i):=by
 rw[aQ];split
 ·rfl
 ·split
  ·rfl
  ·split<;>rfl
def l7(strict:Bool)(p:List UInt8):Bool:=!p.isEmpty && p.all aT && !iW strict p
def fV(strict:Bool)(l:List UInt8):Bool:=l.isEmpty || (aV l).all (l7 strict)
theorem NE{c:UInt8}(h:aT c=true):c≠46:=by
 intro e;subst e;exact absurd h (by decide)
theorem NG(c:UInt8)(hc:c≠46)(r:List UInt8):∀(q:List UInt8),(∀x∈q,x≠46)->∃t ps,aV (q++c :: r)=(q++c :: t) :: ps
 | [],_=>by
  rw[List.nil_append,sH,if_neg hc]
  cases h:aV r with
  | nil=>exact absurd h (uT r)
  | cons p ps=>exact⟨p,ps,rfl⟩
 | x :: q,h=>by
  obtain⟨t,ps,e⟩:=NG c hc r q (fun y hy=>h y (List.mem_cons_of_mem _ hy));rw[List.cons_append,sH,if_neg (h x (List.mem_cons_self ..)),e];exact⟨t,ps,rfl⟩
theorem VQ(l:List UInt8)(i:Nat)(p:UInt8->Bool):l.drop i=aO l i (runN p l i)++l.drop (i+runN p l i):=by
 unfold aO;rw[<-List.drop_drop,List.take_append_drop]
theorem wV(p:UInt8->Bool)(l:List UInt8)(i:Nat):(aO l i (runN p l i)).all p=true:=by
 rw[VO];exact List.all_takeWhile
theorem nM(l:List UInt8)(i k:Nat)(h:i+k<=l.length):(aO l i k).length=k:=by
 unfold aO;simp;omega
theorem VT(s:Bool)(l:List UInt8):∀(n i:Nat),l.length-i=n->i<=l.length->(aQ s l i=(0,l.length)↔(aV (l.drop i)).all (l7 s)=true):=by
 intro n
 induction n using Nat.strongRecOn with
 | ind n ih =>
  intro i hn hi;have hle:=lM aT l i hi;have hd:=VQ l i aT;have hall:=wV aT l i;have hlen:=nM l i _ hle;have hnd:=fun x (hx:x∈aO l i (runN aT l i))=>NE (List.all_eq_true.1 hall x hx)
  rw[Ba]
  -- what stands behind the run
  rcases Nat.lt_or_ge (i+runN aT l i) l.length with hlt|hge
  ·have hst:=sK aT l i hlt;rw[List.drop_eq_getElem_cons hlt]at hd
   by_cases h46:l[i+runN aT l i]=46
   ·rw[h46]at hd;have hsp:aV (l.drop i)=aO l i (runN aT l i) :: aV (l.drop (i+runN aT l i+1)):=by
     rw[hd];exact AY _ _ hnd
    have hg:l[i+runN aT l i]?=some 46:=by rw[List.getElem?_eq_getElem hlt,h46]
    rw[hsp,List.all_cons,Bool.and_eq_true]
    by_cases h0:runN aT l i=0
    ·rw[if_pos h0];have:aO l i (runN aT l i)=[]:=List.length_eq_zero_iff.1 (by omega);rw[this];constructor
     ·intro h;simp at h
     ·rintro⟨h,_⟩;simp[l7]at h
    ·rw[if_neg h0]
     by_cases hb:iW s (aO l i (runN aT l i))=true
     ·rw[if_pos hb];constructor
      ·intro h;simp at h
      ·rintro⟨h,_⟩;simp[l7,hb]at h
     ·rw[if_neg hb,if_pos hg];have hok:l7 s (aO l i (runN aT l i))=true:=by
       have h1:(aO l i (runN aT l i)).isEmpty=false:=by
        cases h:aO l i (runN aT l i) with
        | nil=>rw[h]at hlen;simp at hlen;omega
        | cons c r=>rfl
       have h2:iW s (aO l i (runN aT l i))=false:=by simpa using hb
       simp[l7,h1,hall,h2]
      rw[ih (l.length-(i+runN aT l i+1)) (by omega) (i+runN aT l i+1) rfl (by omega)];simp[hok]
   ·obtain⟨t,ps,e⟩:=NG _ h46 (l.drop (i+runN aT l i+1)) _ hnd;rw[<-hd]at e;have hbad:l7 s (aO l i (runN aT l i)++l[i+runN aT l i] :: t)=false:=by
     unfold l7;rw[List.all_append,List.all_cons,hst];simp
    have hg:¬l[i+runN aT l i]?=some 46:=by
     rw[List.getElem?_eq_getElem hlt];simpa using h46
    rw[e,List.all_cons,hbad,if_neg hg];have hne:¬i+runN aT l i=l.length:=by omega
    by_cases h0:runN aT l i=0
    ·rw[if_pos h0];simp
    ·rw[if_neg h0];split<;>simp[hne]
  ·have hn0:=List.drop_of_length_le hge;rw[hn0,List.append_nil]at hd;have hsp:aV (l.drop i)=[aO l i (runN aT l i)]:=by
    rw[hd];exact AX _ hnd
   have hg:¬l[i+runN aT l i]?=some 46:=by
    rw[List.getElem?_eq_none hge];simp
   rw[hsp,List.all_cons,List.all_nil,Bool.and_true,if_neg hg];have heq:i+runN aT l i=l.length:=by omega
   by_cases h0:runN aT l i=0
   ·rw[if_pos h0];have:aO l i (runN aT l i)=[]:=List.length_eq_zero_iff.1 (by omega);rw[this];simp[l7]
   ·rw[if_neg h0];have h1:(aO l i (runN aT l i)).isEmpty=false:=by
     cases h:aO l i (runN aT l i) with
     | nil=>rw[h]at hlen;simp at hlen;omega
     | cons c r=>rfl
    by_cases hb:iW s (aO l i (runN aT l i))=true
    ·rw[if_pos hb];simp[l7,hb]
    ·rw[if_neg hb];have h2:iW s (aO l i (runN aT l i))=false:=by simpa using hb
     simp[l7,h1,hall,h2,heq]
theorem VU(s:Bool)(l:List UInt8)(h:l≠[]):decide (aQ s l 0=(0,l.length))=fV s l:=by
 have e:=VT s l _ 0 rfl (Nat.zero_le _);rw[List.drop_zero]at e;have h1:l.isEmpty=false:=by simpa using h
 unfold fV;rw[h1,Bool.false_or,Bool.eq_iff_iff];simp only[decide_eq_true_eq];exact e
theorem VV(u:Nat)(h:u<10):(UInt8.ofNat (48+u)).toNat=48+u:=by
 show(48+u) % 256=48+u;omega
theorem VW(l:List UInt8)(hne:l≠[])(hd:l.all aP=true)(hz:¬(1<l.length/\l[0]?=some 48)):Lib.decDigits (bg l).toNat=l:=by
 -- the last digit off
 have key:∀(n:Nat) (l:List UInt8),l.length=n->l≠[]->l.all aP=true->¬(1<l.length/\l[0]?=some 48)->Lib.decDigits (bg l).toNat=l/\(1<l.length->0<bg l.dropLast):=by
  intro n
  induction n with
  | zero=>intro l hl hne;exact absurd (List.length_eq_zero_iff.1 hl) hne
  | succ n ih =>
   intro l hl hne hd hz;obtain⟨q,c,rfl⟩:∃q c,l=q++[c]:=⟨l.dropLast,l.getLast hne,(List.dropLast_concat_getLast hne).symm⟩;have hd':=hd;rw[List.all_append,Bool.and_eq_true]at hd';have hc:=sJ (show aP c=true by simpa using hd'.2);have hcv:UInt8.ofNat (48+(c.toNat - 48))=c:=by
    apply UInt8.toNat_inj.1;rw[VV _ (by omega)];omega
   rw[List.dropLast_concat]
   by_cases hq:q=[]
   ·subst hq;refine⟨?_,by simp⟩;have hv:bg ([]++[c])=(c.toNat:Int)-48:=by show pU 0 c=_;unfold pU;omega
    have hn:((c.toNat:Int)-48).toNat=c.toNat - 48:=by omega
    rw[hv,hn,Lib.decDigits_one (by omega),hcv];rfl
   ·have sN:=List.length_pos_iff.2 hq;have hz1:q[0]?≠some 48:=by
     intro h;refine hz ⟨by simp;omega,?_⟩;rw[List.getElem?_append_left sN];exact h
    have hlen:q.length=n:=by simp at hl;exact hl
    have h1:=ih q hlen hq hd'.1 (fun h=>hz1 h.2);have hpos:0<bg q:=by
     rcases Nat.lt_or_ge 1 q.length with hgt|hle
     ·have h2:=h1.2 hgt;have:bg q.dropLast<=bg q:=by
       conv=>rhs;rw[<-List.dropLast_concat_getLast hq]
       exact ND _ _ (by rw[List.dropLast_concat_getLast hq];exact hd'.1)
      omega
     ·obtain⟨x,rfl⟩:∃x,q=[x]:=List.length_eq_one_iff.1 (by omega);have hx:=sJ (show aP x=true by simpa using hd'.1);have hx0:x.toNat≠48:=fun hh=>hz1 (by
       have:x=48:=UInt8.toNat_inj.1 hh;rw[this];rfl)
      show 0<pU 0 x;unfold pU;omega
    refine⟨?_,fun _=>hpos⟩;rw[NC];have hv:(pU (bg q) c).toNat=10*(bg q).toNat+(c.toNat - 48):=by unfold pU;omega
    rw[hv,Lib.decDigits,dif_neg (by omega)];have e1:(10*(bg q).toNat+(c.toNat - 48)) / 10=(bg q).toNat:=by omega
    have e2:(10*(bg q).toNat+(c.toNat - 48)) % 10=c.toNat - 48:=by omega
    rw[e1,e2,h1.1,hcv]
 exact(key _ l rfl hne hd hz).1
theorem VY(l:List UInt8)(i:Nat)(hi:i<=l.length)(h:(rdNum l i).1=0) :
  ∃k,0<k/\i+k<=l.length/\(rdNum l i).2.2=i+k/\aO l i k=Lib.decDigits (rdNum l i).2.1.toNat/\0<=(rdNum l i).2.1/\(rdNum l i).2.1<=999999999:=by
 have hle:=lM aP l i hi;have hall:=wV aP l i;have hlen:=nM l i _ hle;unfold rdNum at h ⊢
 by_cases h0:runN aP l i=0
 ·rw[if_pos h0]at h;simp at h
 ·rw[if_neg h0]at h ⊢
  by_cases hz:1<runN aP l i/\l[i]?=some 48
  ·rw[if_pos hz]at h;simp at h
  ·rw[if_neg hz]at h ⊢
   by_cases hv:bg (aO l i (runN aP l i)) > 999999999
   ·rw[if_pos hv]at h;simp at h
   ·rw[if_neg hv];refine⟨runN aP l i,by omega,hle,rfl,?_,A8 _ hall,Int.not_lt.1 hv⟩;have hne:aO l i (runN aP l i)≠[]:=fun e=>by rw[e]at hlen;simp at hlen;omega
    have h48:(aO l i (runN aP l i))[0]?=l[i]?:=by
     unfold aO;rw[List.getElem?_take_of_lt (by omega),List.getElem?_drop];rfl
    rw[VW _ hne hall (by rw[hlen,h48];exact hz)]
theorem VZ(l:List UInt8)(i k j:Nat)(hk:i+k<j)(hj:j<=l.length)(h46:l[i+k]?=some 46) :
  aO l i (j-i)=aO l i k++46 :: aO l (i+k+1) (j-(i+k+1)):=by
 unfold aO;obtain⟨hlt,e⟩:=List.getElem?_eq_some_iff.1 h46;have h1:j-i=k+((j-(i+k+1))+1):=by omega
 rw[h1,List.take_add,List.drop_drop,List.drop_eq_getElem_cons hlt,List.take_succ_cons,e]
theorem yZ(s:Bool)(l:List UInt8):∀(n i:Nat),l.length-i=n->i<=l.length->(aQ s l i).1=0 →
  i<(aQ s l i).2/\(aQ s l i).2<=l.length/\(aV (aO l i ((aQ s l i).2-i))).all (l7 s)=true:=by
 intro n
 induction n using Nat.strongRecOn with
 | ind n ih =>
  intro i hn hi h;have hle:=lM aT l i hi;have hall:=wV aT l i;have hlen:=nM l i _ hle;have hnd:=fun x (hx:x∈aO l i (runN aT l i))=>NE (List.all_eq_true.1 hall x hx)
  rw[Ba]at h ⊢
  by_cases h0:runN aT l i=0
  ·rw[if_pos h0]at h;simp at h
  ·rw[if_neg h0]at h ⊢
   by_cases hb:iW s (aO l i (runN aT l i))=true
   ·rw[if_pos hb]at h;simp at h
   ·rw[if_neg hb]at h ⊢;have hok:l7 s (aO l i (runN aT l i))=true:=by
     have h1:(aO l i (runN aT l i)).isEmpty=false:=by
      cases h:aO l i (runN aT l i) with
      | nil=>rw[h]at hlen;simp at hlen;omega
      | cons c r=>rfl
     have h2:iW s (aO l i (runN aT l i))=false:=by simpa using hb
     simp[l7,h1,hall,h2]
    by_cases hg:l[i+runN aT l i]?=some 46
    ·rw[if_pos hg]at h ⊢;have hlt:=(List.getElem?_eq_some_iff.1 hg).1;obtain⟨g1,g2,g3⟩:=ih (l.length-(i+runN aT l i+1)) (by omega) (i+runN aT l i+1) rfl (by omega) h;refine⟨by omega,g2,?_⟩;rw[VZ l i (runN aT l i) _ (by omega) g2 hg,AY _ _ hnd,List.all_cons,hok,g3];rfl
    ·rw[if_neg hg];refine⟨by simp only;omega,hle,?_⟩;simp only;rw[show i+runN aT l i-i=runN aT l i by omega,AX _ hnd];simp[hok]
structure Vv where
 major:Int
 minor:Int
 patch:Int
 pre:List UInt8
 build:List UInt8
def zeroV:Vv:=⟨0,0,0,[],[]⟩
def aY(c:UInt8)(s:Bool)(l:List UInt8)(i:Nat):Int × Nat × List UInt8 :=
 if l[i]?=some c then
  (if(aQ s l (i+1)).1=0 then(0,(aQ s l (i+1)).2,aO l (i+1) ((aQ s l (i+1)).2-(i+1))) else((aQ s l (i+1)).1,(aQ s l (i+1)).2,[]))
 else(0,i,[])
def cO(l:List UInt8):Int × Nat × Int × Int × Int :=
 if(rdNum l 0).1=0 then
  if l[(rdNum l 0).2.2]?=some 46 then
   if(rdNum l ((rdNum l 0).2.2+1)).1=0 then
    if l[(rdNum l ((rdNum l 0).2.2+1)).2.2]?=some 46 then
     if(rdNum l ((rdNum l ((rdNum l 0).2.2+1)).2.2+1)).1=0 then
      (0,(rdNum l ((rdNum l ((rdNum l 0).2.2+1)).2.2+1)).2.2,(rdNum l 0).2.1,(rdNum l ((rdNum l 0).2.2+1)).2.1,(rdNum l ((rdNum l ((rdNum l 0).2.2+1)).2.2+1)).2.1)
     else((rdNum l ((rdNum l ((rdNum l 0).2.2+1)).2.2+1)).1,(rdNum l ((rdNum l ((rdNum l 0).2.2+1)).2.2+1)).2.2,0,0,0)
    else(2,(rdNum l ((rdNum l 0).2.2+1)).2.2,0,0,0)
   else((rdNum l ((rdNum l 0).2.2+1)).1,(rdNum l ((rdNum l 0).2.2+1)).2.2,0,0,0)
  else(2,(rdNum l 0).2.2,0,0,0)
 else((rdNum l 0).1,(rdNum l 0).2.2,0,0,0)
def dP(l:List UInt8):Int × Nat × Vv :=
 if(cO l).1=0 then
  if(aY 45 true l (cO l).2.1).1=0 then
   if(aY 43 false l (aY 45 true l (cO l).2.1).2.1).1=0 then
    if(aY 43 false l (aY 45 true l (cO l).2.1).2.1).2.1<l.length then(2,(aY 43 false l (aY 45 true l (cO l).2.1).2.1).2.1,zeroV)
    else(0,0,⟨(cO l).2.2.1,(cO l).2.2.2.1,(cO l).2.2.2.2,(aY 45 true l (cO l).2.1).2.2,(aY 43 false l (aY 45 true l (cO l).2.1).2.1).2.2⟩)
   else((aY 43 false l (aY 45 true l (cO l).2.1).2.1).1,(aY 43 false l (aY 45 true l (cO l).2.1).2.1).2.1,zeroV)
  else((aY 45 true l (cO l).2.1).1,(aY 45 true l (cO l).2.1).2.1,zeroV)
 else((cO l).1,(cO l).2.1,zeroV)
def gV(l:List UInt8):Int × Nat × Vv:=if 100<l.length then(1,0,zeroV) else dP l
def Eo(c:UInt8)(p:List UInt8):List UInt8:=if p=[] then[] else c :: p
def NH(v:Vv):List UInt8:=Lib.itoa v.major++(46 :: (Lib.itoa v.minor++(46 :: (Lib.itoa v.patch++(Eo 45 v.pre++Eo 43 v.build)))))
def bound(n:Int):Bool:=decide (0<=n) && decide (n<=1000000000)
theorem oQ{n:Int}:bound n=true↔0<=n/\n<=1000000000:=by unfold bound;simp
def kE(v:Vv):Bool:=bound v.major && (bound v.minor && (bound v.patch && (fV true v.pre && fV false v.build)))
theorem V4{n:Int}(h:0<=n):Lib.itoa n=Lib.decDigits n.toNat:=by unfold Lib.itoa;rw[if_neg (by omega)]
theorem V5{s:Bool}{l:List UInt8}(h:fV s l=true)(hne:l≠[]):(aV l).all (l7 s)=true:=by
 have:l.isEmpty=false:=by simpa using hne
 unfold fV at h;rw[this,Bool.false_or]at h;exact h
theorem NI{l:List UInt8}{i k:Nat}:l.drop i=aO l i k++l.drop (i+k):=by
 unfold aO;rw[<-List.drop_drop,List.take_append_drop]
theorem drop_cons{l:List UInt8}{i:Nat}{c:UInt8}(h:l[i]?=some c):l.drop i=c :: l.drop (i+1)/\i<l.length:=by
 obtain⟨hlt,e⟩:=List.getElem?_eq_some_iff.1 h;rw[List.drop_eq_getElem_cons hlt,e];exact⟨rfl,hlt⟩
theorem Hq(l:List UInt8)(i:Nat)(hi:i<=l.length)(h:(rdNum l i).1=0) :
  (rdNum l i).2.2<=l.length/\l.drop i=Lib.itoa (rdNum l i).2.1++l.drop (rdNum l i).2.2/\0<=(rdNum l i).2.1/\(rdNum l i).2.1<=999999999:=by
 obtain⟨k,h1,h2,h3,h4,h5,h6⟩:=VY l i hi h;refine⟨by omega,?_,h5,h6⟩;rw[V4 h5,<-h4,h3];exact NI
theorem NJ(l:List UInt8)(h:(cO l).1=0) :
  (cO l).2.1<=l.length/\l=Lib.itoa (cO l).2.2.1++46 :: (Lib.itoa (cO l).2.2.2.1++46 :: (Lib.itoa (cO l).2.2.2.2++l.drop (cO l).2.1)) ∧
  (0<=(cO l).2.2.1/\(cO l).2.2.1<=999999999)/\(0<=(cO l).2.2.2.1/\(cO l).2.2.2.1<=999999999)/\(0<=(cO l).2.2.2.2/\(cO l).2.2.2.2<=999999999):=by
 unfold cO at h ⊢;split at h
 ·rename_i e1;split at h
  ·rename_i g1;split at h
   ·rename_i e2;split at h
    ·rename_i g2;split at h
     ·rename_i e3;obtain⟨a1,a2,a3⟩:=Hq l 0 (Nat.zero_le _) e1;obtain⟨c1,c2⟩:=drop_cons g1;obtain⟨b1,b2,b3⟩:=Hq l _ (by omega) e2;obtain⟨c3,c4⟩:=drop_cons g2;obtain⟨d1,d2,d3⟩:=Hq l _ (by omega) e3;simp only[e1,g1,e2,g2,e3,if_true];refine⟨d1,?_,a3,b3,d3⟩;rw[List.drop_zero]at a2;rw[<-d2,<-c3,<-b2,<-c1];exact a2
     ·rename_i e;exact absurd h e
    ·simp at h
   ·rename_i e;exact absurd h e
  ·simp at h
 ·rename_i e;exact absurd h e
theorem NK(c:UInt8)(s:Bool)(l:List UInt8)(i:Nat)(hi:i<=l.length)(h:(aY c s l i).1=0) :
  (aY c s l i).2.1<=l.length/\l.drop i=Eo c (aY c s l i).2.2++l.drop (aY c s l i).2.1/\fV s (aY c s l i).2.2=true:=by
 unfold aY at h ⊢
 by_cases hc:l[i]?=some c
 ·rw[if_pos hc]at h ⊢;obtain⟨c1,c2⟩:=drop_cons hc
  by_cases h0:(aQ s l (i+1)).1=0
  ·rw[if_pos h0];obtain⟨g1,g2,g3⟩:=yZ s l _ (i+1) rfl (by omega) h0;have hlen:=nM l (i+1) ((aQ s l (i+1)).2-(i+1)) (by omega);have hne:aO l (i+1) ((aQ s l (i+1)).2-(i+1))≠[]:=fun e=>by rw[e]at hlen;simp at hlen;omega
   refine⟨g2,?_,?_⟩
   ·simp only;unfold Eo;rw[if_neg hne,c1,List.cons_append];congr 1;have:=@NI l (i+1) ((aQ s l (i+1)).2-(i+1));rw[show i+1+((aQ s l (i+1)).2-(i+1))=(aQ s l (i+1)).2 by omega]at this;exact this
   ·simp only;unfold fV;rw[g3,Bool.or_true]
  ·rw[if_neg h0]at h;exact absurd h h0
 ·rw[if_neg hc];exact⟨hi,rfl,rfl⟩
theorem V6(l:List UInt8)(h:(dP l).1=0):NH (dP l).2.2=l/\kE (dP l).2.2=true:=by
 unfold dP at h ⊢;split at h
 ·rename_i e1;split at h
  ·rename_i e2;split at h
   ·rename_i e3;split at h
    ·simp at h
    ·rename_i e4;obtain⟨a1,a2,a3,a4,a5⟩:=NJ l e1;obtain⟨b1,b2,b3⟩:=NK 45 true l _ a1 e2;obtain⟨c1,c2,c3⟩:=NK 43 false l _ b1 e3;simp only[e1,e2,e3,if_true,if_neg e4];have hend:l.drop (aY 43 false l (aY 45 true l (cO l).2.1).2.1).2.1=[]:=List.drop_of_length_le (by omega);rw[hend,List.append_nil]at c2;constructor
     ·unfold NH;simp only;rw[<-c2,<-b2];exact a2.symm
     ·simp only[kE,Bool.and_eq_true,oQ];exact⟨by omega,by omega,by omega,b3,c3⟩
   ·rename_i e;exact absurd h e
  ·rename_i e;exact absurd h e
 ·rename_i e;exact absurd h e
open Go.RowKit
theorem zN{α:Sort _}(a:α):∃z,a=z:=⟨a,rfl⟩
theorem aB{α:Type _}{xs:Array α}{i:Nat}{v:α}(h:xs[i]?=some v):i<xs.size:=(Array.getElem?_eq_some_iff.1 h).1
theorem ah{w:World}{b:Nat}{cs:Array Value}{T:TypeId}{fr:Nat×Nat}(hb:w.heap[b]?=some (.cells cs T fr))(j:Nat):w.cell? ⟨b,j,none⟩=cs[j]?:=by simp[World.cell?,hb]
def Hd(p:Prop):Prop:=p
theorem ae{p:Prop}(h:p):Hd p:=h
theorem Hd.o{p:Prop}(h:Hd p):p:=h
theorem bM{k:IntKind}{a b:Int}(h:a=b):Ending.returned (.int k a)=.returned (.int k b):=by rw[h]
theorem aJ{a b:Bool}(h:a=b):Ending.returned (.bool a)=.returned (.bool b):=by rw[h]
theorem wW(c:UInt8)(w:World):Calls prog 154 #[.int .u8 (c.toNat:Int)] w fun e w'=>e=.returned (.bool (aP c))/\w'=w:=by
 go_enter func154,ntmps154;go_wp2
 all_goals go_ret
 all_goals (refine⟨aJ ?_,rfl⟩;rw[Bool.eq_iff_iff];unfold aP;simp;omega)
theorem ak(w:World)(r:Option Nat):w.grownBy w r:=⟨rfl,rfl,rfl,Nat.le_refl _,fun _ _ _=>rfl⟩
theorem aG{w w':World}{r:Option Nat}(h:w.grownBy w' r)(n:Nat):w.grownBy (w'.drewN n) r:=⟨h.os,h.tape,h.output,h.size,h.block⟩
theorem aW{w w':World}{b:Nat}(h:w.grownBy w' (some b))(o:Nat)(v:Value):w.grownBy (w'.setCell ⟨b,o,none⟩ v) (some b):=by
 refine⟨h.os,h.tape,h.output,by simpa [World.setCell] using h.size,fun k hk hne=>?_⟩;rw[<-h.block k hk hne];exact heap_setCell_other w' _ k v (fun e=>hne (by rw[e]))
theorem ag{w w1 w2:World}{r:Option Nat}(h:w.grownBy w1 r)(h':w1.grownBy w2 r):w.grownBy w2 r :=
 ⟨h'.os.trans h.os,h'.tape.trans h.tape,h'.output.trans h.output,Nat.le_trans h.size h'.size,fun k hk hne=>(h'.block k (Nat.lt_of_lt_of_le hk h.size) hne).trans (h.block k hk hne)⟩
theorem iL(s:ByteArray)(i:Nat)(h:i<s.size):s.data.toList[i]?=some s[i]:=by rw[List.getElem?_eq_getElem (by simpa using h)];rfl
theorem qV(s:ByteArray)(i j:Nat)(hi:i<=j)(hj:j<=s.size)(w:World) :
  (Instr.slice 9 (.string s) (some (.int .i64 (i:Int))) (some (.int .i64 (j:Int))) none).run prog w=.ok (.string ⟨(aO s.data.toList i (j-i)).toArray⟩) w:=by
 have h1:(0:Int)<=(i:Int):=by omega
 have h4:(i:Int)<=(j:Int):=by omega
 have h5:(j:Int)<=(s.size:Int):=by omega
 have e:s.extract i j=⟨(aO s.data.toList i (j-i)).toArray⟩:=by
  apply ByteArray.ext;rw[ByteArray.data_extract];apply Array.ext';unfold aO;simp
 rw[<-e];simp[go_sem,underlying9,h1,h4,h5]
open Go.RowKit
theorem Bc{w w':World}(h:w.grownBy w' none):Below w.heap.size w w':=⟨h.os,h.tape,h.output,h.size,fun k hk=>h.block k hk (by simp)⟩
theorem bZ{w w':World}{r:Option Nat}(h:w.drew.grownBy w' r):w.grownBy w' r:=⟨h.os,h.tape,h.output,h.size,h.block⟩
theorem aj{w w':World}(h:w.grownBy w' none)(o:Obj):w.grownBy (w'.alloc o) none :=
 ⟨h.os,h.tape,h.output,by have:=h.size;simp;omega,fun k hk hn=>by rw[Lib.alloc_old _ _ _ (Nat.lt_of_lt_of_le hk h.size)];exact h.block k hk hn⟩
theorem Hr(w:World)(e:TypeId)(s:ByteArray):w.grownBy (Lib.bytesWorld w e s) none :=
 ⟨rfl,rfl,rfl,by rw[Lib.bytesWorld_size];omega,fun k hk _=>Lib.bytesWorld_at_old w e s k hk⟩
theorem bH{w w':World}(h:w.grownBy w' none)(r:Option Nat):w.grownBy w' r:=⟨h.os,h.tape,h.output,h.size,fun k hk _=>h.block k hk (by simp)⟩
theorem Ep(s:ByteArray)(w:World)(hs:s.size<2 ^ 62) :
  Calls prog 171 #[.string s] w fun e w'=>e=.returned (.bool (eU s.data.toList))/\w.grownBy w' none:=by
 have kc:=fun(w:World)=>Lib.run_convert_string_bytes (P:=prog) w 9 225 5 s underlying9 underlying225 underlying5
 obtain⟨W,hW⟩:=zN (Lib.bytesWorld w 5 s);have HC:Hd (∀j,(hj:j<s.size)->W.cell? ⟨w.heap.size,j,none⟩=some (.int .u8 (s[j].toNat:Int))):=by
  show ∀j,(hj:j<s.size)->W.cell? ⟨w.heap.size,j,none⟩=some (.int .u8 (s[j].toNat:Int));intro j hj;rw[<-hW,Lib.bytesWorld_cell w _ s j hj];have:s.data.toList.getD j 0=s[j]:=by
   rw[List.getD_eq_getElem?_getD,iL s j hj];rfl
  rw[this]
 have HG:Hd (w.grownBy W none):=by show w.grownBy W none;rw[<-hW];exact Hr w _ s
 have kw:=kc w;rw[hW]at kw;clear kc hW;go_enter func171,ntmps171;go_wp2
 go_loop [8] (fun i=>∃k:Nat,k<=s.size/\i=.int .i64 k/\∀j,(hj:j<s.size)->j<k->aP s[j]=true) (fun i=>s.size-(intOf i).toNat)
 case atStart=>exact⟨0,Nat.zero_le _,rfl,fun j hj h=>absurd h (by omega)⟩
 case round =>
  obtain⟨k,hk,rfl,hp⟩:=hrel;have HP:=ae hp;clear hp
  by_cases hlt:k<s.size
  ·have ck:=HC.o k hlt
   cases hd:aP s[k] with
   | true =>
    go_wp2_with (go_at_call 154;refine(wW _ _).mono ?_;rintro e w' ⟨rfl,rfl⟩)
    go_round
    case rel =>
     refine⟨k+1,by omega,by go_num,fun j hj hjk=>?_⟩
     by_cases hjk':j<k
     ·exact HP.o j hj hjk'
     ·have e:j=k:=by omega
      subst e;exact hd
    case measure=>simp[intOf];omega
   | false =>
    have HN:Hd (eU s.data.toList=false):=by
     show eU s.data.toList=false;unfold eU;have:s.data.toList.all aP=false:=by
      rw[List.all_eq_false];exact⟨s[k],List.mem_of_getElem? (iL s k hlt),by simp[hd]⟩
     rw[this,Bool.and_false]
    go_wp2_with (go_at_call 154;refine(wW _ _).mono ?_;rintro e w' ⟨rfl,rfl⟩);go_ret;exact⟨aJ HN.o.symm,HG.o⟩
  ·have hks:k=s.size:=by omega
   have HA:Hd (s.data.toList.all aP=true):=by
    show s.data.toList.all aP=true;rw[List.all_eq_true];intro c hc;obtain⟨j,hj,rfl⟩:=List.getElem_of_mem hc;exact HP.o j (by simpa using hj) (by simp at hj;have:s.size=s.data.size:=rfl;omega)
   clear hks hk;go_wp2;go_ret;refine⟨aJ ?_,HG.o⟩;unfold eU;rw[Lib.toList_data,HA.o,Bool.and_true]
theorem V7(s:ByteArray)(k:Nat)(hk:k<=s.size)(w:World) :
  (Instr.slice 9 (.string s) none (some (.int .i64 (k:Int))) none).run prog w=.ok (.string ⟨(s.data.toList.take k).toArray⟩) w:=by
 have h5:(k:Int)<=(s.size:Int):=by omega
 have e:s.extract 0 k=⟨(s.data.toList.take k).toArray⟩:=by
  apply ByteArray.ext;rw[ByteArray.data_extract];apply Array.ext';simp
 rw[<-e];simp[go_sem,underlying9,h5]
theorem Ht(s:ByteArray)(k:Nat)(hk:k<=s.size)(w:World) :
  (Instr.slice 9 (.string s) (some (.int .i64 (k:Int))) none none).run prog w=.ok (.string ⟨(s.data.toList.drop k).toArray⟩) w:=by
 have h1:(0:Int)<=(k:Int):=by omega
 have h5:(k:Int)<=(s.size:Int):=by omega
 have e:s.extract k s.size=⟨(s.data.toList.drop k).toArray⟩:=by
  apply ByteArray.ext;rw[ByteArray.data_extract];apply Array.ext';simp;exact List.take_of_length_le (by simp)
 rw[<-e];simp[go_sem,underlying9,h1,h5]
open Go.RowKit
theorem lN(c:UInt8)(w:World):Calls prog 41 #[.int .u8 (c.toNat:Int)] w fun e w'=>e=.returned (.bool (aP c))/\w'=w:=by
 go_enter func41,ntmps41;go_wp2
 all_goals go_ret
 all_goals (refine⟨aJ ?_,rfl⟩;rw[Bool.eq_iff_iff];unfold aP;simp;omega)
theorem NL(c:UInt8)(w:World):Calls prog 117 #[.int .u8 (c.toNat:Int)] w fun e w'=>e=.returned (.bool (aT c))/\w'=w:=by
 go_enter func117,ntmps117;go_wp2_with (go_at_call 41;refine(lN _ _).mono ?_;rintro e w' ⟨rfl,rfl⟩)
 all_goals go_ret
 all_goals (refine⟨aJ ?_,rfl⟩;rw[Bool.eq_iff_iff];unfold aT;simp_all;try omega)
theorem Hu(s:ByteArray)(w:World)(hs:s.size<2 ^ 62) :
  Calls prog 118 #[.string s] w fun e w'=>e=.returned (.bool (s.data.toList.all aP))/\w'=w:=by
 obtain⟨R,hR⟩:∃R,R=s.data.toList.all aP:=⟨_,rfl⟩;have HR:=ae hR;rw[<-hR];clear hR;go_enter func118,ntmps118;go_wp2
 go_loop [3] (fun i=>∃k:Nat,k<=s.size/\i=.int .i64 k/\∀j,(hj:j<s.size)->j<k->aP s[j]=true) (fun i=>s.size-(intOf i).toNat)
 case atStart=>exact⟨0,Nat.zero_le _,rfl,fun j hj h=>absurd h (by omega)⟩
 case round =>
  obtain⟨k,hk,rfl,hp⟩:=hrel;have HP:=ae hp;clear hp
  by_cases hlt:k<s.size
  ·cases hd:aP s[k] with
   | true =>
    go_wp2_with (go_at_call 41;refine(lN _ _).mono ?_;rintro e w' ⟨rfl,rfl⟩)
    go_round
    case rel =>
     refine⟨k+1,by omega,by go_num,fun j hj hjk=>?_⟩
     by_cases hjk':j<k
     ·exact HP.o j hj hjk'
     ·have e:j=k:=by omega
      subst e;exact hd
    case measure=>simp[intOf];omega
   | false =>
    have HN:Hd (R=false):=by
     show R=false;rw[HR.o,List.all_eq_false];exact⟨s[k],List.mem_of_getElem? (iL s k hlt),by simp[hd]⟩
    go_wp2_with (go_at_call 41;refine(lN _ _).mono ?_;rintro e w' ⟨rfl,rfl⟩);go_ret;exact⟨aJ HN.o.symm,rfl⟩
  ·have HN:Hd (R=true):=by
    show R=true;rw[HR.o,List.all_eq_true];intro c hc;obtain⟨j,hj,rfl⟩:=List.getElem_of_mem hc;exact HP.o j (by simpa using hj) (by simp at hj;have:s.size=s.data.size:=rfl;omega)
   clear hk;go_wp2;go_ret;exact⟨aJ HN.o.symm,rfl⟩
open Go.RowKit
def St(A:Nat)(a1 a2 a3:Int)(a4 a5:ByteArray)(w:World):Prop:=w.cell? ⟨A,0,none⟩=some (.int .i64 a1)/\w.cell? ⟨A,1,none⟩=some (.int .i64 a2)/\w.cell? ⟨A,2,none⟩=some (.int .i64 a3)/\w.cell? ⟨A,3,none⟩=some (.string a4)/\w.cell? ⟨A,4,none⟩=some (.string a5)
theorem St.grow{A:Nat}{a1 a2 a3:Int}{a4 a5:ByteArray}{w w':World}(h:St A a1 a2 a3 a4 a5 w)(hg:w.grownBy w' none):St A a1 a2 a3 a4 a5 w' :=
 ⟨hg.cell h.1 (by simp),hg.cell h.2.1 (by simp),hg.cell h.2.2.1 (by simp),hg.cell h.2.2.2.1 (by simp),hg.cell h.2.2.2.2 (by simp)⟩
theorem l9{A t:Nat}{a1 a2 a3:Int}{a4 a5:ByteArray}{w:World}(h:w.heap[A]?=some (.cells #[.int .i64 a1,.int .i64 a2,.int .i64 a3,.string a4,.string a5] t (0,0))):St A a1 a2 a3 a4 a5 w :=
 ⟨by rw[Lib.cell_of_heap h];rfl,by rw[Lib.cell_of_heap h];rfl,by rw[Lib.cell_of_heap h];rfl,by rw[Lib.cell_of_heap h];rfl,by rw[Lib.cell_of_heap h];rfl⟩
open Go.RowKit
theorem info9:(prog.info? 9).map (fun i=>(i.zero,i.size,i.bytes))=some (some (.string ⟨#[]⟩),1,16):=by kernel_rfl
def mW(D:List (List UInt8)):List Value:=D.map fun p=>.string ⟨p.toArray⟩
theorem V8(l:List UInt8)(D:List (List UInt8))(f:Nat)(h:aV l=D++aV (l.drop f))(hn:∀j,f<=j->j<l.length->l[j]?≠some 46):aV l=D++[aO l f (l.length-f)]:=by
 rw[h,AX (l.drop f)]
 ·congr 2;unfold aO;exact(List.take_of_length_le (by simp)).symm
 ·intro c hc e;obtain⟨j,hj,rfl⟩:=List.getElem_of_mem hc;simp only[List.length_drop]at hj;refine hn (f+j) (by omega) (by omega) ?_;rw[<-List.getElem?_drop,List.getElem?_eq_getElem (by simp;omega),e]
theorem V9(l:List UInt8)(D:List (List UInt8))(f i:Nat)(hfi:f<=i)(hi:l[i]?=some 46)(h:aV l=D++aV (l.drop f))(hn:∀j,f<=j->j<i->l[j]?≠some 46):aV l=(D++[aO l f (i-f)])++aV (l.drop (i+1)):=by
 obtain⟨hlt,e⟩:=List.getElem?_eq_some_iff.1 hi;have hd:l.drop f=aO l f (i-f)++46 :: l.drop (i+1):=by
  have h1:l.drop f=aO l f (i-f)++l.drop i:=by
   unfold aO;have:=List.take_append_drop (i-f) (l.drop f);rw[List.drop_drop,show f+(i-f)=i by omega]at this;exact this.symm
  rw[h1,List.drop_eq_getElem_cons hlt,e]
 rw[h,hd,AY]
 ·simp
 ·intro c hc e;obtain⟨j,hj,rfl⟩:=List.getElem_of_mem hc;have hjl:j<i-f:=by unfold aO at hj;simp at hj;omega
  refine hn (f+j) (by omega) (by omega) ?_;have:(aO l f (i-f))[j]?=some 46:=by rw[List.getElem?_eq_getElem hj,e]
  unfold aO at this;rw[List.getElem?_take_of_lt hjl,List.getElem?_drop]at this;exact this
def We(l:List UInt8)(w:World)(e:Ending)(w':World):Prop:=∃v,e=.returned v/\w'.ownsRow w.heap.size 9 1 v (aV l).length (mW (aV l))/\Below w.heap.size w w'
theorem Wh(s:ByteArray)(w:World)(hs:s.size<=1048576) :
  Calls prog 96 #[.string s] w (We s.data.toList w):=by
 obtain⟨i0,hi,hz0,hz1,hzb⟩:=info_parts info9;obtain⟨l,hl⟩:∃l,l=s.data.toList:=⟨_,rfl⟩;have hll:l.length=s.size:=by rw[hl];simp
 rw[<-hl];go_enter func96,ntmps96;go_wp2;go_loopw [3,4,5] (fun vo vf vi wr=>∃(D:List (List UInt8)) (f i:Nat),vf=.int .i64 f/\vi=.int .i64 i/\wr.ownsRow w.heap.size 9 1 vo D.length (mW D)/\Below w.heap.size w wr/\D.length<=i/\f<=s.size+1/\((i<=s.size/\f<=i/\aV l=D++aV (l.drop f)/\∀j,f<=j->j<i->l[j]?≠some 46)\/(i=s.size+1/\D=aV l))) (fun _ _ vi _=>s.size+1-(intOf vi).toNat)
 case atStart=>exact⟨[],0,0,rfl,rfl,World.ownsRow_nil _ _ _ _,Below.refl _ _,Nat.le_refl _,by omega,Or.inl ⟨by omega,Nat.le_refl _,by simp,fun j _ h=>by omega⟩⟩
 case round =>
  obtain⟨D,f,i,rfl,rfl,hrow,hbl,hD,hf,hcase⟩:=hrel;have hzz:=hbl.size
  rcases hcase with⟨hi1,hfi,hsp,hno⟩|⟨hi2,hDe⟩
  ·have kF:Hd (aV l=D++aV (l.drop f)/\∀j,f<=j->j<i->l[j]?≠some 46):=⟨hsp,hno⟩;clear hsp hno
   by_cases hlt:i<s.size
   ·have hne:((i:Int) == (s.size:Int))=false:=by simp;omega
    cases hz:((s[i].toNat:Int) == 46) with
    | true =>
     have hc:l[i]?=some 46:=by
      rw[hl,iL s i hlt];have:s[i]=46:=UInt8.toNat_inj.1 (by have:=eq_of_beq hz;have e46:(46:UInt8).toNat=46:=rfl;omega);rw[this]
     obtain⟨X,hX⟩:∃X:ByteArray,X=⟨(aO l f (i-f)).toArray⟩:=⟨_,rfl⟩;have HN:=ae (V9 l D f i hfi hc kF.o.1 kF.o.2);have HX:Hd (mW (D++[aO l f (i-f)])=mW D++[.string X]):=by
      show mW _=_;rw[hX];simp[mW]
     have sl:∀wx,(Instr.slice 9 (.string s) (some (.int .i64 (f:Int))) (some (.int .i64 (i:Int))) none).run prog wx=.ok (.string X) wx:=fun wx=>by rw[hX,hl];exact qV s f i hfi (by omega) wx
     have HB:Hd (D.length<=i/\i<s.size):=⟨hD,hlt⟩;clear hX hc kF hfi hl;go_wp2_with (first|(at_builtin;refine wpList_append_own _ rfl _ _ 53 rfl w.heap.size 9 i0 (.string ⟨#[]⟩) 1 16 underlying53 hi hz0 hz1 hzb rfl (by decide) _ _ _ rfl (hrow.alloc _) ⟨wr.heap.size,0,none⟩ 1 1 [.string X] rfl rfl (cell_one_new _ _ _) (by simp[Value.oneCell']) (by unfold maxLen;omega) (by omega) (by simp;omega) ?_;intro v' w1 hown' hgrow _));have hb1:=(hbl.alloc hzz _).grown hgrow (by simp;omega) (fun q hq=>(hrow.lt q hq).1);have hB:=HB.o;refine⟨⟨D++[aO l f (i-f)],i+1,i+1,rfl,rfl,by rw[HX.o];simpa using hown',hb1,by simp;omega,by omega,Or.inl ⟨by omega,Nat.le_refl _,HN.o,fun j h1 h2=>by omega⟩⟩,?_⟩;simp[intOf];omega
    | false =>
     have HN:Hd (l[i]?≠some 46):=by
      show l[i]?≠some 46;rw[hl,iL s i hlt];intro e;have e':=Option.some.inj e;rw[e']at hz;exact absurd hz (by decide)
     have HF:Hd (f<=i/\D.length<=i/\f<=s.size+1):=⟨hfi,hD,hf⟩;have HO:=ae hrow;have HB:=ae hbl;clear hfi hD hf hrow hbl hl;go_wp2;go_roundw
     case rel =>
      have hF:=HF.o;refine⟨D,f,i+1,rfl,by go_num,HO.o,HB.o,by omega,hF.2.2,Or.inl ⟨by omega,by omega,kF.o.1,fun j h1 h2=>?_⟩⟩
      by_cases hj:j<i
      ·exact kF.o.2 j h1 hj
      ·have:j=i:=by omega
       rw[this];exact HN.o
     case measure=>simp[intOf];omega
   ·have hie:i=s.size:=by omega
    subst hie;have hne:((s.size:Int) == (s.size:Int))=true:=by simp
    obtain⟨X,hX⟩:∃X:ByteArray,X=⟨(aO l f (s.size-f)).toArray⟩:=⟨_,rfl⟩;have HN:Hd (aV l=D++[aO l f (s.size-f)]):=by
     have:=V8 l D f kF.o.1 (fun j h1 h2=>kF.o.2 j h1 (by omega));rw[hll]at this;exact this
    have HX:Hd (mW (D++[aO l f (s.size-f)])=mW D++[.string X]):=by
     show mW _=_;rw[hX];simp[mW]
    have sl:∀wx,(Instr.slice 9 (.string s) (some (.int .i64 (f:Int))) (some (.int .i64 (s.size:Int))) none).run prog wx=.ok (.string X) wx:=fun wx=>by rw[hX,hl];exact qV s f s.size hfi (by omega) wx
    clear hX kF hfi hl;go_wp2_with (first|(at_builtin;refine wpList_append_own _ rfl _ _ 53 rfl w.heap.size 9 i0 (.string ⟨#[]⟩) 1 16 underlying53 hi hz0 hz1 hzb rfl (by decide) _ _ _ rfl (hrow.alloc _) ⟨wr.heap.size,0,none⟩ 1 1 [.string X] rfl rfl (cell_one_new _ _ _) (by simp[Value.oneCell']) (by unfold maxLen;omega) (by omega) (by simp;omega) ?_;intro v' w1 hown' hgrow _));have hb1:=(hbl.alloc hzz _).grown hgrow (by simp;omega) (fun q hq=>(hrow.lt q hq).1);refine⟨⟨D++[aO l f (s.size-f)],s.size+1,s.size+1,rfl,rfl,by rw[HX.o];simpa using hown',hb1,by simp;omega,by omega,Or.inr ⟨rfl,HN.o.symm⟩⟩,?_⟩;simp[intOf]
  ·have hgt:¬i<=s.size:=by omega
   clear hi2 hll hs;have HO:=ae hrow;have HB:=ae hbl;have Wi:=ae hDe;clear hrow hbl hDe hD hf hzz hl;go_wp2;refine bodyPost_ret (results_tmp (t:=2) rfl _ _ _) rfl ⟨u3,rfl,?_,HB.o⟩;rw[<-Wi.o];exact HO.o
open Go.RowKit
theorem below_drewN{B:Nat}{a w:World}(h:Below B a w)(n:Nat):Below B a (w.drewN n):=⟨h.os,h.tape,h.output,h.size,h.block⟩
theorem Wj{w:World}{base:Nat}{v:Value}{D:List (List UInt8)}(h:w.ownsRow base 9 1 v D.length (mW D))(hne:D≠[]) :
  ∃g cap,v=.slice (some ⟨g,0,none⟩) D.length cap/\base<=g/\g<w.heap.size/\∀j,(hj:j<D.length)->w.cell? ⟨g,j,none⟩=some (.string ⟨D[j].toArray⟩):=by
 have hpos:=List.length_pos_iff.2 hne
 rcases h.2 with⟨_,hz⟩|⟨g,cap,cur,hv,hbg,hg,hnc,hcm,hcs,htake⟩
 ·simp at hz;exact absurd hz hne
 ·refine⟨g,cap,hv,hbg,(Array.getElem?_eq_some_iff.1 hg).1,fun j hj=>?_⟩;have ht:cur.toList.take D.length=mW D:=by simpa using htake
  rw[Lib.cell_of_heap hg];have h1:(mW D)[j]?=some (.string ⟨D[j].toArray⟩):=by unfold mW;rw[List.getElem?_map,List.getElem?_eq_getElem hj];rfl
  rw[<-ht,List.getElem?_take_of_lt hj]at h1;simpa using h1
theorem NM(s:ByteArray)(w:World)(hs:s.size<=1048576) :
  Calls prog 96 #[.string s] w fun e w'=>∃g cap,e=.returned (.slice (some ⟨g,0,none⟩) (aV s.data.toList).length cap)/\w.heap.size<=g/\g<w'.heap.size/\(∀j,(hj:j<(aV s.data.toList).length)->w'.cell? ⟨g,j,none⟩=some (.string ⟨(aV s.data.toList)[j].toArray⟩))/\Below w.heap.size w w':=by
 refine(Wh s w hs).mono ?_;rintro e w' ⟨v,rfl,hrow,hb⟩;obtain⟨g,cap,rfl,h1,h2,h3⟩:=Wj hrow (uT _);exact⟨g,cap,rfl,h1,h2,h3,hb⟩
theorem Bd:∀(l:List UInt8) (p:List UInt8),p∈aV l->p.length<=l.length
 | [],p,h=>by simp[aV]at h;rw[h];exact Nat.le_refl _
 | c :: l,p,h=>by
  rw[sH]at h;split at h
  ·rcases List.mem_cons.1 h with rfl|h
   ·simp
   ·have:=Bd l p h;simp;omega
  ·cases hs:aV l with
   | nil=>exact absurd hs (uT l)
   | cons q qs =>
    rw[hs]at h
    rcases List.mem_cons.1 h with rfl|h
    ·have:=Bd l q (by rw[hs];simp);simp;omega
    ·have:=Bd l p (by rw[hs];simp[h]);simp;omega
theorem NP:∀(l:List UInt8),(aV l).length<=l.length+1
 | []=>by simp[aV]
 | c :: l=>by
  have ih:=NP l;rw[sH];split
  ·simp;exact ih
  ·cases hs:aV l with
   | nil=>exact absurd hs (uT l)
   | cons q qs=>rw[hs]at ih;simp at ih ⊢;omega
theorem Be(a:V):aC a a=0:=wU.self a
theorem gJ(a b:V):aC b a=- aC a b:=wU.anti a b
theorem qW{a b d:V}(h1:aC a b<=0)(h2:aC b d<=0):aC a d<=0:=(wU.trans a b d h1 h2).1
theorem Bf{a b d:V}(h1:aC a b<0)(h2:aC b d<=0):aC a d<0:=by
 have h:=wU.trans a b d (by omega) h2;have:aC a d≠0:=fun e=>by have:=h.2.2 e;omega
 omega
theorem Es{a b d:V}(h1:aC a b<=0)(h2:aC b d<0):aC a d<0:=by
 have h:=wU.trans a b d h1 (by omega);have:aC a d≠0:=fun e=>by have:=h.2.2 e;omega
 omega
theorem Bg{a b d:V}(h1:aC a b<0)(h2:aC b d<0):aC a d<0:=Bf h1 (by omega)
def sO(h:V->Bool):Bool->List V->List V
 | _,[]=>[]
 | on,p :: ps=>if h p=on then sO h on ps else p :: sO h (h p) ps
def sQ(l:List V):Prop:=l.Pairwise fun a b=>aC a b<0
structure Ed where
 at_:V
 l:Nat
 d:Int
def upd(b:Nat->Int)(l:Nat)(d:Int):Nat->Int:=fun j=>if j=l then b j+d else b j
def tot:List Ed->Nat->Int
 | [],_=>0
 | e :: r,j=>(if j=e.l then e.d else 0)+tot r j
def fJ:List Ed->Nat->V->Int
 | [],_,_=>0
 | e :: r,j,x=>(if j=e.l/\aC e.at_ x<=0 then e.d else 0)+fJ r j x
def kG(e:Ed):List Ed->Bool
 | []=>false
 | e' :: _=>decide (aC e.at_ e'.at_=0)
def bQ(wt:(Nat->Int)->Bool):(Nat->Int)->Bool->List Ed->List V
 | _,_,[]=>[]
 | b,on,e :: r =>
  if kG e r=true then bQ wt (upd b e.l e.d) on r
  else if wt (upd b e.l e.d)=on then bQ wt (upd b e.l e.d) on r
  else e.at_ :: bQ wt (upd b e.l e.d) (wt (upd b e.l e.d)) r
def jy:List Ed->List V
 | []=>[]
 | e :: r=>if kG e r=true then jy r else e.at_ :: jy r
def nN(E:List Ed):Prop:=E.Pairwise fun a b=>aC a.at_ b.at_<=0
theorem Wl(A B:List Ed)(j:Nat):tot (A++B) j=tot A j+tot B j:=by
 induction A with
 | nil=>simp[tot]
 | cons e A ih=>simp only[List.cons_append,tot,ih];omega
theorem Hw(A B:List Ed)(j:Nat)(x:V):fJ (A++B) j x=fJ A j x+fJ B j x:=by
 induction A with
 | nil=>simp[fJ]
 | cons e A ih=>simp only[List.cons_append,fJ,ih];omega
theorem Wp(A:List Ed)(j:Nat)(x:V)(h:∀e∈A,aC e.at_ x<=0):fJ A j x=tot A j:=by
 induction A with
 | nil=>rfl
 | cons e A ih =>
  have he:=h e (by simp);simp only[fJ,tot,ih (fun e' h'=>h e' (by simp[h'])),he,and_true]
theorem NQ(A:List Ed)(j:Nat)(x:V)(h:∀e∈A,¬aC e.at_ x<=0):fJ A j x=0:=by
 induction A with
 | nil=>rfl
 | cons e A ih =>
  have he:=h e (by simp);simp only[fJ,ih (fun e' h'=>h e' (by simp[h'])),he,and_false,if_false];omega
theorem Wq(A:List Ed)(j:Nat)(x y:V)(h:∀e∈A,aC e.at_ x<=0↔aC e.at_ y<=0):fJ A j x=fJ A j y:=by
 induction A with
 | nil=>rfl
 | cons e A ih =>
  have he:=h e (by simp);simp only[fJ,ih (fun e' h'=>h e' (by simp[h'])),he]
theorem NR{e:Ed}{r:List Ed}(hs:nN (e :: r))(hn:¬kG e r=true):∀e'∈r,aC e.at_ e'.at_<0:=by
 cases r with
 | nil=>intro e' h;simp at h
 | cons f r =>
  have h1:=(List.pairwise_cons.1 hs).1;have h2:=(List.pairwise_cons.1 (List.pairwise_cons.1 hs).2).1;have hf:aC e.at_ f.at_<0:=by
   have a1:=h1 f (by simp);have a2:aC e.at_ f.at_≠0:=fun e0=>hn (by simp[kG,e0])
   omega
  intro e' he'
  rcases List.mem_cons.1 he' with rfl|he'
  ·exact hf
  ·exact Bf hf (h2 e' he')
theorem Eu(wt:(Nat->Int)->Bool)(E:List Ed)(h:V->Bool)(hh:∀x,h x=wt (fun j=>fJ E j x))(hs:nN E) :
  ∀(r pre:List Ed) (on:Bool),E=pre++r->bQ wt (fun j=>tot pre j) on r=sO h on (jy r)
 | [],pre,on,hE=>rfl
 | e :: r,pre,on,hE=>by
  have hE':E=(pre++[e])++r:=by rw[hE];simp
  have hb:upd (fun j=>tot pre j) e.l e.d=fun j=>tot (pre++[e]) j:=by
   funext j;rw[Wl];unfold upd
   by_cases hj:j=e.l
   ·simp[tot,hj]
   ·simp[tot,hj]
  have ih:=fun on=>Eu wt E h hh hs r (pre++[e]) on hE'
  unfold bQ jy;rw[hb]
  by_cases hn:kG e r=true
  ·rw[if_pos hn,if_pos hn];exact ih on
  ·rw[if_neg hn,if_neg hn];have hw:wt (fun j=>tot (pre++[e]) j)=h e.at_:=by
    rw[hh];congr 1;funext j;rw[hE',Hw];have Ew:nN (e :: r):=by rw[hE]at hs;exact(List.pairwise_append.1 hs).2.1
    have hpre:∀e'∈pre++[e],aC e'.at_ e.at_<=0:=by
     intro e' he'
     rcases List.mem_append.1 he' with h1|h1
     ·rw[hE]at hs;exact(List.pairwise_append.1 hs).2.2 e' h1 e (by simp)
     ·simp at h1;rw[h1,Be];omega
    have hr:=NR Ew hn;rw[Wp _ j _ hpre,NQ r j _ (fun e' he'=>by have:=hr e' he';have:=gJ e.at_ e'.at_;omega)];omega
   rw[hw];unfold sO
   by_cases ho:h e.at_=on
   ·rw[if_pos ho,if_pos ho];exact ih on
   ·rw[if_neg ho,if_neg ho,ih]
theorem Hy(E:List Ed)(hs:nN E):(∀p∈jy E,∃e∈E,e.at_=p)/\(∀e∈E,∃p∈jy E,aC e.at_ p=0):=by
 induction E with
 | nil=>exact⟨by simp[jy],by simp⟩
 | cons e r ih =>
  obtain⟨i1,i2⟩:=ih (List.pairwise_cons.1 hs).2;unfold jy
  by_cases hn:kG e r=true
  ·rw[if_pos hn];refine⟨fun p hp=>?_,fun e' he'=>?_⟩
   ·obtain⟨e',h1,h2⟩:=i1 p hp;exact⟨e',by simp[h1],h2⟩
   ·rcases List.mem_cons.1 he' with rfl|he'
    ·cases r with
     | nil=>simp[kG]at hn
     | cons f r =>
      have hf:aC e'.at_ f.at_=0:=by simpa [kG] using hn
      obtain⟨p,hp,h0⟩:=i2 f (by simp);exact⟨p,hp,by have:=(wU.trans e'.at_ f.at_ p (by omega) (by omega)).2.1 ⟨hf,h0⟩;exact this⟩
    ·exact i2 e' he'
  ·rw[if_neg hn];refine⟨fun p hp=>?_,fun e' he'=>?_⟩
   ·rcases List.mem_cons.1 hp with rfl|hp
    ·exact⟨e,by simp,rfl⟩
    ·obtain⟨e',h1,h2⟩:=i1 p hp;exact⟨e',by simp[h1],h2⟩
   ·rcases List.mem_cons.1 he' with rfl|he'
    ·exact⟨e'.at_,by simp,Be _⟩
    ·obtain⟨p,hp,h0⟩:=i2 e' he';exact⟨p,by simp[hp],h0⟩
theorem Hz(E:List Ed)(hs:nN E):sQ (jy E):=by
 induction E with
 | nil=>exact List.Pairwise.nil
 | cons e r ih =>
  have hr:=(List.pairwise_cons.1 hs).2;unfold jy
  by_cases hn:kG e r=true
  ·rw[if_pos hn];exact ih hr
  ·rw[if_neg hn];refine List.pairwise_cons.2 ⟨fun p hp=>?_,ih hr⟩;obtain⟨e',h1,rfl⟩:=(Hy r hr).1 p hp;exact NR hs hn e' h1
structure Sg where
 fr:V
 to_:V
 op:Bool
def jJ(s:Sg)(x:V):Bool:=decide (aC s.fr x<=0) && (s.op || decide (aC x s.to_<0))
def y9(l:List Sg)(x:V):Bool:=l.any fun s=>jJ s x
def zg(k:Nat)(s:Sg):List Ed:=if s.op=true then[⟨s.fr,k,1⟩] else if aC s.fr s.to_<0 then[⟨s.fr,k,1⟩,⟨s.to_,k,-1⟩] else[]
def uU:Nat->List (List Sg)->List Ed
 | _,[]=>[]
 | k,l :: Ls=>l.flatMap (zg k)++uU (k+1) Ls
def cnt(l:List Sg)(x:V):Int:=(l.countP fun s=>jJ s x:Nat)
theorem Ws(k j:Nat)(s:Sg)(x:V):fJ (zg k s) j x=if j=k then(if jJ s x=true then 1 else 0) else 0:=by
 unfold zg jJ
 by_cases ho:s.op=true
 ·rw[if_pos ho,ho];simp only[fJ,Bool.true_or,Bool.and_true,decide_eq_true_eq]
  by_cases hj:j=k<;>simp[hj]
 ·have ho':s.op=false:=by simpa using ho
  rw[if_neg ho,ho'];simp only[Bool.false_or,Bool.and_eq_true,decide_eq_true_eq];have ha:=gJ x s.to_
  by_cases hlt:aC s.fr s.to_<0
  ·rw[if_pos hlt];simp only[fJ]
   by_cases hj:j=k
   ·simp only[hj,true_and,if_true]
    by_cases h1:aC s.fr x<=0
    ·by_cases h2:aC x s.to_<0
     ·have h3:¬aC s.to_ x<=0:=by omega
      simp[h1,h2,h3]
     ·have h3:aC s.to_ x<=0:=by omega
      simp[h1,h2,h3]
    ·have h3:¬aC s.to_ x<=0:=fun h=>h1 (by have:=Bf hlt h;omega)
     simp[h1,h3]
   ·simp[hj]
  ·rw[if_neg hlt];simp only[fJ];have:¬(aC s.fr x<=0/\aC x s.to_<0):=fun h=>hlt (Es h.1 h.2)
   rw[if_neg this];simp
theorem Wu(k j:Nat)(l:List Sg)(x:V):fJ (l.flatMap (zg k)) j x=if j=k then cnt l x else 0:=by
 induction l with
 | nil=>simp[fJ,cnt]
 | cons s l ih =>
  rw[List.flatMap_cons,Hw,ih,Ws];unfold cnt;rw[List.countP_cons]
  by_cases hj:j=k
  ·simp only[hj,if_true]
   by_cases h:jJ s x=true<;>simp[h];omega
  ·simp[hj]
theorem NU(x:V):∀(Ls:List (List Sg)) (k j:Nat),fJ (uU k Ls) j x=if k<=j then(match Ls[j-k]? with|some l=>cnt l x|none=>0) else 0
 | [],k,j=>by simp[uU,fJ]
 | l :: Ls,k,j=>by
  rw[uU,Hw,Wu,NU x Ls (k+1) j]
  by_cases hk:k<=j
  ·by_cases hj:j=k
   ·subst hj;rw[if_pos rfl,if_neg (show ¬j+1<=j by omega),if_pos hk];simp
   ·have h1:k+1<=j:=by omega
    rw[if_neg hj,if_pos h1,if_pos hk,show j-k=(j-(k+1))+1 by omega,List.getElem?_cons_succ];omega
  ·have h1:¬k+1<=j:=by omega
   rw[if_neg (by omega),if_neg h1,if_neg hk];rfl
def having(n:Nat)(b:Nat->Int):Int:=((List.range n).map fun j=>min (b j) 1).sum
theorem Wv{A B:List Ed}(h:A.Perm B)(j:Nat)(x:V):fJ A j x=fJ B j x:=by
 induction h with
 | nil=>rfl
 | cons e _ ih=>simp only[fJ,ih]
 | swap a b l=>simp only[fJ];omega
 | trans _ _ ih1 ih2=>exact ih1.trans ih2
theorem Wx(l:List Sg)(x:V):min (cnt l x) 1=if y9 l x=true then 1 else 0:=by
 unfold cnt y9
 by_cases h:(l.any fun s=>jJ s x)=true
 ·rw[if_pos h];obtain⟨s,hs,hh⟩:=List.any_eq_true.1 h;have:0<l.countP fun s=>jJ s x:=List.countP_pos_iff.2 ⟨s,hs,hh⟩
  omega
 ·rw[if_neg h];have:l.countP (fun s=>jJ s x)=0:=by
   rw[List.countP_eq_zero];intro s hs hh;exact h (List.any_eq_true.2 ⟨s,hs,hh⟩)
  omega
def pV(Ls:List (List Sg))(x:V):Int:=(Ls.map fun l=>if y9 l x=true then(1:Int) else 0).sum
theorem Ey(Ls:List (List Sg))(E:List Ed)(hE:E.Perm (uU 0 Ls))(x:V):having Ls.length (fun j=>fJ E j x)=pV Ls x:=by
 unfold having pV;have:(List.range Ls.length).map (fun j=>min (fJ E j x) 1)=Ls.map fun l=>if y9 l x=true then(1:Int) else 0:=by
  apply List.ext_getElem
  ·simp
  ·intro i h1 h2;have hi:i<Ls.length:=by simpa using h2
   rw[List.getElem_map,List.getElem_range,List.getElem_map,Wv hE,NU,if_pos (Nat.zero_le _)];simp only[Nat.sub_zero,List.getElem?_eq_getElem hi];exact Wx _ _
 rw[this]
open Go.RowKit
def VX(v:Nat)(y1 y2 y3:Int)(x4 x5:ByteArray)(w:World):Prop:=w.heap[v]?=some (.cells #[.int .i64 y1,.int .i64 y2,.int .i64 y3,.string x4,.string x5] 108 (0,0))
theorem VX.cells{v:Nat}{y1 y2 y3:Int}{x4 x5:ByteArray}{w:World}(h:VX v y1 y2 y3 x4 x5 w):w.cell? ⟨v,0,none⟩=some (.int .i64 y1)/\w.cell? ⟨v,1,none⟩=some (.int .i64 y2)/\w.cell? ⟨v,2,none⟩=some (.int .i64 y3)/\w.cell? ⟨v,3,none⟩=some (.string x4)/\w.cell? ⟨v,4,none⟩=some (.string x5) :=
 ⟨by rw[Lib.cell_of_heap h];rfl,by rw[Lib.cell_of_heap h];rfl,by rw[Lib.cell_of_heap h];rfl,by rw[Lib.cell_of_heap h];rfl,by rw[Lib.cell_of_heap h];rfl⟩
theorem VX.f{v:Nat}{y1 y2 y3:Int}{x4 x5:ByteArray}{w:World}(h:VX v y1 y2 y3 x4 x5 w)(o:Nat):w.frozen? ⟨v,o,none⟩=false:=Lib.frozen_of_heap h o
theorem VX.grow{b v:Nat}{y1 y2 y3:Int}{x4 x5:ByteArray}{w w':World}(h:VX v y1 y2 y3 x4 x5 w)(hg:w.grownBy w' (some b))(hn:v≠b):VX v y1 y2 y3 x4 x5 w':=by
 unfold VX at h ⊢;rw[hg.block v ((Array.getElem?_eq_some_iff.1 h).1) (by simpa using hn)];exact h
theorem VX.set3{v:Nat}{y1 y2 y3:Int}{x4 x5:ByteArray}{w:World}(h:VX v y1 y2 y3 x4 x5 w)(z:ByteArray):VX v y1 y2 y3 z x5 (w.setCell ⟨v,3,none⟩ (.string z)):=by
 unfold VX at h ⊢;simp[World.setCell,Array.getElem?_modify,h]
theorem VX.set4{v:Nat}{y1 y2 y3:Int}{x4 x5:ByteArray}{w:World}(h:VX v y1 y2 y3 x4 x5 w)(z:ByteArray):VX v y1 y2 y3 x4 z (w.setCell ⟨v,4,none⟩ (.string z)):=by
 unfold VX at h ⊢;simp[World.setCell,Array.getElem?_modify,h]
theorem VX.other{v u:Nat}{y1 y2 y3:Int}{x4 x5:ByteArray}{w:World}(h:VX v y1 y2 y3 x4 x5 w)(hn:v≠u)(o:Nat)(x:Value):VX v y1 y2 y3 x4 x5 (w.setCell ⟨u,o,none⟩ x):=by
 unfold VX at h ⊢;rw[<-h];exact heap_setCell_other w _ v x hn
def sS(w:World)(A:Nat)(y1 y2 y3:Int)(x4 x5:ByteArray):World:=((((w.setCell ⟨A,0,none⟩ (.int .i64 y1)).setCell ⟨A,1,none⟩ (.int .i64 y2)).setCell ⟨A,2,none⟩ (.int .i64 y3)).setCell ⟨A,3,none⟩ (.string x4)).setCell ⟨A,4,none⟩ (.string x5)
theorem Ez{w:World}{A:Nat}{z1 z2 z3:Int}{z4 z5:ByteArray}(h:VX A z1 z2 z3 z4 z5 w)(y1 y2 y3:Int)(x4 x5:ByteArray):VX A y1 y2 y3 x4 x5 (sS w A y1 y2 y3 x4 x5):=by
 unfold VX at h ⊢;unfold sS;simp[World.setCell,Array.getElem?_modify,h]
theorem bu{b A:Nat}{w W:World}(h:w.grownBy W (some b))(hA:w.heap.size<=A)(o:Nat)(x:Value):w.grownBy (W.setCell ⟨A,o,none⟩ x) (some b) :=
 ⟨h.os,h.tape,h.output,by simpa [World.setCell] using h.size,fun k hk hn=>by rw[<-h.block k hk hn];exact heap_setCell_other W _ k x (by simp;omega)⟩
theorem Wy{b A:Nat}{w W:World}(h:w.grownBy W (some b))(hA:w.heap.size<=A)(y1 y2 y3:Int)(x4 x5:ByteArray):w.grownBy (sS W A y1 y2 y3 x4 x5) (some b):=bu (bu (bu (bu (bu h hA _ _) hA _ _) hA _ _) hA _ _) hA _ _
theorem jA{P:Program}{fn:Func}{p u:Tmp}{ty:TypeId}(h:fn.results=#[.cell p ty,.tmp u])(tmps:Array Value)(w:World)(g:Nat)(t:TypeId)(cs:Array Value)(fr:Nat × Nat)(d:TypeDesc)
  (hp:tmps.getD p undef=.pointer (some ⟨g,0,none⟩)) (hg:w.heap[g]?=some (.cells cs t fr)) (hu:P.underlying ty=some d) (hd:(match d with | .struct _ | .array _ _=>true|_=>false)=true) (hi:(P.info? ty).map (·.size)=some cs.size) :
  (results fn tmps).run P w=.ok (.tuple #[.agg cs,tmps.getD u undef]) w:=by
 rw[results_cell_tmp h,hp];simp[asAddr,run_loadVar_row w g t ty cs fr d hg hu hd hi,Result.andThen]
theorem oU{P:Program}{fn:Func}{p u r:Tmp}{ty:TypeId}(h:fn.results=#[.cell p ty,.tmp u,.tmp r])(tmps:Array Value)(w:World)(g:Nat)(t:TypeId)(cs:Array Value)(fr:Nat × Nat)(d:TypeDesc)
  (hp:tmps.getD p undef=.pointer (some ⟨g,0,none⟩)) (hg:w.heap[g]?=some (.cells cs t fr)) (hu:P.underlying ty=some d) (hd:(match d with | .struct _ | .array _ _=>true|_=>false)=true) (hi:(P.info? ty).map (·.size)=some cs.size) :
  (results fn tmps).run P w=.ok (.tuple #[.agg cs,tmps.getD u undef,tmps.getD r undef]) w:=by
 have hp':tmps[p]?.getD undef=.pointer (some ⟨g,0,none⟩):=by simpa using hp
 simp[results,h,Result.andThen,hp',asAddr,run_loadVar_row w g t ty cs fr d hg hu hd hi]
theorem fF{A:Nat}{w W:World}(h:w.grownBy W none)(hA:w.heap.size<=A)(o:Nat)(x:Value):w.grownBy (W.setCell ⟨A,o,none⟩ x) none :=
 ⟨h.os,h.tape,h.output,by simpa [World.setCell] using h.size,fun k hk hn=>by rw[<-h.block k hk hn];exact heap_setCell_other W _ k x (by simp;omega)⟩
theorem oV{A:Nat}{w W:World}(h:w.grownBy W none)(hA:w.heap.size<=A)(y1 y2 y3:Int)(x4 x5:ByteArray):w.grownBy (sS W A y1 y2 y3 x4 x5) none:=fF (fF (fF (fF (fF h hA _ _) hA _ _) hA _ _) hA _ _) hA _ _
end Go.Proofs.YteciokcdpadmpaaGreatDoor
