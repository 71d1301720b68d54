import Derived.Lib.Bytealg
import Derived.Lib.TrimByte
import Derived.Lib.Small
import Derived.Lib.ItoaNum
import Derived.Test.YtapodndfpecglaaGreatDoorProg
import Derived.WalkKit
import Derived.WalkSpells
import Derived.WalkLawsBesides
import Derived.Deep.QuietTactic
import Derived.BigQuiet
import Derived.Below
import Derived.Lib.ConvBytes
import Derived.Laws.AppendOwn
import Derived.Deep.RegionLaw
import Derived.Deep.AppendLies
set_option linter.all false
set_option maxRecDepth 100000
set_option maxHeartbeats 0
open Go.Proofs.Tryz
namespace Go.Proofs.YtapodndfpecglaaGreatDoor
structure Good{α:Type}(c:α->α->Int):Prop where
 rng:∀a b,c a b=-1\/c a b=0\/c a b=1
 anti:∀a b,c b a=- c a b
 trans:∀a b d,c a b<=0->c b d<=0->c a d<=0/\((c a b=0/\c b d=0)↔c a d=0)
theorem Good.self{α:Type}{c:α->α->Int}(h:Good c)(a:α):c a a=0:=by
 have:=h.anti a a;omega
theorem oI{α β:Type}{c:α->α->Int}(h:Good c)(f:β->α):Good (fun a b=>c (f a) (f b)) :=
 ⟨fun a b=>h.rng _ _,fun a b=>h.anti _ _,fun a b d=>h.trans _ _ _⟩
def nT{α:Type}(c d:α->α->Int)(a b:α):Int:=if c a b=0 then d a b else c a b
theorem xZ{α:Type}{c d:α->α->Int}(hc:Good c)(hd:Good d):Good (nT c d):=by
 refine⟨fun a b=>?_,fun a b=>?_,fun x y z=>?_⟩
 ·unfold nT;split
  ·exact hd.rng a b
  ·exact hc.rng a b
 ·have h1:=hc.anti a b;have h2:=hd.anti a b;unfold nT
  by_cases h:c a b=0
  ·rw[if_pos h,if_pos (by omega),h2]
  ·rw[if_neg h,if_neg (by omega),h1]
 ·have h1:=hc.trans x y z;have h2:=hd.trans x y z;have r1:=hc.rng x y;have r2:=hc.rng y z;have r3:=hc.rng x z;have s3:=hd.rng x z;unfold nT;intro p q;split at p<;>split at q
  ·rename_i e1 e2;have e3:=(h1 (by omega) (by omega)).2.1 ⟨e1,e2⟩;rw[if_pos e1,if_pos e2,if_pos e3];exact h2 p q
  ·rename_i e1 e2;have e3:=h1 (by omega) (by omega);have e4:c x z≠0:=fun hh=>e2 (e3.2.2 hh).2
   rw[if_pos e1,if_neg e2,if_neg e4];refine⟨e3.1,?_⟩;constructor
   ·rintro⟨_,h⟩;exact absurd h e2
   ·intro h;exact absurd h e4
  ·rename_i e1 e2;have e3:=h1 (by omega) (by omega);have e4:c x z≠0:=fun hh=>e1 (e3.2.2 hh).1
   rw[if_neg e1,if_pos e2,if_neg e4];refine⟨e3.1,?_⟩;constructor
   ·rintro⟨h,_⟩;exact absurd h e1
   ·intro h;exact absurd h e4
  ·rename_i e1 e2;have e3:=h1 (by omega) (by omega);have e4:c x z≠0:=fun hh=>e1 (e3.2.2 hh).1
   rw[if_neg e1,if_neg e2,if_neg e4];refine⟨e3.1,?_⟩;constructor
   ·rintro⟨h,_⟩;exact absurd h e1
   ·intro h;exact absurd h e4
def cO{α:Type}(c:α->α->Int):List α->List α->Int
 | [],[]=>0
 | [],_ :: _=>-1
 | _ :: _,[]=>1
 | a :: al,b :: bs=>if c a b=0 then cO c al bs else c a b
theorem KX{α:Type}{c:α->α->Int}(hc:Good c):Good (cO c):=by
 refine⟨fun a=>?_,fun a=>?_,fun x=>?_⟩
 ·induction a with
  | nil=>intro b;cases b<;>simp[cO]
  | cons a al ih =>
   intro b
   cases b with
   | nil=>simp[cO]
   | cons b bs =>
    simp only[cO];split
    ·exact ih bs
    ·exact hc.rng a b
 ·induction a with
  | nil=>intro b;cases b<;>simp[cO]
  | cons a al ih =>
   intro b
   cases b with
   | nil=>simp[cO]
   | cons b bs =>
    have h1:=hc.anti a b;simp only[cO]
    by_cases h:c a b=0
    ·rw[if_pos h,if_pos (by omega),ih]
    ·rw[if_neg h,if_neg (by omega),h1]
 ·induction x with
  | nil =>
   intro y z p q
   cases y with
   | nil=>cases z<;>simp[cO]at q ⊢
   | cons y ys=>cases z with
    | nil=>simp[cO]at q
    | cons z zs=>simp[cO]
  | cons x xs ih =>
   intro y z
   cases y with
   | nil=>intro p;simp[cO]at p
   | cons y ys =>
    cases z with
    | nil=>intro p q;simp[cO]at q
    | cons z zs =>
     have h1:=hc.trans x y z;have h2:=ih ys zs;have r1:=hc.rng x y;have r2:=hc.rng y z;have r3:=hc.rng x z;simp only[cO];intro p q;split at p<;>split at q
     ·rename_i e1 e2;have e3:=(h1 (by omega) (by omega)).2.1 ⟨e1,e2⟩;rw[if_pos e1,if_pos e2,if_pos e3];exact h2 p q
     ·rename_i e1 e2;have e3:=h1 (by omega) (by omega);have e4:c x z≠0:=fun hh=>e2 (e3.2.2 hh).2
      rw[if_pos e1,if_neg e2,if_neg e4];refine⟨e3.1,?_⟩;constructor
      ·rintro⟨_,h⟩;exact absurd h e2
      ·intro h;exact absurd h e4
     ·rename_i e1 e2;have e3:=h1 (by omega) (by omega);have e4:c x z≠0:=fun hh=>e1 (e3.2.2 hh).1
      rw[if_neg e1,if_pos e2,if_neg e4];refine⟨e3.1,?_⟩;constructor
      ·rintro⟨h,_⟩;exact absurd h e1
      ·intro h;exact absurd h e4
     ·rename_i e1 e2;have e3:=h1 (by omega) (by omega);have e4:c x z≠0:=fun hh=>e1 (e3.2.2 hh).1
      rw[if_neg e1,if_neg e2,if_neg e4];refine⟨e3.1,?_⟩;constructor
      ·rintro⟨h,_⟩;exact absurd h e1
      ·intro h;exact absurd h e4
theorem mO:Good Lib.compareInt:=by
 refine⟨fun a b=>?_,fun a b=>?_,fun x y z=>?_⟩
 ·unfold Lib.compareInt;split
  ·simp
  ·split<;>simp
 ·unfold Lib.compareInt;repeat' split
  all_goals omega
 ·unfold Lib.compareInt;repeat' split
  all_goals omega
def Dh(a b:UInt8):Int:=Lib.compareInt a.toNat b.toNat
theorem UE:Good Dh:=oI mO (fun a:UInt8=>(a.toNat:Int))
theorem KY:∀a b,Lib.compareBytes a b=cO Dh a b
 | [],[]=>rfl
 | [],_ :: _=>rfl
 | _ :: _,[]=>rfl
 | a :: al,b :: bs=>by
  have ih:=KY al bs;unfold Lib.compareBytes cO;rw[ih];have eb:Dh a b=if(a.toNat:Int)<b.toNat then -1 else if(a.toNat:Int) > b.toNat then 1 else 0:=rfl;rw[eb]
  by_cases h:a<b
  ·have h':((a.toNat:Int)<b.toNat):=by have:=UInt8.lt_iff_toNat_lt.1 h;omega
   simp[h,h']
  ·by_cases h2:b<a
   ·have h':((b.toNat:Int)<a.toNat):=by have:=UInt8.lt_iff_toNat_lt.1 h2;omega
    have h'':¬((a.toNat:Int)<b.toNat):=by omega
    simp[h,h2,h',h'']
   ·have h':¬((b.toNat:Int)<a.toNat):=by intro hh;exact h2 (UInt8.lt_iff_toNat_lt.2 (by omega))
    have h'':¬((a.toNat:Int)<b.toNat):=by intro hh;exact h (UInt8.lt_iff_toNat_lt.2 (by omega))
    simp[h,h2,h',h'']
theorem KZ:Good Lib.compareBytes:=by
 have e:Lib.compareBytes=cO Dh:=by funext a b;exact KY a b
 rw[e];exact KX UE
def aN(c:UInt8):Bool:=decide (48<=c.toNat) && decide (c.toNat<=57)
def aT(c:UInt8):Bool:=aN c || (decide (65<=c.toNat) && decide (c.toNat<=90)) || (decide (97<=c.toNat) && decide (c.toNat<=122)) || decide (c.toNat=45)
def dY(l:List UInt8):Bool:=!l.isEmpty && l.all aN
def dN(l:List UInt8):List UInt8:=Lib.trimLeftB l 48
def kR(l:List UInt8):Int:=if dY l then 0 else 1
def lU(l:List UInt8):Int:=if dY l then(dN l).length else 0
def bodyT(l:List UInt8):List UInt8:=if dY l then dN l else l
def dO(a b:List UInt8):Int:=nT (fun a b=>Lib.compareInt (kR a) (kR b)) (nT (fun a b=>Lib.compareInt (lU a) (lU b)) (fun a b=>Lib.compareBytes (bodyT a) (bodyT b))) a b
theorem Di:Good dO:=xZ (oI mO kR) (xZ (oI mO lU) (oI KZ bodyT))
def aV:List UInt8->List (List UInt8)
 | []=>[[]]
 | c :: l=>if c=46 then[] :: aV l else match aV l with
  | p :: ps=>(c :: p) :: ps
  | []=>[[c]]
theorem rC(c:UInt8)(l:List UInt8):aV (c :: l)=if c=46 then[] :: aV l else match aV l with
  | p :: ps=>(c :: p) :: ps
  | []=>[[c]]:=by rw[aV]
theorem uu(l:List UInt8):aV l≠[]:=by
 cases l with
 | nil=>simp[aV]
 | cons c l =>
  rw[rC];split
  ·simp
  ·split<;>simp
theorem Ad:∀(p:List UInt8),(∀c∈p,c≠46)->aV p=[p]
 | [],_=>rfl
 | c :: p,h=>by
  have ih:=Ad p (fun x hx=>h x (List.mem_cons_of_mem _ hx));rw[rC];rw[if_neg (h c (List.mem_cons_self ..)),ih]
theorem Ae:∀(p r:List UInt8),(∀c∈p,c≠46)->aV (p++46 :: r)=p :: aV r
 | [],r,_=>by simp[aV]
 | c :: p,r,h=>by
  have ih:=Ae p r (fun x hx=>h x (List.mem_cons_of_mem _ hx));rw[List.cons_append,rC];rw[if_neg (h c (List.mem_cons_self ..)),ih]
theorem Dj:∀(l r:List UInt8),aV (l++46 :: r)=aV l++aV r
 | [],r=>by simp[aV]
 | c :: l,r=>by
  have ih:=Dj l r;rw[List.cons_append,rC,rC]
  by_cases h:c=46
  ·rw[if_pos h,if_pos h,ih,List.cons_append]
  ·rw[if_neg h,if_neg h,ih];obtain⟨p,ps,e⟩:∃p ps,aV l=p :: ps:=by
    cases e:aV l with
    | nil=>exact absurd e (uu l)
    | cons p ps=>exact⟨p,ps,rfl⟩
   rw[e];rfl
def jX(a b:List UInt8):Int :=
 nT (fun a b:List UInt8=>Lib.compareInt (if a.isEmpty then 1 else 0) (if b.isEmpty then 1 else 0)) (fun a b=>cO dO (aV a) (aV b)) a b
theorem Dk:Good jX:=xZ (oI mO (fun a:List UInt8=>if a.isEmpty then(1:Int) else 0)) (oI (KX Di) aV)
structure V where
 major:Int
 minor:Int
 patch:Int
 pre:List UInt8
def aB(a b:V):Int:=nT (fun a b=>Lib.compareInt a.major b.major) (nT (fun a b=>Lib.compareInt a.minor b.minor) (nT (fun a b=>Lib.compareInt a.patch b.patch) (fun a b=>jX a.pre b.pre))) a b
theorem vU:Good aB:=xZ (oI mO V.major) (xZ (oI mO V.minor) (xZ (oI mO V.patch) (oI Dk V.pre)))
theorem x8{x y:Int}(h:x<y):Lib.compareInt x y=-1:=by unfold Lib.compareInt;rw[if_pos h]
theorem Af{x y:Int}(h:y<x):Lib.compareInt x y=1:=by unfold Lib.compareInt;rw[if_neg (by omega),if_pos h]
theorem cmp_eq(x:Int):Lib.compareInt x x=0:=mO.self x
theorem lV{x y:Int}:Lib.compareInt x y=0↔x=y:=by
 unfold Lib.compareInt;repeat' split
 all_goals omega
theorem Ag{x y:Int}:Lib.compareInt x y<=0↔x<=y:=by
 unfold Lib.compareInt;repeat' split
 all_goals omega
theorem FX{α:Type}{c d:α->α->Int}{a b:α}(h1:c a b<=0)(h2:c a b=0->d a b<=0):nT c d a b<=0:=by
 unfold nT;split
 ·exact h2 ‹_›
 ·exact h1
theorem UF(p:List UInt8):0<=kR p:=by unfold kR;split<;>decide
theorem UG(p:List UInt8):0<=lU p:=by unfold lU;split<;>omega
theorem UH:kR [48]=0:=by decide
theorem len0:lU [48]=0:=by decide
theorem UI:bodyT [48]=[]:=by decide
theorem La(p:List UInt8):dO [48] p<=0:=by
 unfold dO;refine FX ?_ fun h=>FX ?_ fun h2=>?_
 ·show Lib.compareInt (kR [48]) (kR p)<=0;rw[Ag,UH];exact UF p
 ·show Lib.compareInt (lU [48]) (lU p)<=0;rw[Ag,len0];exact UG p
 ·show Lib.compareBytes (bodyT [48]) (bodyT p)<=0;rw[UI]
  cases bodyT p<;>simp[Lib.compareBytes]
theorem Lc(l:List UInt8):jX [48] l<=0:=by
 unfold jX;refine FX ?_ fun h=>?_
 ·show Lib.compareInt 0 _<=0;rw[Ag];split<;>decide
 ·show cO dO (aV [48]) (aV l)<=0;have e:aV [48]=[[48]]:=by decide
  rw[e]
  cases h:aV l with
  | nil=>exact absurd h (uu l)
  | cons q qs =>
   unfold cO;split
   ·cases qs<;>simp[cO]
   ·exact La q
theorem Ld{α:Type}{c:α->α->Int}(h:Good c)(x:α)(r:List α):∀l,cO c l (l++x :: r)=-1
 | []=>rfl
 | a :: l=>by rw[List.cons_append];unfold cO;rw[if_pos (h.self a)];exact Ld h x r l
theorem Le:∀(L K:List (List UInt8)),cO dO L K<0->cO dO K (L++[[48]])<0->False
 | [],[],h,_=>by simp[cO]at h
 | [],k :: ks,_,h=>by
  have h1:=Di.anti [48] k;have h2:=La k;rw[List.nil_append]at h;unfold cO at h;split at h
  ·cases ks<;>simp[cO]at h
  ·omega
 | a :: L,[],h,_=>by simp[cO]at h
 | a :: L,k :: K,h,h'=>by
  have h1:=Di.anti a k;rw[List.cons_append]at h';unfold cO at h h'
  by_cases e:dO a k=0
  ·rw[if_pos e]at h;rw[if_pos (by omega)]at h';exact Le L K h h'
  ·rw[if_neg e]at h;rw[if_neg (by omega)]at h';omega
def kS(v:V):V:=if v.pre=[] then⟨v.major,v.minor,if v.patch<4611686018427387904 then v.patch+1 else v.patch,[48]⟩ else⟨v.major,v.minor,v.patch,v.pre++[46,48]⟩
theorem nU(a b:V):aB a b=if Lib.compareInt a.major b.major=0 then(if Lib.compareInt a.minor b.minor=0 then(if Lib.compareInt a.patch b.patch=0 then jX a.pre b.pre else Lib.compareInt a.patch b.patch) else Lib.compareInt a.minor b.minor) else Lib.compareInt a.major b.major:=rfl
theorem x9(a b:List UInt8):jX a b=if Lib.compareInt (if a.isEmpty then 1 else 0) (if b.isEmpty then 1 else 0)=0 then cO dO (aV a) (aV b) else Lib.compareInt (if a.isEmpty then 1 else 0) (if b.isEmpty then 1 else 0):=rfl
theorem UJ(v:V)(h:v.patch<4611686018427387904):aB v (kS v)=-1:=by
 unfold kS
 by_cases e:v.pre=[]
 ·rw[if_pos e,if_pos h,nU];simp only;have h3:Lib.compareInt v.patch (v.patch+1)=-1:=x8 (by omega);rw[if_pos (cmp_eq _),if_pos (cmp_eq _),if_neg (by omega),h3]
 ·rw[if_neg e,nU];simp only;rw[if_pos (cmp_eq _),if_pos (cmp_eq _),if_pos (cmp_eq _),x9];have e1:v.pre.isEmpty=false:=by simpa using e
  have e2:(v.pre++[46,48]).isEmpty=false:=by simp
  rw[e1,e2,if_pos (cmp_eq _),Dj];exact Ld Di [48] [] _
theorem UK(l:List UInt8):0<=jX [] l:=by
 rw[x9]
 cases l with
 | nil=>decide
 | cons c l=>exact(by decide:(0:Int)<=Lib.compareInt 1 0)
theorem UL(v w:V)(h:v.patch<4611686018427387904)(hx:aB v w<0)(hy:aB w (kS v)<0):False:=by
 unfold kS at hy
 by_cases e:v.pre=[]
 ·rw[if_pos e,if_pos h,nU]at hy;rw[nU]at hx;simp only at hy;have a1:=mO.anti v.major w.major;have a2:=mO.anti v.minor w.minor
  by_cases c1:Lib.compareInt v.major w.major=0
  ·rw[if_pos c1]at hx;rw[if_pos (by omega)]at hy
   by_cases c2:Lib.compareInt v.minor w.minor=0
   ·rw[if_pos c2]at hx;rw[if_pos (by omega)]at hy;have p0:=UK w.pre;rw[e]at hx;have p1:=Lc w.pre;have p2:=Dk.anti [48] w.pre
    by_cases c3:Lib.compareInt v.patch w.patch=0
    ·rw[if_pos c3]at hx;omega
    ·rw[if_neg c3]at hx;have l1:v.patch<=w.patch:=Ag.1 (by omega);have l2:v.patch≠w.patch:=fun hh=>c3 (lV.2 hh)
     by_cases c4:Lib.compareInt w.patch (v.patch+1)=0
     ·rw[if_pos c4]at hy;omega
     ·rw[if_neg c4]at hy;have l3:w.patch<=v.patch+1:=Ag.1 (by omega);have l4:w.patch≠v.patch+1:=fun hh=>c4 (lV.2 hh)
      omega
   ·rw[if_neg c2]at hx;rw[if_neg (by omega)]at hy;omega
  ·rw[if_neg c1]at hx;rw[if_neg (by omega)]at hy;omega
 ·rw[if_neg e,nU]at hy;rw[nU]at hx;simp only at hy;have a1:=mO.anti v.major w.major;have a2:=mO.anti v.minor w.minor;have a3:=mO.anti v.patch w.patch
  by_cases c1:Lib.compareInt v.major w.major=0
  ·rw[if_pos c1]at hx;rw[if_pos (by omega)]at hy
   by_cases c2:Lib.compareInt v.minor w.minor=0
   ·rw[if_pos c2]at hx;rw[if_pos (by omega)]at hy
    by_cases c3:Lib.compareInt v.patch w.patch=0
    ·rw[if_pos c3]at hx;rw[if_pos (by omega)]at hy;have e1:v.pre.isEmpty=false:=by simpa using e
     have e2:(v.pre++[46,48]).isEmpty=false:=by simp
     rw[x9,e1]at hx;rw[x9,e2]at hy
     cases hw:w.pre.isEmpty with
     | true =>
      rw[hw]at hy;have hc:Lib.compareInt (if true=true then 1 else 0) (if false=true then 1 else 0)=1:=by decide
      rw[hc]at hy;simp at hy
     | false =>
      rw[hw]at hx hy;rw[if_pos (cmp_eq _)]at hx hy;rw[Dj]at hy;exact Le _ _ hx hy
    ·rw[if_neg c3]at hx;rw[if_neg (by omega)]at hy;omega
   ·rw[if_neg c2]at hx;rw[if_neg (by omega)]at hy;omega
  ·rw[if_neg c1]at hx;rw[if_neg (by omega)]at hy;omega
theorem Dl(a b:List UInt8):dO a b=if Lib.compareInt (kR a) (kR b)=0 then(if Lib.compareInt (lU a) (lU b)=0 then Lib.compareBytes (bodyT a) (bodyT b) else Lib.compareInt (lU a) (lU b)) else Lib.compareInt (kR a) (kR b):=rfl
theorem Lh{a b:List UInt8}(ha:dY a=true)(hb:dY b=true):dO a b=if((dN a).length:Int)=(dN b).length then Lib.compareBytes (dN a) (dN b) else Lib.compareInt (dN a).length (dN b).length:=by
 rw[Dl];unfold kR lU bodyT;simp only[ha,hb,if_true];rw[if_pos (cmp_eq _)]
 by_cases h:((dN a).length:Int)=(dN b).length
 ·rw[if_pos (lV.2 h),if_pos h]
 ·rw[if_neg (fun hh=>h (lV.1 hh)),if_neg h]
theorem Lj{a b:List UInt8}(ha:dY a=true)(hb:dY b=false):dO a b=-1:=by
 rw[Dl];unfold kR;simp[ha,hb,Lib.compareInt]
theorem Ll{a b:List UInt8}(ha:dY a=false)(hb:dY b=true):dO a b=1:=by
 rw[Dl];unfold kR;simp[ha,hb,Lib.compareInt]
theorem Lm{a b:List UInt8}(ha:dY a=false)(hb:dY b=false):dO a b=Lib.compareBytes a b:=by
 rw[Dl];unfold kR lU bodyT;simp[ha,hb,Lib.compareInt]
theorem Dn:∀(l:List UInt8),(Lib.indexByte l 46=-1/\∀c∈l,c≠46)\/∃k:Nat,Lib.indexByte l 46=k/\k<l.length/\(∀c∈l.take k,c≠46)/\l=l.take k++46 :: l.drop (k+1)
 | []=>Or.inl ⟨rfl,by simp⟩
 | b :: l=>by
  unfold Lib.indexByte
  by_cases hb:b=46
  ·subst hb;right;exact⟨0,by simp,by simp,by simp,by simp⟩
  ·have hb':(b == (46:UInt8))=false:=by simpa using hb
   rw[hb']
   rcases Dn l with⟨h1,h2⟩|⟨k,h1,h2,h3,h4⟩
   ·left;refine⟨by rw[h1];rfl,?_⟩;intro c hc
    rcases List.mem_cons.1 hc with rfl|hc
    ·exact hb
    ·exact h2 c hc
   ·right;refine⟨k+1,?_,Nat.succ_lt_succ h2,?_,?_⟩
    ·rw[h1];have:((k:Int) == -1)=false:=by simp
     rw[this];simp
    ·intro c hc;rw[List.take_succ_cons]at hc
     rcases List.mem_cons.1 hc with rfl|hc
     ·exact hb
     ·exact h3 c hc
    ·rw[List.take_succ_cons,List.drop_succ_cons,List.cons_append,<-h4]
def ji(l:List UInt8):List UInt8:=if Lib.indexByte l 46=-1 then l else l.take (Lib.indexByte l 46).toNat
def jL(l:List UInt8):List UInt8:=if Lib.indexByte l 46=-1 then[] else l.drop ((Lib.indexByte l 46).toNat+1)
def jc(l:List UInt8):Bool:=!decide (Lib.indexByte l 46=-1)
theorem FY{l:List UInt8}(h:jc l=false):aV l=[ji l]:=by
 have h':Lib.indexByte l 46=-1:=by simpa [jc] using h
 rcases Dn l with⟨h1,h2⟩|⟨k,h1,h2,h3,h4⟩
 ·unfold ji;rw[if_pos h1];exact Ad l h2
 ·omega
theorem Dp{l:List UInt8}(h:jc l=true):aV l=ji l :: aV (jL l)/\(jL l).length<l.length:=by
 have h':¬Lib.indexByte l 46=-1:=by simpa [jc] using h
 rcases Dn l with⟨h1,h2⟩|⟨k,h1,h2,h3,h4⟩
 ·exact absurd h1 h'
 ·unfold ji jL;rw[if_neg h',if_neg h',h1,Int.toNat_natCast];refine⟨?_,by simp;omega⟩
  conv=>lhs;rw[h4]
  exact Ae _ _ h3
theorem Lp(l:List UInt8):(ji l).length<=l.length:=by
 unfold ji;split
 ·exact Nat.le_refl _
 ·simp;omega
theorem Lr(l:List UInt8):(jL l).length<=l.length:=by
 unfold jL;split
 ·simp
 ·simp
theorem UM(a b:List UInt8):cO dO (aV a) (aV b) =
  if dO (ji a) (ji b)=0 then(if jc a=true then(if jc b=true then cO dO (aV (jL a)) (aV (jL b)) else 1) else(if jc b=true then -1 else 0)) else dO (ji a) (ji b):=by
 cases ha:jc a with
 | true =>
  rw[(Dp ha).1]
  cases hb:jc b with
  | true=>rw[(Dp hb).1];simp[cO]
  | false =>
   rw[FY hb]
   cases hs:aV (jL a) with
   | nil=>exact absurd hs (uu _)
   | cons x xs=>simp[cO]
 | false =>
  rw[FY ha]
  cases hb:jc b with
  | true =>
   rw[(Dp hb).1]
   cases hs:aV (jL b) with
   | nil=>exact absurd hs (uu _)
   | cons x xs=>simp[cO]
  | false=>rw[FY hb];simp[cO]
theorem FZ(a b:List UInt8)(h:a=[]\/b=[]):jX a b=Lib.compareInt b.length a.length:=by
 rw[x9]
 rcases h with rfl|rfl
 ·cases b with
  | nil=>decide
  | cons c b =>
   have:Lib.compareInt ((c :: b).length:Nat) (([]:List UInt8).length:Nat)=1:=Af (by simp);rw[this];simp[Lib.compareInt]
 ·cases a with
  | nil=>decide
  | cons c a =>
   have:Lib.compareInt (([]:List UInt8).length:Nat) ((c :: a).length:Nat)=-1:=x8 (by simp);rw[this];simp[Lib.compareInt]
theorem Lt(a b:List UInt8)(ha:a≠[])(hb:b≠[]):jX a b=cO dO (aV a) (aV b):=by
 rw[x9];have h1:a.isEmpty=false:=by simpa using ha
 have h2:b.isEmpty=false:=by simpa using hb
 rw[h1,h2,if_pos (cmp_eq _)]
def gB:List UInt8->List UInt8
 | c :: d :: l=>if c=48 then gB (d :: l) else c :: d :: l
 | l=>l
theorem F5:∀(l:List UInt8),l≠[]->gB l=if dN l=[] then[48] else dN l
 | [],h=>absurd rfl h
 | [c],_=>by
  unfold gB dN Lib.trimLeftB
  by_cases h:c=48
  ·subst h;simp
  ·have:(c == (48:UInt8))=false:=by simpa using h
   simp[List.dropWhile,this]
 | c :: d :: l,_=>by
  unfold gB
  by_cases h:c=48
  ·subst h;rw[if_pos rfl,F5 (d :: l) (by simp)];have e:dN (48 :: d :: l)=dN (d :: l):=by unfold dN Lib.trimLeftB;simp[List.dropWhile]
   rw[e]
  ·rw[if_neg h];have h':(c == (48:UInt8))=false:=by simpa using h
   have e:dN (c :: d :: l)=c :: d :: l:=by unfold dN Lib.trimLeftB;simp[List.dropWhile,h']
   rw[e];simp
theorem Lu(l:List UInt8)(c:UInt8)(r:List UInt8)(h:dN l=c :: r):c≠48:=by
 unfold dN Lib.trimLeftB at h;intro hc;subst hc;have:=List.head?_dropWhile_not (p:=fun x:UInt8=>x == 48) (l:=l);rw[h]at this;simp at this
theorem LC(l:List UInt8)(h:l.all aN=true):(dN l).all aN=true:=by
 rw[List.all_eq_true]at h ⊢;intro c hc;exact h c ((List.dropWhile_sublist _).mem hc)
theorem rD{c:UInt8}(h:aN c=true):48<=c.toNat/\c.toNat<=57:=by
 unfold aN at h;simpa using h
theorem LD{a b:List UInt8}(ha:dY a=true)(hb:dY b=true):dO a b=if((gB a).length:Int)=(gB b).length then Lib.compareBytes (gB a) (gB b) else Lib.compareInt (gB a).length (gB b).length:=by
 have ha1:a≠[]/\a.all aN=true:=by simpa [dY] using ha
 have hb1:b≠[]/\b.all aN=true:=by simpa [dY] using hb
 rw[Lh ha hb,F5 a ha1.1,F5 b hb1.1]
 cases h1:dN a with
 | nil =>
  cases h2:dN b with
  | nil=>decide
  | cons d r =>
   have hd:=Lu b d r h2;have hd2:=rD (List.all_eq_true.1 (LC b hb1.2) d (by rw[h2];simp));have hlt:(48:UInt8)<d:=by
    rw[UInt8.lt_iff_toNat_lt];have:d.toNat≠48:=fun hh=>hd (UInt8.toNat_inj.1 hh)
    have e:(48:UInt8).toNat=48:=rfl;omega
   have n0:(if([]:List UInt8)=[] then[48] else([]:List UInt8))=[48]:=if_pos rfl;have n1:(if d :: r=[] then[48] else d :: r)=d :: r:=if_neg (by simp);rw[n0,n1];have l0:(([]:List UInt8).length:Int)=0:=rfl;have l1:(([48]:List UInt8).length:Int)=1:=rfl;have hl:((d :: r).length:Int)=r.length+1:=by simp
   rw[l0,l1,hl,if_neg (by omega),x8 (show(0:Int)<r.length+1 by omega)]
   by_cases hr:(1:Int)=r.length+1
   ·rw[if_pos hr];simp[Lib.compareBytes,hlt]
   ·rw[if_neg hr,x8];omega
 | cons d r =>
  cases h2:dN b with
  | nil =>
   have hd:=Lu a d r h1;have hd2:=rD (List.all_eq_true.1 (LC a ha1.2) d (by rw[h1];simp));have hlt:(48:UInt8)<d:=by
    rw[UInt8.lt_iff_toNat_lt];have:d.toNat≠48:=fun hh=>hd (UInt8.toNat_inj.1 hh)
    have e:(48:UInt8).toNat=48:=rfl;omega
   have hge:¬d<(48:UInt8):=by
    rw[UInt8.lt_iff_toNat_lt];have e:(48:UInt8).toNat=48:=rfl;omega
   have n0:(if([]:List UInt8)=[] then[48] else([]:List UInt8))=[48]:=if_pos rfl;have n1:(if d :: r=[] then[48] else d :: r)=d :: r:=if_neg (by simp);rw[n0,n1];have l0:(([]:List UInt8).length:Int)=0:=rfl;have l1:(([48]:List UInt8).length:Int)=1:=rfl;have hl:((d :: r).length:Int)=r.length+1:=by simp
   rw[l0,l1,hl,if_neg (by omega),Af (show(0:Int)<r.length+1 by omega)]
   by_cases hr:(r.length:Int)+1=1
   ·rw[if_pos hr];simp[Lib.compareBytes,hlt,hge]
   ·rw[if_neg hr,Af];omega
  | cons e s=>simp
theorem LG(L M:List (List UInt8))(i:Nat)(h1:¬(i<L.length/\i<M.length))(h2:i<=L.length)(h3:i<=M.length)(h:cO dO L M=cO dO (L.drop i) (M.drop i)) :
  cO dO L M=Lib.compareInt L.length M.length:=by
 rw[h]
 by_cases hL:i=L.length
 ·by_cases hM:i=M.length
  ·rw[List.drop_of_length_le (by omega),List.drop_of_length_le (by omega)];rw[show L.length=M.length by omega,cmp_eq];rfl
  ·rw[List.drop_of_length_le (show L.length<=i by omega),List.drop_eq_getElem_cons (show i<M.length by omega)];rw[x8 (by omega)];rfl
 ·have hM:i=M.length:=by omega
  rw[List.drop_of_length_le (show M.length<=i by omega),List.drop_eq_getElem_cons (show i<L.length by omega)];rw[Af (by omega)];rfl
def runN(p:UInt8->Bool)(l:List UInt8)(i:Nat):Nat:=((l.drop i).takeWhile p).length
def aK(l:List UInt8)(i k:Nat):List UInt8:=(l.drop i).take k
theorem LH(p:UInt8->Bool):∀(l:List UInt8),(l.takeWhile p).length<=l.length
 | []=>by simp
 | c :: l=>by
  have ih:=LH p l;rw[List.takeWhile_cons];split<;>simp;omega
theorem LJ(p:UInt8->Bool):∀(l:List UInt8) (k:Nat),k<(l.takeWhile p).length->∃h:k<l.length,p l[k]=true
 | [],k,h=>by simp at h
 | c :: l,k,h=>by
  rw[List.takeWhile_cons]at h;split at h
  ·cases k with
   | zero=>exact⟨by simp,by simpa⟩
   | succ k =>
    obtain⟨h1,h2⟩:=LJ p l k (by simpa using h);exact⟨by simp;omega,by simpa using h2⟩
  ·simp at h
theorem LK(p:UInt8->Bool):∀(l:List UInt8) (h:(l.takeWhile p).length<l.length),p l[(l.takeWhile p).length]=false
 | [],h=>by simp at h
 | c :: l,h=>by
  cases hc:p c with
  | true =>
   have e:(c :: l).takeWhile p=c :: l.takeWhile p:=by rw[List.takeWhile_cons,if_pos hc]
   have h':(l.takeWhile p).length<l.length:=by rw[e]at h;simpa using h
   have:=LK p l h';simp only[e,List.length_cons,List.getElem_cons_succ];exact this
  | false =>
   have e:(c :: l).takeWhile p=[]:=by rw[List.takeWhile_cons,if_neg (by simp[hc])]
   simp only[e,List.length_nil,List.getElem_cons_zero];exact hc
theorem LM(p:UInt8->Bool):∀(l:List UInt8),l.take (l.takeWhile p).length=l.takeWhile p
 | []=>by simp
 | c :: l=>by
  have ih:=LM p l;rw[List.takeWhile_cons];split<;>simp[ih]
theorem kU(p:UInt8->Bool)(l:List UInt8)(i:Nat)(h:i<=l.length):i+runN p l i<=l.length:=by
 have:=LH p (l.drop i);unfold runN;simp at this ⊢;omega
theorem yg(p:UInt8->Bool)(l:List UInt8)(i k:Nat)(h:k<runN p l i):∃h:i+k<l.length,p l[i+k]=true:=by
 obtain⟨h1,h2⟩:=LJ p (l.drop i) k h;simp only[List.length_drop]at h1;exact⟨by omega,by simpa using h2⟩
theorem rE(p:UInt8->Bool)(l:List UInt8)(i:Nat)(h:i+runN p l i<l.length):p l[i+runN p l i]=false:=by
 have h':((l.drop i).takeWhile p).length<(l.drop i).length:=by unfold runN at h;simp at h ⊢;omega
 have:=LK p (l.drop i) h';simpa [runN] using this
theorem UN(p:UInt8->Bool)(l:List UInt8)(i:Nat):aK l i (runN p l i)=(l.drop i).takeWhile p:=LM p (l.drop i)
theorem LP(p:UInt8->Bool)(l:List UInt8)(i k:Nat)(h1:k<=runN p l i)(h2:∀h:i+k<l.length,p l[i+k]=false):runN p l i=k:=by
 rcases Nat.lt_or_ge k (runN p l i) with h|h
 ·obtain⟨h3,h4⟩:=yg p l i k h;rw[h2 h3]at h4;exact absurd h4 (by simp)
 ·omega
def oJ(n:Int)(c:UInt8):Int:=10*n+((c.toNat:Int)-48)
def aY(l:List UInt8):Int:=l.foldl oJ 0
theorem LQ(l:List UInt8)(c:UInt8):aY (l++[c])=oJ (aY l) c:=by unfold aY;rw[List.foldl_append];rfl
theorem F6:∀(l:List UInt8) (n:Int),0<=n->l.all aN=true->n<=l.foldl oJ n
 | [],n,_,_=>Int.le_refl n
 | c :: l,n,h,hd=>by
  simp only[List.all_cons,Bool.and_eq_true]at hd;have h1:=rD hd.1;have h2:n<=oJ n c:=by unfold oJ;omega
  exact Int.le_trans h2 (F6 l _ (by omega) hd.2)
theorem Ah(l:List UInt8)(hd:l.all aN=true):0<=aY l:=F6 l 0 (by omega) hd
theorem LU(a b:List UInt8)(hd:(a++b).all aN=true):aY a<=aY (a++b):=by
 rw[List.all_append,Bool.and_eq_true]at hd;unfold aY;rw[List.foldl_append];exact F6 b _ (Ah a hd.1) hd.2
def rdNum(l:List UInt8)(i:Nat):Int × Int × Nat :=
 if runN aN l i=0 then(2,0,i)
 else if 1<runN aN l i/\l[i]?=some 48 then(2,0,i)
 else if aY (aK l i (runN aN l i)) > 999999999 then(3,0,i)
 else(0,aY (aK l i (runN aN l i)),i+runN aN l i)
def iO(strict:Bool)(p:List UInt8):Bool:=strict && (p.all aN && (decide (1<p.length) && decide (p[0]?=some 48)))
def aO(strict:Bool)(l:List UInt8)(i:Nat):Int × Nat :=
 if runN aT l i=0 then(2,i)
 else if iO strict (aK l i (runN aT l i))=true then(2,i)
 else if h:l[i+runN aT l i]?=some 46 then aO strict l (i+runN aT l i+1)
 else(0,i+runN aT l i)
termination_by l.length-i
decreasing_by
 have:=(List.getElem?_eq_some_iff.1 h).1;omega
theorem Ai(strict:Bool)(l:List UInt8)(i:Nat):aO strict l i =
 if runN aT l i=0 then(2,i)
 else if iO strict (aK l i (runN aT l i))=true then(2,i)
 else if l[i+runN aT l i]?=some 46 then aO strict l (i+runN aT l i+1)
 else(0,i+runN aT l i):=by
 rw[aO];split
 ·rfl
 ·split
  ·rfl
  ·split<;>rfl
def lI(strict:Bool)(p:List UInt8):Bool:=!p.isEmpty && p.all aT && !iO strict p
def fJ(strict:Bool)(l:List UInt8):Bool:=l.isEmpty || (aV l).all (lI strict)
theorem LV{c:UInt8}(h:aT c=true):c≠46:=by
 intro e;subst e;exact absurd h (by decide)
theorem LW(c:UInt8)(hc:c≠46)(r:List UInt8):∀(q:List UInt8),(∀x∈q,x≠46)->∃t ps,aV (q++c :: r)=(q++c :: t) :: ps
 | [],_=>by
  rw[List.nil_append,rC,if_neg hc]
  cases h:aV r with
  | nil=>exact absurd h (uu r)
  | cons p ps=>exact⟨p,ps,rfl⟩
 | x :: q,h=>by
  obtain⟨t,ps,e⟩:=LW c hc r q (fun y hy=>h y (List.mem_cons_of_mem _ hy));rw[List.cons_append,rC,if_neg (h x (List.mem_cons_self ..)),e];exact⟨t,ps,rfl⟩
theorem UO(l:List UInt8)(i:Nat)(p:UInt8->Bool):l.drop i=aK l i (runN p l i)++l.drop (i+runN p l i):=by
 unfold aK;rw[<-List.drop_drop,List.take_append_drop]
theorem vV(p:UInt8->Bool)(l:List UInt8)(i:Nat):(aK l i (runN p l i)).all p=true:=by
 rw[UN];exact List.all_takeWhile
theorem mP(l:List UInt8)(i k:Nat)(h:i+k<=l.length):(aK l i k).length=k:=by
 unfold aK;simp;omega
theorem UQ(s:Bool)(l:List UInt8):∀(n i:Nat),l.length-i=n->i<=l.length->(aO s l i=(0,l.length)↔(aV (l.drop i)).all (lI s)=true):=by
 intro n
 induction n using Nat.strongRecOn with
 | ind n ih =>
  intro i hn hi;have hle:=kU aT l i hi;have hd:=UO l i aT;have hall:=vV aT l i;have hlen:=mP l i _ hle;have hnd:=fun x (hx:x∈aK l i (runN aT l i))=>LV (List.all_eq_true.1 hall x hx)
  rw[Ai]
  -- what stands behind the run
  rcases Nat.lt_or_ge (i+runN aT l i) l.length with hlt|hge
  ·have hst:=rE aT l i hlt;rw[List.drop_eq_getElem_cons hlt]at hd
   by_cases h46:l[i+runN aT l i]=46
   ·rw[h46]at hd;have hsp:aV (l.drop i)=aK l i (runN aT l i) :: aV (l.drop (i+runN aT l i+1)):=by
     rw[hd];exact Ae _ _ hnd
    have hg:l[i+runN aT l i]?=some 46:=by rw[List.getElem?_eq_getElem hlt,h46]
    rw[hsp,List.all_cons,Bool.and_eq_true]
    by_cases h0:runN aT l i=0
    ·rw[if_pos h0];have:aK l i (runN aT l i)=[]:=List.length_eq_zero_iff.1 (by omega);rw[this];constructor
     ·intro h;simp at h
     ·rintro⟨h,_⟩;simp[lI]at h
    ·rw[if_neg h0]
     by_cases hb:iO s (aK l i (runN aT l i))=true
     ·rw[if_pos hb];constructor
      ·intro h;simp at h
      ·rintro⟨h,_⟩;simp[lI,hb]at h
     ·rw[if_neg hb,if_pos hg];have hok:lI s (aK l i (runN aT l i))=true:=by
       have h1:(aK l i (runN aT l i)).isEmpty=false:=by
        cases h:aK l i (runN aT l i) with
        | nil=>rw[h]at hlen;simp at hlen;omega
        | cons c r=>rfl
       have h2:iO s (aK l i (runN aT l i))=false:=by simpa using hb
       simp[lI,h1,hall,h2]
      rw[ih (l.length-(i+runN aT l i+1)) (by omega) (i+runN aT l i+1) rfl (by omega)];simp[hok]
   ·obtain⟨t,ps,e⟩:=LW _ h46 (l.drop (i+runN aT l i+1)) _ hnd;rw[<-hd]at e;have hbad:lI s (aK l i (runN aT l i)++l[i+runN aT l i] :: t)=false:=by
     unfold lI;rw[List.all_append,List.all_cons,hst];simp
    have hg:¬l[i+runN aT l i]?=some 46:=by
     rw[List.getElem?_eq_getElem hlt];simpa using h46
    rw[e,List.all_cons,hbad,if_neg hg];have hne:¬i+runN aT l i=l.length:=by omega
    by_cases h0:runN aT l i=0
    ·rw[if_pos h0];simp
    ·rw[if_neg h0];split<;>simp[hne]
  ·have hn0:=List.drop_of_length_le hge;rw[hn0,List.append_nil]at hd;have hsp:aV (l.drop i)=[aK l i (runN aT l i)]:=by
    rw[hd];exact Ad _ hnd
   have hg:¬l[i+runN aT l i]?=some 46:=by
    rw[List.getElem?_eq_none hge];simp
   rw[hsp,List.all_cons,List.all_nil,Bool.and_true,if_neg hg];have heq:i+runN aT l i=l.length:=by omega
   by_cases h0:runN aT l i=0
   ·rw[if_pos h0];have:aK l i (runN aT l i)=[]:=List.length_eq_zero_iff.1 (by omega);rw[this];simp[lI]
   ·rw[if_neg h0];have h1:(aK l i (runN aT l i)).isEmpty=false:=by
     cases h:aK l i (runN aT l i) with
     | nil=>rw[h]at hlen;simp at hlen;omega
     | cons c r=>rfl
    by_cases hb:iO s (aK l i (runN aT l i))=true
    ·rw[if_pos hb];simp[lI,hb]
    ·rw[if_neg hb];have h2:iO s (aK l i (runN aT l i))=false:=by simpa using hb
     simp[lI,h1,hall,h2,heq]
theorem UR(s:Bool)(l:List UInt8)(h:l≠[]):decide (aO s l 0=(0,l.length))=fJ s l:=by
 have e:=UQ s l _ 0 rfl (Nat.zero_le _);rw[List.drop_zero]at e;have h1:l.isEmpty=false:=by simpa using h
 unfold fJ;rw[h1,Bool.false_or,Bool.eq_iff_iff];simp only[decide_eq_true_eq];exact e
theorem UT(u:Nat)(h:u<10):(UInt8.ofNat (48+u)).toNat=48+u:=by
 show(48+u) % 256=48+u;omega
theorem UU(l:List UInt8)(hne:l≠[])(hd:l.all aN=true)(hz:¬(1<l.length/\l[0]?=some 48)):Lib.decDigits (aY l).toNat=l:=by
 -- the last digit off
 have key:∀(n:Nat) (l:List UInt8),l.length=n->l≠[]->l.all aN=true->¬(1<l.length/\l[0]?=some 48)->Lib.decDigits (aY l).toNat=l/\(1<l.length->0<aY l.dropLast):=by
  intro n
  induction n with
  | zero=>intro l hl hne;exact absurd (List.length_eq_zero_iff.1 hl) hne
  | succ n ih =>
   intro l hl hne hd hz;obtain⟨q,c,rfl⟩:∃q c,l=q++[c]:=⟨l.dropLast,l.getLast hne,(List.dropLast_concat_getLast hne).symm⟩;have hd':=hd;rw[List.all_append,Bool.and_eq_true]at hd';have hc:=rD (show aN c=true by simpa using hd'.2);have hcv:UInt8.ofNat (48+(c.toNat - 48))=c:=by
    apply UInt8.toNat_inj.1;rw[UT _ (by omega)];omega
   rw[List.dropLast_concat]
   by_cases hq:q=[]
   ·subst hq;refine⟨?_,by simp⟩;have hv:aY ([]++[c])=(c.toNat:Int)-48:=by show oJ 0 c=_;unfold oJ;omega
    have hn:((c.toNat:Int)-48).toNat=c.toNat - 48:=by omega
    rw[hv,hn,Lib.decDigits_one (by omega),hcv];rfl
   ·have Dq:=List.length_pos_iff.2 hq;have hz1:q[0]?≠some 48:=by
     intro h;refine hz ⟨by simp;omega,?_⟩;rw[List.getElem?_append_left Dq];exact h
    have hlen:q.length=n:=by simp at hl;exact hl
    have h1:=ih q hlen hq hd'.1 (fun h=>hz1 h.2);have hpos:0<aY q:=by
     rcases Nat.lt_or_ge 1 q.length with hgt|hle
     ·have h2:=h1.2 hgt;have:aY q.dropLast<=aY q:=by
       conv=>rhs;rw[<-List.dropLast_concat_getLast hq]
       exact LU _ _ (by rw[List.dropLast_concat_getLast hq];exact hd'.1)
      omega
     ·obtain⟨x,rfl⟩:∃x,q=[x]:=List.length_eq_one_iff.1 (by omega);have hx:=rD (show aN x=true by simpa using hd'.1);have hx0:x.toNat≠48:=fun hh=>hz1 (by
       have:x=48:=UInt8.toNat_inj.1 hh;rw[this];rfl)
      show 0<oJ 0 x;unfold oJ;omega
    refine⟨?_,fun _=>hpos⟩;rw[LQ];have hv:(oJ (aY q) c).toNat=10*(aY q).toNat+(c.toNat - 48):=by unfold oJ;omega
    rw[hv,Lib.decDigits,dif_neg (by omega)];have e1:(10*(aY q).toNat+(c.toNat - 48)) / 10=(aY q).toNat:=by omega
    have e2:(10*(aY q).toNat+(c.toNat - 48)) % 10=c.toNat - 48:=by omega
    rw[e1,e2,h1.1,hcv]
 exact(key _ l rfl hne hd hz).1
theorem UV(l:List UInt8)(i:Nat)(hi:i<=l.length)(h:(rdNum l i).1=0) :
  ∃k,0<k/\i+k<=l.length/\(rdNum l i).2.2=i+k/\aK l i k=Lib.decDigits (rdNum l i).2.1.toNat/\0<=(rdNum l i).2.1/\(rdNum l i).2.1<=999999999:=by
 have hle:=kU aN l i hi;have hall:=vV aN l i;have hlen:=mP l i _ hle;unfold rdNum at h ⊢
 by_cases h0:runN aN l i=0
 ·rw[if_pos h0]at h;simp at h
 ·rw[if_neg h0]at h ⊢
  by_cases hz:1<runN aN l i/\l[i]?=some 48
  ·rw[if_pos hz]at h;simp at h
  ·rw[if_neg hz]at h ⊢
   by_cases hv:aY (aK l i (runN aN l i)) > 999999999
   ·rw[if_pos hv]at h;simp at h
   ·rw[if_neg hv];refine⟨runN aN l i,by omega,hle,rfl,?_,Ah _ hall,Int.not_lt.1 hv⟩;have hne:aK l i (runN aN l i)≠[]:=fun e=>by rw[e]at hlen;simp at hlen;omega
    have h48:(aK l i (runN aN l i))[0]?=l[i]?:=by
     unfold aK;rw[List.getElem?_take_of_lt (by omega),List.getElem?_drop];rfl
    rw[UU _ hne hall (by rw[hlen,h48];exact hz)]
theorem UW(l:List UInt8)(i k j:Nat)(hk:i+k<j)(hj:j<=l.length)(h46:l[i+k]?=some 46) :
  aK l i (j-i)=aK l i k++46 :: aK l (i+k+1) (j-(i+k+1)):=by
 unfold aK;obtain⟨hlt,e⟩:=List.getElem?_eq_some_iff.1 h46;have h1:j-i=k+((j-(i+k+1))+1):=by omega
 rw[h1,List.take_add,List.drop_drop,List.drop_eq_getElem_cons hlt,List.take_succ_cons,e]
theorem yh(s:Bool)(l:List UInt8):∀(n i:Nat),l.length-i=n->i<=l.length->(aO s l i).1=0 →
  i<(aO s l i).2/\(aO s l i).2<=l.length/\(aV (aK l i ((aO s l i).2-i))).all (lI s)=true:=by
 intro n
 induction n using Nat.strongRecOn with
 | ind n ih =>
  intro i hn hi h;have hle:=kU aT l i hi;have hall:=vV aT l i;have hlen:=mP l i _ hle;have hnd:=fun x (hx:x∈aK l i (runN aT l i))=>LV (List.all_eq_true.1 hall x hx)
  rw[Ai]at h ⊢
  by_cases h0:runN aT l i=0
  ·rw[if_pos h0]at h;simp at h
  ·rw[if_neg h0]at h ⊢
   by_cases hb:iO s (aK l i (runN aT l i))=true
   ·rw[if_pos hb]at h;simp at h
   ·rw[if_neg hb]at h ⊢;have hok:lI s (aK l i (runN aT l i))=true:=by
     have h1:(aK l i (runN aT l i)).isEmpty=false:=by
      cases h:aK l i (runN aT l i) with
      | nil=>rw[h]at hlen;simp at hlen;omega
      | cons c r=>rfl
     have h2:iO s (aK l i (runN aT l i))=false:=by simpa using hb
     simp[lI,h1,hall,h2]
    by_cases hg:l[i+runN aT l i]?=some 46
    ·rw[if_pos hg]at h ⊢;have hlt:=(List.getElem?_eq_some_iff.1 hg).1;obtain⟨g1,g2,g3⟩:=ih (l.length-(i+runN aT l i+1)) (by omega) (i+runN aT l i+1) rfl (by omega) h;refine⟨by omega,g2,?_⟩;rw[UW l i (runN aT l i) _ (by omega) g2 hg,Ae _ _ hnd,List.all_cons,hok,g3];rfl
    ·rw[if_neg hg];refine⟨by simp only;omega,hle,?_⟩;simp only;rw[show i+runN aT l i-i=runN aT l i by omega,Ad _ hnd];simp[hok]
structure Vv where
 major:Int
 minor:Int
 patch:Int
 pre:List UInt8
 build:List UInt8
def zeroV:Vv:=⟨0,0,0,[],[]⟩
def aX(c:UInt8)(s:Bool)(l:List UInt8)(i:Nat):Int × Nat × List UInt8 :=
 if l[i]?=some c then
  (if(aO s l (i+1)).1=0 then(0,(aO s l (i+1)).2,aK l (i+1) ((aO s l (i+1)).2-(i+1))) else((aO s l (i+1)).1,(aO s l (i+1)).2,[]))
 else(0,i,[])
def bQ(l:List UInt8):Int × Nat × Int × Int × Int :=
 if(rdNum l 0).1=0 then
  if l[(rdNum l 0).2.2]?=some 46 then
   if(rdNum l ((rdNum l 0).2.2+1)).1=0 then
    if l[(rdNum l ((rdNum l 0).2.2+1)).2.2]?=some 46 then
     if(rdNum l ((rdNum l ((rdNum l 0).2.2+1)).2.2+1)).1=0 then
      (0,(rdNum l ((rdNum l ((rdNum l 0).2.2+1)).2.2+1)).2.2,(rdNum l 0).2.1,(rdNum l ((rdNum l 0).2.2+1)).2.1,(rdNum l ((rdNum l ((rdNum l 0).2.2+1)).2.2+1)).2.1)
     else((rdNum l ((rdNum l ((rdNum l 0).2.2+1)).2.2+1)).1,(rdNum l ((rdNum l ((rdNum l 0).2.2+1)).2.2+1)).2.2,0,0,0)
    else(2,(rdNum l ((rdNum l 0).2.2+1)).2.2,0,0,0)
   else((rdNum l ((rdNum l 0).2.2+1)).1,(rdNum l ((rdNum l 0).2.2+1)).2.2,0,0,0)
  else(2,(rdNum l 0).2.2,0,0,0)
 else((rdNum l 0).1,(rdNum l 0).2.2,0,0,0)
def dG(l:List UInt8):Int × Nat × Vv :=
 if(bQ l).1=0 then
  if(aX 45 true l (bQ l).2.1).1=0 then
   if(aX 43 false l (aX 45 true l (bQ l).2.1).2.1).1=0 then
    if(aX 43 false l (aX 45 true l (bQ l).2.1).2.1).2.1<l.length then(2,(aX 43 false l (aX 45 true l (bQ l).2.1).2.1).2.1,zeroV)
    else(0,0,⟨(bQ l).2.2.1,(bQ l).2.2.2.1,(bQ l).2.2.2.2,(aX 45 true l (bQ l).2.1).2.2,(aX 43 false l (aX 45 true l (bQ l).2.1).2.1).2.2⟩)
   else((aX 43 false l (aX 45 true l (bQ l).2.1).2.1).1,(aX 43 false l (aX 45 true l (bQ l).2.1).2.1).2.1,zeroV)
  else((aX 45 true l (bQ l).2.1).1,(aX 45 true l (bQ l).2.1).2.1,zeroV)
 else((bQ l).1,(bQ l).2.1,zeroV)
def gG(l:List UInt8):Int × Nat × Vv:=if 100<l.length then(1,0,zeroV) else dG l
def Dt(c:UInt8)(p:List UInt8):List UInt8:=if p=[] then[] else c :: p
def LY(v:Vv):List UInt8:=Lib.itoa v.major++(46 :: (Lib.itoa v.minor++(46 :: (Lib.itoa v.patch++(Dt 45 v.pre++Dt 43 v.build)))))
def bound(n:Int):Bool:=decide (0<=n) && decide (n<=1000000000)
theorem nV{n:Int}:bound n=true↔0<=n/\n<=1000000000:=by unfold bound;simp
def jM(v:Vv):Bool:=bound v.major && (bound v.minor && (bound v.patch && (fJ true v.pre && fJ false v.build)))
theorem UX{n:Int}(h:0<=n):Lib.itoa n=Lib.decDigits n.toNat:=by unfold Lib.itoa;rw[if_neg (by omega)]
theorem UY{s:Bool}{l:List UInt8}(h:fJ s l=true)(hne:l≠[]):(aV l).all (lI s)=true:=by
 have:l.isEmpty=false:=by simpa using hne
 unfold fJ at h;rw[this,Bool.false_or]at h;exact h
theorem LZ{l:List UInt8}{i k:Nat}:l.drop i=aK l i k++l.drop (i+k):=by
 unfold aK;rw[<-List.drop_drop,List.take_append_drop]
theorem drop_cons{l:List UInt8}{i:Nat}{c:UInt8}(h:l[i]?=some c):l.drop i=c :: l.drop (i+1)/\i<l.length:=by
 obtain⟨hlt,e⟩:=List.getElem?_eq_some_iff.1 h;rw[List.drop_eq_getElem_cons hlt,e];exact⟨rfl,hlt⟩
theorem F7(l:List UInt8)(i:Nat)(hi:i<=l.length)(h:(rdNum l i).1=0) :
  (rdNum l i).2.2<=l.length/\l.drop i=Lib.itoa (rdNum l i).2.1++l.drop (rdNum l i).2.2/\0<=(rdNum l i).2.1/\(rdNum l i).2.1<=999999999:=by
 obtain⟨k,h1,h2,h3,h4,h5,h6⟩:=UV l i hi h;refine⟨by omega,?_,h5,h6⟩;rw[UX h5,<-h4,h3];exact LZ
theorem L6(l:List UInt8)(h:(bQ l).1=0) :
  (bQ l).2.1<=l.length/\l=Lib.itoa (bQ l).2.2.1++46 :: (Lib.itoa (bQ l).2.2.2.1++46 :: (Lib.itoa (bQ l).2.2.2.2++l.drop (bQ l).2.1)) ∧
  (0<=(bQ l).2.2.1/\(bQ l).2.2.1<=999999999)/\(0<=(bQ l).2.2.2.1/\(bQ l).2.2.2.1<=999999999)/\(0<=(bQ l).2.2.2.2/\(bQ l).2.2.2.2<=999999999):=by
 unfold bQ at h ⊢;split at h
 ·rename_i e1;split at h
  ·rename_i g1;split at h
   ·rename_i e2;split at h
    ·rename_i g2;split at h
     ·rename_i e3;obtain⟨a1,a2,a3⟩:=F7 l 0 (Nat.zero_le _) e1;obtain⟨c1,c2⟩:=drop_cons g1;obtain⟨b1,b2,b3⟩:=F7 l _ (by omega) e2;obtain⟨c3,c4⟩:=drop_cons g2;obtain⟨d1,d2,d3⟩:=F7 l _ (by omega) e3;simp only[e1,g1,e2,g2,e3,if_true];refine⟨d1,?_,a3,b3,d3⟩;rw[List.drop_zero]at a2;rw[<-d2,<-c3,<-b2,<-c1];exact a2
     ·rename_i e;exact absurd h e
    ·simp at h
   ·rename_i e;exact absurd h e
  ·simp at h
 ·rename_i e;exact absurd h e
theorem L8(c:UInt8)(s:Bool)(l:List UInt8)(i:Nat)(hi:i<=l.length)(h:(aX c s l i).1=0) :
  (aX c s l i).2.1<=l.length/\l.drop i=Dt c (aX c s l i).2.2++l.drop (aX c s l i).2.1/\fJ s (aX c s l i).2.2=true:=by
 unfold aX at h ⊢
 by_cases hc:l[i]?=some c
 ·rw[if_pos hc]at h ⊢;obtain⟨c1,c2⟩:=drop_cons hc
  by_cases h0:(aO s l (i+1)).1=0
  ·rw[if_pos h0];obtain⟨g1,g2,g3⟩:=yh s l _ (i+1) rfl (by omega) h0;have hlen:=mP l (i+1) ((aO s l (i+1)).2-(i+1)) (by omega);have hne:aK l (i+1) ((aO s l (i+1)).2-(i+1))≠[]:=fun e=>by rw[e]at hlen;simp at hlen;omega
   refine⟨g2,?_,?_⟩
   ·simp only;unfold Dt;rw[if_neg hne,c1,List.cons_append];congr 1;have:=@LZ l (i+1) ((aO s l (i+1)).2-(i+1));rw[show i+1+((aO s l (i+1)).2-(i+1))=(aO s l (i+1)).2 by omega]at this;exact this
   ·simp only;unfold fJ;rw[g3,Bool.or_true]
  ·rw[if_neg h0]at h;exact absurd h h0
 ·rw[if_neg hc];exact⟨hi,rfl,rfl⟩
theorem UZ(l:List UInt8)(h:(dG l).1=0):LY (dG l).2.2=l/\jM (dG l).2.2=true:=by
 unfold dG at h ⊢;split at h
 ·rename_i e1;split at h
  ·rename_i e2;split at h
   ·rename_i e3;split at h
    ·simp at h
    ·rename_i e4;obtain⟨a1,a2,a3,a4,a5⟩:=L6 l e1;obtain⟨b1,b2,b3⟩:=L8 45 true l _ a1 e2;obtain⟨c1,c2,c3⟩:=L8 43 false l _ b1 e3;simp only[e1,e2,e3,if_true,if_neg e4];have hend:l.drop (aX 43 false l (aX 45 true l (bQ l).2.1).2.1).2.1=[]:=List.drop_of_length_le (by omega);rw[hend,List.append_nil]at c2;constructor
     ·unfold LY;simp only;rw[<-c2,<-b2];exact a2.symm
     ·simp only[jM,Bool.and_eq_true,nV];exact⟨by omega,by omega,by omega,b3,c3⟩
   ·rename_i e;exact absurd h e
  ·rename_i e;exact absurd h e
 ·rename_i e;exact absurd h e
open Go.RowKit
theorem zN{α:Sort _}(a:α):∃z,a=z:=⟨a,rfl⟩
theorem aA{α:Type _}{xs:Array α}{i:Nat}{v:α}(h:xs[i]?=some v):i<xs.size:=(Array.getElem?_eq_some_iff.1 h).1
theorem ag{w:World}{b:Nat}{cs:Array Value}{T:TypeId}{fr:Nat×Nat}(hb:w.heap[b]?=some (.cells cs T fr))(j:Nat):w.cell? ⟨b,j,none⟩=cs[j]?:=by simp[World.cell?,hb]
def Hd(p:Prop):Prop:=p
theorem ae{p:Prop}(h:p):Hd p:=h
theorem Hd.o{p:Prop}(h:Hd p):p:=h
theorem bD{k:IntKind}{a b:Int}(h:a=b):Ending.returned (.int k a)=.returned (.int k b):=by rw[h]
theorem bn{a b:Bool}(h:a=b):Ending.returned (.bool a)=.returned (.bool b):=by rw[h]
theorem vW(c:UInt8)(w:World):Calls prog 161 #[.int .u8 (c.toNat:Int)] w fun e w'=>e=.returned (.bool (aN c))/\w'=w:=by
 go_enter func161,ntmps161;go_wp2
 all_goals go_ret
 all_goals (refine⟨bn ?_,rfl⟩;rw[Bool.eq_iff_iff];unfold aN;simp;omega)
theorem ak(w:World)(r:Option Nat):w.grownBy w r:=⟨rfl,rfl,rfl,Nat.le_refl _,fun _ _ _=>rfl⟩
theorem aF{w w':World}{r:Option Nat}(h:w.grownBy w' r)(n:Nat):w.grownBy (w'.drewN n) r:=⟨h.os,h.tape,h.output,h.size,h.block⟩
theorem bF{w w':World}{b:Nat}(h:w.grownBy w' (some b))(o:Nat)(v:Value):w.grownBy (w'.setCell ⟨b,o,none⟩ v) (some b):=by
 refine⟨h.os,h.tape,h.output,by simpa [World.setCell] using h.size,fun k hk hne=>?_⟩;rw[<-h.block k hk hne];exact heap_setCell_other w' _ k v (fun e=>hne (by rw[e]))
theorem ah{w w1 w2:World}{r:Option Nat}(h:w.grownBy w1 r)(h':w1.grownBy w2 r):w.grownBy w2 r :=
 ⟨h'.os.trans h.os,h'.tape.trans h.tape,h'.output.trans h.output,Nat.le_trans h.size h'.size,fun k hk hne=>(h'.block k (Nat.lt_of_lt_of_le hk h.size) hne).trans (h.block k hk hne)⟩
theorem iD(s:ByteArray)(i:Nat)(h:i<s.size):s.data.toList[i]?=some s[i]:=by rw[List.getElem?_eq_getElem (by simpa using h)];rfl
theorem pY(s:ByteArray)(i j:Nat)(hi:i<=j)(hj:j<=s.size)(w:World) :
  (Instr.slice 9 (.string s) (some (.int .i64 (i:Int))) (some (.int .i64 (j:Int))) none).run prog w=.ok (.string ⟨(aK s.data.toList i (j-i)).toArray⟩) w:=by
 have h1:(0:Int)<=(i:Int):=by omega
 have h4:(i:Int)<=(j:Int):=by omega
 have h5:(j:Int)<=(s.size:Int):=by omega
 have e:s.extract i j=⟨(aK s.data.toList i (j-i)).toArray⟩:=by
  apply ByteArray.ext;rw[ByteArray.data_extract];apply Array.ext';unfold aK;simp
 rw[<-e];simp[go_sem,underlying9,h1,h4,h5]
open Go.RowKit
theorem yj{w w':World}(h:w.grownBy w' none):Below w.heap.size w w':=⟨h.os,h.tape,h.output,h.size,fun k hk=>h.block k hk (by simp)⟩
theorem cZ{w w':World}{r:Option Nat}(h:w.drew.grownBy w' r):w.grownBy w' r:=⟨h.os,h.tape,h.output,h.size,h.block⟩
theorem au{w w':World}(h:w.grownBy w' none)(o:Obj):w.grownBy (w'.alloc o) none :=
 ⟨h.os,h.tape,h.output,by have:=h.size;simp;omega,fun k hk hn=>by rw[Lib.alloc_old _ _ _ (Nat.lt_of_lt_of_le hk h.size)];exact h.block k hk hn⟩
theorem F8(w:World)(e:TypeId)(s:ByteArray):w.grownBy (Lib.bytesWorld w e s) none :=
 ⟨rfl,rfl,rfl,by rw[Lib.bytesWorld_size];omega,fun k hk _=>Lib.bytesWorld_at_old w e s k hk⟩
theorem bH{w w':World}(h:w.grownBy w' none)(r:Option Nat):w.grownBy w' r:=⟨h.os,h.tape,h.output,h.size,fun k hk _=>h.block k hk (by simp)⟩
theorem Du(s:ByteArray)(w:World)(hs:s.size<2 ^ 62) :
  Calls prog 169 #[.string s] w fun e w'=>e=.returned (.bool (dY s.data.toList))/\w.grownBy w' none:=by
 have kc:=fun(w:World)=>Lib.run_convert_string_bytes (P:=prog) w 9 245 5 s underlying9 underlying245 underlying5
 obtain⟨W,hW⟩:=zN (Lib.bytesWorld w 5 s);have HC:Hd (∀j,(hj:j<s.size)->W.cell? ⟨w.heap.size,j,none⟩=some (.int .u8 (s[j].toNat:Int))):=by
  show ∀j,(hj:j<s.size)->W.cell? ⟨w.heap.size,j,none⟩=some (.int .u8 (s[j].toNat:Int));intro j hj;rw[<-hW,Lib.bytesWorld_cell w _ s j hj];have:s.data.toList.getD j 0=s[j]:=by
   rw[List.getD_eq_getElem?_getD,iD s j hj];rfl
  rw[this]
 have HG:Hd (w.grownBy W none):=by show w.grownBy W none;rw[<-hW];exact F8 w _ s
 have kw:=kc w;rw[hW]at kw;clear kc hW;go_enter func169,ntmps169;go_wp2
 go_loop [8] (fun i=>∃k:Nat,k<=s.size/\i=.int .i64 k/\∀j,(hj:j<s.size)->j<k->aN s[j]=true) (fun i=>s.size-(intOf i).toNat)
 case atStart=>exact⟨0,Nat.zero_le _,rfl,fun j hj h=>absurd h (by omega)⟩
 case round =>
  obtain⟨k,hk,rfl,hp⟩:=hrel;have HP:=ae hp;clear hp
  by_cases hlt:k<s.size
  ·have ck:=HC.o k hlt
   cases hd:aN s[k] with
   | true =>
    go_wp2_with (go_at_call 161;refine(vW _ _).mono ?_;rintro e w' ⟨rfl,rfl⟩)
    go_round
    case rel =>
     refine⟨k+1,by omega,by go_num,fun j hj hjk=>?_⟩
     by_cases hjk':j<k
     ·exact HP.o j hj hjk'
     ·have e:j=k:=by omega
      subst e;exact hd
    case measure=>simp[intOf];omega
   | false =>
    have HN:Hd (dY s.data.toList=false):=by
     show dY s.data.toList=false;unfold dY;have:s.data.toList.all aN=false:=by
      rw[List.all_eq_false];exact⟨s[k],List.mem_of_getElem? (iD s k hlt),by simp[hd]⟩
     rw[this,Bool.and_false]
    go_wp2_with (go_at_call 161;refine(vW _ _).mono ?_;rintro e w' ⟨rfl,rfl⟩);go_ret;exact⟨bn HN.o.symm,HG.o⟩
  ·have hks:k=s.size:=by omega
   have HA:Hd (s.data.toList.all aN=true):=by
    show s.data.toList.all aN=true;rw[List.all_eq_true];intro c hc;obtain⟨j,hj,rfl⟩:=List.getElem_of_mem hc;exact HP.o j (by simpa using hj) (by simp at hj;have:s.size=s.data.size:=rfl;omega)
   clear hks hk;go_wp2;go_ret;refine⟨bn ?_,HG.o⟩;unfold dY;rw[Lib.toList_data,HA.o,Bool.and_true]
theorem U0(s:ByteArray)(k:Nat)(hk:k<=s.size)(w:World) :
  (Instr.slice 9 (.string s) none (some (.int .i64 (k:Int))) none).run prog w=.ok (.string ⟨(s.data.toList.take k).toArray⟩) w:=by
 have h5:(k:Int)<=(s.size:Int):=by omega
 have e:s.extract 0 k=⟨(s.data.toList.take k).toArray⟩:=by
  apply ByteArray.ext;rw[ByteArray.data_extract];apply Array.ext';simp
 rw[<-e];simp[go_sem,underlying9,h5]
theorem F9(s:ByteArray)(k:Nat)(hk:k<=s.size)(w:World) :
  (Instr.slice 9 (.string s) (some (.int .i64 (k:Int))) none none).run prog w=.ok (.string ⟨(s.data.toList.drop k).toArray⟩) w:=by
 have h1:(0:Int)<=(k:Int):=by omega
 have h5:(k:Int)<=(s.size:Int):=by omega
 have e:s.extract k s.size=⟨(s.data.toList.drop k).toArray⟩:=by
  apply ByteArray.ext;rw[ByteArray.data_extract];apply Array.ext';simp;exact List.take_of_length_le (by simp)
 rw[<-e];simp[go_sem,underlying9,h1,h5]
open Go.RowKit
theorem kV(c:UInt8)(w:World):Calls prog 43 #[.int .u8 (c.toNat:Int)] w fun e w'=>e=.returned (.bool (aN c))/\w'=w:=by
 go_enter func43,ntmps43;go_wp2
 all_goals go_ret
 all_goals (refine⟨bn ?_,rfl⟩;rw[Bool.eq_iff_iff];unfold aN;simp;omega)
theorem L9(c:UInt8)(w:World):Calls prog 122 #[.int .u8 (c.toNat:Int)] w fun e w'=>e=.returned (.bool (aT c))/\w'=w:=by
 go_enter func122,ntmps122;go_wp2_with (go_at_call 43;refine(kV _ _).mono ?_;rintro e w' ⟨rfl,rfl⟩)
 all_goals go_ret
 all_goals (refine⟨bn ?_,rfl⟩;rw[Bool.eq_iff_iff];unfold aT;simp_all;try omega)
theorem Gf(s:ByteArray)(w:World)(hs:s.size<2 ^ 62) :
  Calls prog 123 #[.string s] w fun e w'=>e=.returned (.bool (s.data.toList.all aN))/\w'=w:=by
 obtain⟨R,hR⟩:∃R,R=s.data.toList.all aN:=⟨_,rfl⟩;have HR:=ae hR;rw[<-hR];clear hR;go_enter func123,ntmps123;go_wp2
 go_loop [3] (fun i=>∃k:Nat,k<=s.size/\i=.int .i64 k/\∀j,(hj:j<s.size)->j<k->aN s[j]=true) (fun i=>s.size-(intOf i).toNat)
 case atStart=>exact⟨0,Nat.zero_le _,rfl,fun j hj h=>absurd h (by omega)⟩
 case round =>
  obtain⟨k,hk,rfl,hp⟩:=hrel;have HP:=ae hp;clear hp
  by_cases hlt:k<s.size
  ·cases hd:aN s[k] with
   | true =>
    go_wp2_with (go_at_call 43;refine(kV _ _).mono ?_;rintro e w' ⟨rfl,rfl⟩)
    go_round
    case rel =>
     refine⟨k+1,by omega,by go_num,fun j hj hjk=>?_⟩
     by_cases hjk':j<k
     ·exact HP.o j hj hjk'
     ·have e:j=k:=by omega
      subst e;exact hd
    case measure=>simp[intOf];omega
   | false =>
    have HN:Hd (R=false):=by
     show R=false;rw[HR.o,List.all_eq_false];exact⟨s[k],List.mem_of_getElem? (iD s k hlt),by simp[hd]⟩
    go_wp2_with (go_at_call 43;refine(kV _ _).mono ?_;rintro e w' ⟨rfl,rfl⟩);go_ret;exact⟨bn HN.o.symm,rfl⟩
  ·have HN:Hd (R=true):=by
    show R=true;rw[HR.o,List.all_eq_true];intro c hc;obtain⟨j,hj,rfl⟩:=List.getElem_of_mem hc;exact HP.o j (by simpa using hj) (by simp at hj;have:s.size=s.data.size:=rfl;omega)
   clear hk;go_wp2;go_ret;exact⟨bn HN.o.symm,rfl⟩
open Go.RowKit
def St(A:Nat)(a1 a2 a3:Int)(a4 a5:ByteArray)(w:World):Prop:=w.cell? ⟨A,0,none⟩=some (.int .i64 a1)/\w.cell? ⟨A,1,none⟩=some (.int .i64 a2)/\w.cell? ⟨A,2,none⟩=some (.int .i64 a3)/\w.cell? ⟨A,3,none⟩=some (.string a4)/\w.cell? ⟨A,4,none⟩=some (.string a5)
theorem St.grow{A:Nat}{a1 a2 a3:Int}{a4 a5:ByteArray}{w w':World}(h:St A a1 a2 a3 a4 a5 w)(hg:w.grownBy w' none):St A a1 a2 a3 a4 a5 w' :=
 ⟨hg.cell h.1 (by simp),hg.cell h.2.1 (by simp),hg.cell h.2.2.1 (by simp),hg.cell h.2.2.2.1 (by simp),hg.cell h.2.2.2.2 (by simp)⟩
theorem vX{A t:Nat}{a1 a2 a3:Int}{a4 a5:ByteArray}{w:World}(h:w.heap[A]?=some (.cells #[.int .i64 a1,.int .i64 a2,.int .i64 a3,.string a4,.string a5] t (0,0))):St A a1 a2 a3 a4 a5 w :=
 ⟨by rw[Lib.cell_of_heap h];rfl,by rw[Lib.cell_of_heap h];rfl,by rw[Lib.cell_of_heap h];rfl,by rw[Lib.cell_of_heap h];rfl,by rw[Lib.cell_of_heap h];rfl⟩
open Go.RowKit
theorem info9:(prog.info? 9).map (fun i=>(i.zero,i.size,i.bytes))=some (some (.string ⟨#[]⟩),1,16):=by kernel_rfl
def lW(D:List (List UInt8)):List Value:=D.map fun p=>.string ⟨p.toArray⟩
theorem U4(l:List UInt8)(D:List (List UInt8))(f:Nat)(h:aV l=D++aV (l.drop f))(hn:∀j,f<=j->j<l.length->l[j]?≠some 46):aV l=D++[aK l f (l.length-f)]:=by
 rw[h,Ad (l.drop f)]
 ·congr 2;unfold aK;exact(List.take_of_length_le (by simp)).symm
 ·intro c hc e;obtain⟨j,hj,rfl⟩:=List.getElem_of_mem hc;simp only[List.length_drop]at hj;refine hn (f+j) (by omega) (by omega) ?_;rw[<-List.getElem?_drop,List.getElem?_eq_getElem (by simp;omega),e]
theorem U5(l:List UInt8)(D:List (List UInt8))(f i:Nat)(hfi:f<=i)(hi:l[i]?=some 46)(h:aV l=D++aV (l.drop f))(hn:∀j,f<=j->j<i->l[j]?≠some 46):aV l=(D++[aK l f (i-f)])++aV (l.drop (i+1)):=by
 obtain⟨hlt,e⟩:=List.getElem?_eq_some_iff.1 hi;have hd:l.drop f=aK l f (i-f)++46 :: l.drop (i+1):=by
  have h1:l.drop f=aK l f (i-f)++l.drop i:=by
   unfold aK;have:=List.take_append_drop (i-f) (l.drop f);rw[List.drop_drop,show f+(i-f)=i by omega]at this;exact this.symm
  rw[h1,List.drop_eq_getElem_cons hlt,e]
 rw[h,hd,Ae]
 ·simp
 ·intro c hc e;obtain⟨j,hj,rfl⟩:=List.getElem_of_mem hc;have hjl:j<i-f:=by unfold aK at hj;simp at hj;omega
  refine hn (f+j) (by omega) (by omega) ?_;have:(aK l f (i-f))[j]?=some 46:=by rw[List.getElem?_eq_getElem hj,e]
  unfold aK at this;rw[List.getElem?_take_of_lt hjl,List.getElem?_drop]at this;exact this
def U6(l:List UInt8)(w:World)(e:Ending)(w':World):Prop:=∃v,e=.returned v/\w'.ownsRow w.heap.size 9 1 v (aV l).length (lW (aV l))/\Below w.heap.size w w'
theorem U7(s:ByteArray)(w:World)(hs:s.size<=1048576) :
  Calls prog 95 #[.string s] w (U6 s.data.toList w):=by
 obtain⟨i0,hi,hz0,hz1,hzb⟩:=info_parts info9;obtain⟨l,hl⟩:∃l,l=s.data.toList:=⟨_,rfl⟩;have hll:l.length=s.size:=by rw[hl];simp
 rw[<-hl];go_enter func95,ntmps95;go_wp2;go_loopw [3,4,5] (fun vo vf vi wr=>∃(D:List (List UInt8)) (f i:Nat),vf=.int .i64 f/\vi=.int .i64 i/\wr.ownsRow w.heap.size 9 1 vo D.length (lW D)/\Below w.heap.size w wr/\D.length<=i/\f<=s.size+1/\((i<=s.size/\f<=i/\aV l=D++aV (l.drop f)/\∀j,f<=j->j<i->l[j]?≠some 46)\/(i=s.size+1/\D=aV l))) (fun _ _ vi _=>s.size+1-(intOf vi).toNat)
 case atStart=>exact⟨[],0,0,rfl,rfl,World.ownsRow_nil _ _ _ _,Below.refl _ _,Nat.le_refl _,by omega,Or.inl ⟨by omega,Nat.le_refl _,by simp,fun j _ h=>by omega⟩⟩
 case round =>
  obtain⟨D,f,i,rfl,rfl,hrow,hbl,hD,hf,hcase⟩:=hrel;have hzz:=hbl.size
  rcases hcase with⟨hi1,hfi,hsp,hno⟩|⟨hi2,hDe⟩
  ·have jO:Hd (aV l=D++aV (l.drop f)/\∀j,f<=j->j<i->l[j]?≠some 46):=⟨hsp,hno⟩;clear hsp hno
   by_cases hlt:i<s.size
   ·have hne:((i:Int) == (s.size:Int))=false:=by simp;omega
    cases hz:((s[i].toNat:Int) == 46) with
    | true =>
     have hc:l[i]?=some 46:=by
      rw[hl,iD s i hlt];have:s[i]=46:=UInt8.toNat_inj.1 (by have:=eq_of_beq hz;have e46:(46:UInt8).toNat=46:=rfl;omega);rw[this]
     obtain⟨X,hX⟩:∃X:ByteArray,X=⟨(aK l f (i-f)).toArray⟩:=⟨_,rfl⟩;have HN:=ae (U5 l D f i hfi hc jO.o.1 jO.o.2);have HX:Hd (lW (D++[aK l f (i-f)])=lW D++[.string X]):=by
      show lW _=_;rw[hX];simp[lW]
     have sl:∀wx,(Instr.slice 9 (.string s) (some (.int .i64 (f:Int))) (some (.int .i64 (i:Int))) none).run prog wx=.ok (.string X) wx:=fun wx=>by rw[hX,hl];exact pY s f i hfi (by omega) wx
     have HB:Hd (D.length<=i/\i<s.size):=⟨hD,hlt⟩;clear hX hc jO hfi hl;go_wp2_with (first|(at_builtin;refine wpList_append_own _ rfl _ _ 49 rfl w.heap.size 9 i0 (.string ⟨#[]⟩) 1 16 underlying49 hi hz0 hz1 hzb rfl (by decide) _ _ _ rfl (hrow.alloc _) ⟨wr.heap.size,0,none⟩ 1 1 [.string X] rfl rfl (cell_one_new _ _ _) (by simp[Value.oneCell']) (by unfold maxLen;omega) (by omega) (by simp;omega) ?_;intro v' w1 hown' hgrow _));have hb1:=(hbl.alloc hzz _).grown hgrow (by simp;omega) (fun q hq=>(hrow.lt q hq).1);have hB:=HB.o;refine⟨⟨D++[aK l f (i-f)],i+1,i+1,rfl,rfl,by rw[HX.o];simpa using hown',hb1,by simp;omega,by omega,Or.inl ⟨by omega,Nat.le_refl _,HN.o,fun j h1 h2=>by omega⟩⟩,?_⟩;simp[intOf];omega
    | false =>
     have HN:Hd (l[i]?≠some 46):=by
      show l[i]?≠some 46;rw[hl,iD s i hlt];intro e;have e':=Option.some.inj e;rw[e']at hz;exact absurd hz (by decide)
     have HF:Hd (f<=i/\D.length<=i/\f<=s.size+1):=⟨hfi,hD,hf⟩;have HO:=ae hrow;have HB:=ae hbl;clear hfi hD hf hrow hbl hl;go_wp2;go_roundw
     case rel =>
      have hF:=HF.o;refine⟨D,f,i+1,rfl,by go_num,HO.o,HB.o,by omega,hF.2.2,Or.inl ⟨by omega,by omega,jO.o.1,fun j h1 h2=>?_⟩⟩
      by_cases hj:j<i
      ·exact jO.o.2 j h1 hj
      ·have:j=i:=by omega
       rw[this];exact HN.o
     case measure=>simp[intOf];omega
   ·have hie:i=s.size:=by omega
    subst hie;have hne:((s.size:Int) == (s.size:Int))=true:=by simp
    obtain⟨X,hX⟩:∃X:ByteArray,X=⟨(aK l f (s.size-f)).toArray⟩:=⟨_,rfl⟩;have HN:Hd (aV l=D++[aK l f (s.size-f)]):=by
     have:=U4 l D f jO.o.1 (fun j h1 h2=>jO.o.2 j h1 (by omega));rw[hll]at this;exact this
    have HX:Hd (lW (D++[aK l f (s.size-f)])=lW D++[.string X]):=by
     show lW _=_;rw[hX];simp[lW]
    have sl:∀wx,(Instr.slice 9 (.string s) (some (.int .i64 (f:Int))) (some (.int .i64 (s.size:Int))) none).run prog wx=.ok (.string X) wx:=fun wx=>by rw[hX,hl];exact pY s f s.size hfi (by omega) wx
    clear hX jO hfi hl;go_wp2_with (first|(at_builtin;refine wpList_append_own _ rfl _ _ 49 rfl w.heap.size 9 i0 (.string ⟨#[]⟩) 1 16 underlying49 hi hz0 hz1 hzb rfl (by decide) _ _ _ rfl (hrow.alloc _) ⟨wr.heap.size,0,none⟩ 1 1 [.string X] rfl rfl (cell_one_new _ _ _) (by simp[Value.oneCell']) (by unfold maxLen;omega) (by omega) (by simp;omega) ?_;intro v' w1 hown' hgrow _));have hb1:=(hbl.alloc hzz _).grown hgrow (by simp;omega) (fun q hq=>(hrow.lt q hq).1);refine⟨⟨D++[aK l f (s.size-f)],s.size+1,s.size+1,rfl,rfl,by rw[HX.o];simpa using hown',hb1,by simp;omega,by omega,Or.inr ⟨rfl,HN.o.symm⟩⟩,?_⟩;simp[intOf]
  ·have hgt:¬i<=s.size:=by omega
   clear hi2 hll hs;have HO:=ae hrow;have HB:=ae hbl;have U8:=ae hDe;clear hrow hbl hDe hD hf hzz hl;go_wp2;refine bodyPost_ret (results_tmp (t:=2) rfl _ _ _) rfl ⟨u3,rfl,?_,HB.o⟩;rw[<-U8.o];exact HO.o
open Go.RowKit
theorem below_drewN{B:Nat}{a w:World}(h:Below B a w)(n:Nat):Below B a (w.drewN n):=⟨h.os,h.tape,h.output,h.size,h.block⟩
theorem U9{w:World}{base:Nat}{v:Value}{D:List (List UInt8)}(h:w.ownsRow base 9 1 v D.length (lW D))(hne:D≠[]) :
  ∃g cap,v=.slice (some ⟨g,0,none⟩) D.length cap/\base<=g/\g<w.heap.size/\∀j,(hj:j<D.length)->w.cell? ⟨g,j,none⟩=some (.string ⟨D[j].toArray⟩):=by
 have hpos:=List.length_pos_iff.2 hne
 rcases h.2 with⟨_,hz⟩|⟨g,cap,cur,hv,hbg,hg,hnc,hcm,hcs,htake⟩
 ·simp at hz;exact absurd hz hne
 ·refine⟨g,cap,hv,hbg,(Array.getElem?_eq_some_iff.1 hg).1,fun j hj=>?_⟩;have ht:cur.toList.take D.length=lW D:=by simpa using htake
  rw[Lib.cell_of_heap hg];have h1:(lW D)[j]?=some (.string ⟨D[j].toArray⟩):=by unfold lW;rw[List.getElem?_map,List.getElem?_eq_getElem hj];rfl
  rw[<-ht,List.getElem?_take_of_lt hj]at h1;simpa using h1
theorem Md(s:ByteArray)(w:World)(hs:s.size<=1048576) :
  Calls prog 95 #[.string s] w fun e w'=>∃g cap,e=.returned (.slice (some ⟨g,0,none⟩) (aV s.data.toList).length cap)/\w.heap.size<=g/\g<w'.heap.size/\(∀j,(hj:j<(aV s.data.toList).length)->w'.cell? ⟨g,j,none⟩=some (.string ⟨(aV s.data.toList)[j].toArray⟩))/\Below w.heap.size w w':=by
 refine(U7 s w hs).mono ?_;rintro e w' ⟨v,rfl,hrow,hb⟩;obtain⟨g,cap,rfl,h1,h2,h3⟩:=U9 hrow (uu _);exact⟨g,cap,rfl,h1,h2,h3,hb⟩
theorem Aj:∀(l:List UInt8) (p:List UInt8),p∈aV l->p.length<=l.length
 | [],p,h=>by simp[aV]at h;rw[h];exact Nat.le_refl _
 | c :: l,p,h=>by
  rw[rC]at h;split at h
  ·rcases List.mem_cons.1 h with rfl|h
   ·simp
   ·have:=Aj l p h;simp;omega
  ·cases hs:aV l with
   | nil=>exact absurd hs (uu l)
   | cons q qs =>
    rw[hs]at h
    rcases List.mem_cons.1 h with rfl|h
    ·have:=Aj l q (by rw[hs];simp);simp;omega
    ·have:=Aj l p (by rw[hs];simp[h]);simp;omega
theorem Me:∀(l:List UInt8),(aV l).length<=l.length+1
 | []=>by simp[aV]
 | c :: l=>by
  have ih:=Me l;rw[rC];split
  ·simp;exact ih
  ·cases hs:aV l with
   | nil=>exact absurd hs (uu l)
   | cons q qs=>rw[hs]at ih;simp at ih ⊢;omega
theorem Ak(a:V):aB a a=0:=vU.self a
theorem eH(a b:V):aB b a=- aB a b:=vU.anti a b
theorem oK{a b d:V}(h1:aB a b<=0)(h2:aB b d<=0):aB a d<=0:=(vU.trans a b d h1 h2).1
theorem yt{a b d:V}(h1:aB a b<0)(h2:aB b d<=0):aB a d<0:=by
 have h:=vU.trans a b d (by omega) h2;have:aB a d≠0:=fun e=>by have:=h.2.2 e;omega
 omega
theorem Am{a b d:V}(h1:aB a b<=0)(h2:aB b d<0):aB a d<0:=by
 have h:=vU.trans a b d h1 (by omega);have:aB a d≠0:=fun e=>by have:=h.2.2 e;omega
 omega
theorem Ap{a b d:V}(h1:aB a b<0)(h2:aB b d<0):aB a d<0:=yt h1 (by omega)
def rF(h:V->Bool):Bool->List V->List V
 | _,[]=>[]
 | on,p :: ps=>if h p=on then rF h on ps else p :: rF h (h p) ps
def rG(l:List V):Prop:=l.Pairwise fun a b=>aB a b<0
structure Ed where
 at_:V
 l:Nat
 d:Int
def upd(b:Nat->Int)(l:Nat)(d:Int):Nat->Int:=fun j=>if j=l then b j+d else b j
def tot:List Ed->Nat->Int
 | [],_=>0
 | e :: r,j=>(if j=e.l then e.d else 0)+tot r j
def eY:List Ed->Nat->V->Int
 | [],_,_=>0
 | e :: r,j,x=>(if j=e.l/\aB e.at_ x<=0 then e.d else 0)+eY r j x
def kW(e:Ed):List Ed->Bool
 | []=>false
 | e' :: _=>decide (aB e.at_ e'.at_=0)
def eP(wt:(Nat->Int)->Bool):(Nat->Int)->Bool->List Ed->List V
 | _,_,[]=>[]
 | b,on,e :: r =>
  if kW e r=true then eP wt (upd b e.l e.d) on r
  else if wt (upd b e.l e.d)=on then eP wt (upd b e.l e.d) on r
  else e.at_ :: eP wt (upd b e.l e.d) (wt (upd b e.l e.d)) r
def jd:List Ed->List V
 | []=>[]
 | e :: r=>if kW e r=true then jd r else e.at_ :: jd r
def nY(E:List Ed):Prop:=E.Pairwise fun a b=>aB a.at_ b.at_<=0
theorem Va(A B:List Ed)(j:Nat):tot (A++B) j=tot A j+tot B j:=by
 induction A with
 | nil=>simp[tot]
 | cons e A ih=>simp only[List.cons_append,tot,ih];omega
theorem Gg(A B:List Ed)(j:Nat)(x:V):eY (A++B) j x=eY A j x+eY B j x:=by
 induction A with
 | nil=>simp[eY]
 | cons e A ih=>simp only[List.cons_append,eY,ih];omega
theorem Vb(A:List Ed)(j:Nat)(x:V)(h:∀e∈A,aB e.at_ x<=0):eY A j x=tot A j:=by
 induction A with
 | nil=>rfl
 | cons e A ih =>
  have he:=h e (by simp);simp only[eY,tot,ih (fun e' h'=>h e' (by simp[h'])),he,and_true]
theorem MB(A:List Ed)(j:Nat)(x:V)(h:∀e∈A,¬aB e.at_ x<=0):eY A j x=0:=by
 induction A with
 | nil=>rfl
 | cons e A ih =>
  have he:=h e (by simp);simp only[eY,ih (fun e' h'=>h e' (by simp[h'])),he,and_false,if_false];omega
theorem Vd(A:List Ed)(j:Nat)(x y:V)(h:∀e∈A,aB e.at_ x<=0↔aB e.at_ y<=0):eY A j x=eY A j y:=by
 induction A with
 | nil=>rfl
 | cons e A ih =>
  have he:=h e (by simp);simp only[eY,ih (fun e' h'=>h e' (by simp[h'])),he]
theorem MC{e:Ed}{r:List Ed}(hs:nY (e :: r))(hn:¬kW e r=true):∀e'∈r,aB e.at_ e'.at_<0:=by
 cases r with
 | nil=>intro e' h;simp at h
 | cons f r =>
  have h1:=(List.pairwise_cons.1 hs).1;have h2:=(List.pairwise_cons.1 (List.pairwise_cons.1 hs).2).1;have hf:aB e.at_ f.at_<0:=by
   have a1:=h1 f (by simp);have a2:aB e.at_ f.at_≠0:=fun e0=>hn (by simp[kW,e0])
   omega
  intro e' he'
  rcases List.mem_cons.1 he' with rfl|he'
  ·exact hf
  ·exact yt hf (h2 e' he')
theorem Dv(wt:(Nat->Int)->Bool)(E:List Ed)(h:V->Bool)(hh:∀x,h x=wt (fun j=>eY E j x))(hs:nY E) :
  ∀(r pre:List Ed) (on:Bool),E=pre++r->eP wt (fun j=>tot pre j) on r=rF h on (jd r)
 | [],pre,on,hE=>rfl
 | e :: r,pre,on,hE=>by
  have hE':E=(pre++[e])++r:=by rw[hE];simp
  have hb:upd (fun j=>tot pre j) e.l e.d=fun j=>tot (pre++[e]) j:=by
   funext j;rw[Va];unfold upd
   by_cases hj:j=e.l
   ·simp[tot,hj]
   ·simp[tot,hj]
  have ih:=fun on=>Dv wt E h hh hs r (pre++[e]) on hE'
  unfold eP jd;rw[hb]
  by_cases hn:kW e r=true
  ·rw[if_pos hn,if_pos hn];exact ih on
  ·rw[if_neg hn,if_neg hn];have hw:wt (fun j=>tot (pre++[e]) j)=h e.at_:=by
    rw[hh];congr 1;funext j;rw[hE',Gg];have Dw:nY (e :: r):=by rw[hE]at hs;exact(List.pairwise_append.1 hs).2.1
    have hpre:∀e'∈pre++[e],aB e'.at_ e.at_<=0:=by
     intro e' he'
     rcases List.mem_append.1 he' with h1|h1
     ·rw[hE]at hs;exact(List.pairwise_append.1 hs).2.2 e' h1 e (by simp)
     ·simp at h1;rw[h1,Ak];omega
    have hr:=MC Dw hn;rw[Vb _ j _ hpre,MB r j _ (fun e' he'=>by have:=hr e' he';have:=eH e.at_ e'.at_;omega)];omega
   rw[hw];unfold rF
   by_cases ho:h e.at_=on
   ·rw[if_pos ho,if_pos ho];exact ih on
   ·rw[if_neg ho,if_neg ho,ih]
theorem Gh(E:List Ed)(hs:nY E):(∀p∈jd E,∃e∈E,e.at_=p)/\(∀e∈E,∃p∈jd E,aB e.at_ p=0):=by
 induction E with
 | nil=>exact⟨by simp[jd],by simp⟩
 | cons e r ih =>
  obtain⟨i1,i2⟩:=ih (List.pairwise_cons.1 hs).2;unfold jd
  by_cases hn:kW e r=true
  ·rw[if_pos hn];refine⟨fun p hp=>?_,fun e' he'=>?_⟩
   ·obtain⟨e',h1,h2⟩:=i1 p hp;exact⟨e',by simp[h1],h2⟩
   ·rcases List.mem_cons.1 he' with rfl|he'
    ·cases r with
     | nil=>simp[kW]at hn
     | cons f r =>
      have hf:aB e'.at_ f.at_=0:=by simpa [kW] using hn
      obtain⟨p,hp,h0⟩:=i2 f (by simp);exact⟨p,hp,by have:=(vU.trans e'.at_ f.at_ p (by omega) (by omega)).2.1 ⟨hf,h0⟩;exact this⟩
    ·exact i2 e' he'
  ·rw[if_neg hn];refine⟨fun p hp=>?_,fun e' he'=>?_⟩
   ·rcases List.mem_cons.1 hp with rfl|hp
    ·exact⟨e,by simp,rfl⟩
    ·obtain⟨e',h1,h2⟩:=i1 p hp;exact⟨e',by simp[h1],h2⟩
   ·rcases List.mem_cons.1 he' with rfl|he'
    ·exact⟨e'.at_,by simp,Ak _⟩
    ·obtain⟨p,hp,h0⟩:=i2 e' he';exact⟨p,by simp[hp],h0⟩
theorem Gi(E:List Ed)(hs:nY E):rG (jd E):=by
 induction E with
 | nil=>exact List.Pairwise.nil
 | cons e r ih =>
  have hr:=(List.pairwise_cons.1 hs).2;unfold jd
  by_cases hn:kW e r=true
  ·rw[if_pos hn];exact ih hr
  ·rw[if_neg hn];refine List.pairwise_cons.2 ⟨fun p hp=>?_,ih hr⟩;obtain⟨e',h1,rfl⟩:=(Gh r hr).1 p hp;exact MC hs hn e' h1
structure Sg where
 fr:V
 to_:V
 op:Bool
def jk(s:Sg)(x:V):Bool:=decide (aB s.fr x<=0) && (s.op || decide (aB x s.to_<0))
def yu(l:List Sg)(x:V):Bool:=l.any fun s=>jk s x
def yw(k:Nat)(s:Sg):List Ed:=if s.op=true then[⟨s.fr,k,1⟩] else if aB s.fr s.to_<0 then[⟨s.fr,k,1⟩,⟨s.to_,k,-1⟩] else[]
def uw:Nat->List (List Sg)->List Ed
 | _,[]=>[]
 | k,l :: Ls=>l.flatMap (yw k)++uw (k+1) Ls
def cnt(l:List Sg)(x:V):Int:=(l.countP fun s=>jk s x:Nat)
theorem Ve(k j:Nat)(s:Sg)(x:V):eY (yw k s) j x=if j=k then(if jk s x=true then 1 else 0) else 0:=by
 unfold yw jk
 by_cases ho:s.op=true
 ·rw[if_pos ho,ho];simp only[eY,Bool.true_or,Bool.and_true,decide_eq_true_eq]
  by_cases hj:j=k<;>simp[hj]
 ·have ho':s.op=false:=by simpa using ho
  rw[if_neg ho,ho'];simp only[Bool.false_or,Bool.and_eq_true,decide_eq_true_eq];have ha:=eH x s.to_
  by_cases hlt:aB s.fr s.to_<0
  ·rw[if_pos hlt];simp only[eY]
   by_cases hj:j=k
   ·simp only[hj,true_and,if_true]
    by_cases h1:aB s.fr x<=0
    ·by_cases h2:aB x s.to_<0
     ·have h3:¬aB s.to_ x<=0:=by omega
      simp[h1,h2,h3]
     ·have h3:aB s.to_ x<=0:=by omega
      simp[h1,h2,h3]
    ·have h3:¬aB s.to_ x<=0:=fun h=>h1 (by have:=yt hlt h;omega)
     simp[h1,h3]
   ·simp[hj]
  ·rw[if_neg hlt];simp only[eY];have:¬(aB s.fr x<=0/\aB x s.to_<0):=fun h=>hlt (Am h.1 h.2)
   rw[if_neg this];simp
theorem Vf(k j:Nat)(l:List Sg)(x:V):eY (l.flatMap (yw k)) j x=if j=k then cnt l x else 0:=by
 induction l with
 | nil=>simp[eY,cnt]
 | cons s l ih =>
  rw[List.flatMap_cons,Gg,ih,Ve];unfold cnt;rw[List.countP_cons]
  by_cases hj:j=k
  ·simp only[hj,if_true]
   by_cases h:jk s x=true<;>simp[h];omega
  ·simp[hj]
theorem MF(x:V):∀(Ls:List (List Sg)) (k j:Nat),eY (uw k Ls) j x=if k<=j then(match Ls[j-k]? with|some l=>cnt l x|none=>0) else 0
 | [],k,j=>by simp[uw,eY]
 | l :: Ls,k,j=>by
  rw[uw,Gg,Vf,MF x Ls (k+1) j]
  by_cases hk:k<=j
  ·by_cases hj:j=k
   ·subst hj;rw[if_pos rfl,if_neg (show ¬j+1<=j by omega),if_pos hk];simp
   ·have h1:k+1<=j:=by omega
    rw[if_neg hj,if_pos h1,if_pos hk,show j-k=(j-(k+1))+1 by omega,List.getElem?_cons_succ];omega
  ·have h1:¬k+1<=j:=by omega
   rw[if_neg (by omega),if_neg h1,if_neg hk];rfl
def having(n:Nat)(b:Nat->Int):Int:=((List.range n).map fun j=>min (b j) 1).sum
theorem Vg{A B:List Ed}(h:A.Perm B)(j:Nat)(x:V):eY A j x=eY B j x:=by
 induction h with
 | nil=>rfl
 | cons e _ ih=>simp only[eY,ih]
 | swap a b l=>simp only[eY];omega
 | trans _ _ ih1 ih2=>exact ih1.trans ih2
theorem Vh(l:List Sg)(x:V):min (cnt l x) 1=if yu l x=true then 1 else 0:=by
 unfold cnt yu
 by_cases h:(l.any fun s=>jk s x)=true
 ·rw[if_pos h];obtain⟨s,hs,hh⟩:=List.any_eq_true.1 h;have:0<l.countP fun s=>jk s x:=List.countP_pos_iff.2 ⟨s,hs,hh⟩
  omega
 ·rw[if_neg h];have:l.countP (fun s=>jk s x)=0:=by
   rw[List.countP_eq_zero];intro s hs hh;exact h (List.any_eq_true.2 ⟨s,hs,hh⟩)
  omega
def oL(Ls:List (List Sg))(x:V):Int:=(Ls.map fun l=>if yu l x=true then(1:Int) else 0).sum
theorem Dx(Ls:List (List Sg))(E:List Ed)(hE:E.Perm (uw 0 Ls))(x:V):having Ls.length (fun j=>eY E j x)=oL Ls x:=by
 unfold having oL;have:(List.range Ls.length).map (fun j=>min (eY E j x) 1)=Ls.map fun l=>if yu l x=true then(1:Int) else 0:=by
  apply List.ext_getElem
  ·simp
  ·intro i h1 h2;have hi:i<Ls.length:=by simpa using h2
   rw[List.getElem_map,List.getElem_range,List.getElem_map,Vg hE,MF,if_pos (Nat.zero_le _)];simp only[Nat.sub_zero,List.getElem?_eq_getElem hi];exact Vh _ _
 rw[this]
open Go.RowKit
def VX(v:Nat)(y1 y2 y3:Int)(x4 x5:ByteArray)(w:World):Prop:=w.heap[v]?=some (.cells #[.int .i64 y1,.int .i64 y2,.int .i64 y3,.string x4,.string x5] 109 (0,0))
theorem VX.cells{v:Nat}{y1 y2 y3:Int}{x4 x5:ByteArray}{w:World}(h:VX v y1 y2 y3 x4 x5 w):w.cell? ⟨v,0,none⟩=some (.int .i64 y1)/\w.cell? ⟨v,1,none⟩=some (.int .i64 y2)/\w.cell? ⟨v,2,none⟩=some (.int .i64 y3)/\w.cell? ⟨v,3,none⟩=some (.string x4)/\w.cell? ⟨v,4,none⟩=some (.string x5) :=
 ⟨by rw[Lib.cell_of_heap h];rfl,by rw[Lib.cell_of_heap h];rfl,by rw[Lib.cell_of_heap h];rfl,by rw[Lib.cell_of_heap h];rfl,by rw[Lib.cell_of_heap h];rfl⟩
theorem VX.f{v:Nat}{y1 y2 y3:Int}{x4 x5:ByteArray}{w:World}(h:VX v y1 y2 y3 x4 x5 w)(o:Nat):w.frozen? ⟨v,o,none⟩=false:=Lib.frozen_of_heap h o
theorem VX.grow{b v:Nat}{y1 y2 y3:Int}{x4 x5:ByteArray}{w w':World}(h:VX v y1 y2 y3 x4 x5 w)(hg:w.grownBy w' (some b))(hn:v≠b):VX v y1 y2 y3 x4 x5 w':=by
 unfold VX at h ⊢;rw[hg.block v ((Array.getElem?_eq_some_iff.1 h).1) (by simpa using hn)];exact h
theorem VX.set3{v:Nat}{y1 y2 y3:Int}{x4 x5:ByteArray}{w:World}(h:VX v y1 y2 y3 x4 x5 w)(z:ByteArray):VX v y1 y2 y3 z x5 (w.setCell ⟨v,3,none⟩ (.string z)):=by
 unfold VX at h ⊢;simp[World.setCell,Array.getElem?_modify,h]
theorem VX.set4{v:Nat}{y1 y2 y3:Int}{x4 x5:ByteArray}{w:World}(h:VX v y1 y2 y3 x4 x5 w)(z:ByteArray):VX v y1 y2 y3 x4 z (w.setCell ⟨v,4,none⟩ (.string z)):=by
 unfold VX at h ⊢;simp[World.setCell,Array.getElem?_modify,h]
theorem VX.other{v u:Nat}{y1 y2 y3:Int}{x4 x5:ByteArray}{w:World}(h:VX v y1 y2 y3 x4 x5 w)(hn:v≠u)(o:Nat)(x:Value):VX v y1 y2 y3 x4 x5 (w.setCell ⟨u,o,none⟩ x):=by
 unfold VX at h ⊢;rw[<-h];exact heap_setCell_other w _ v x hn
def rH(w:World)(A:Nat)(y1 y2 y3:Int)(x4 x5:ByteArray):World:=((((w.setCell ⟨A,0,none⟩ (.int .i64 y1)).setCell ⟨A,1,none⟩ (.int .i64 y2)).setCell ⟨A,2,none⟩ (.int .i64 y3)).setCell ⟨A,3,none⟩ (.string x4)).setCell ⟨A,4,none⟩ (.string x5)
theorem Dz{w:World}{A:Nat}{z1 z2 z3:Int}{z4 z5:ByteArray}(h:VX A z1 z2 z3 z4 z5 w)(y1 y2 y3:Int)(x4 x5:ByteArray):VX A y1 y2 y3 x4 x5 (rH w A y1 y2 y3 x4 x5):=by
 unfold VX at h ⊢;unfold rH;simp[World.setCell,Array.getElem?_modify,h]
theorem bi{b A:Nat}{w W:World}(h:w.grownBy W (some b))(hA:w.heap.size<=A)(o:Nat)(x:Value):w.grownBy (W.setCell ⟨A,o,none⟩ x) (some b) :=
 ⟨h.os,h.tape,h.output,by simpa [World.setCell] using h.size,fun k hk hn=>by rw[<-h.block k hk hn];exact heap_setCell_other W _ k x (by simp;omega)⟩
theorem Vj{b A:Nat}{w W:World}(h:w.grownBy W (some b))(hA:w.heap.size<=A)(y1 y2 y3:Int)(x4 x5:ByteArray):w.grownBy (rH W A y1 y2 y3 x4 x5) (some b):=bi (bi (bi (bi (bi h hA _ _) hA _ _) hA _ _) hA _ _) hA _ _
theorem je{P:Program}{fn:Func}{p u:Tmp}{ty:TypeId}(h:fn.results=#[.cell p ty,.tmp u])(tmps:Array Value)(w:World)(g:Nat)(t:TypeId)(cs:Array Value)(fr:Nat × Nat)(d:TypeDesc)
  (hp:tmps.getD p undef=.pointer (some ⟨g,0,none⟩)) (hg:w.heap[g]?=some (.cells cs t fr)) (hu:P.underlying ty=some d) (hd:(match d with | .struct _ | .array _ _=>true|_=>false)=true) (hi:(P.info? ty).map (·.size)=some cs.size) :
  (results fn tmps).run P w=.ok (.tuple #[.agg cs,tmps.getD u undef]) w:=by
 rw[results_cell_tmp h,hp];simp[asAddr,run_loadVar_row w g t ty cs fr d hg hu hd hi,Result.andThen]
theorem nZ{P:Program}{fn:Func}{p u r:Tmp}{ty:TypeId}(h:fn.results=#[.cell p ty,.tmp u,.tmp r])(tmps:Array Value)(w:World)(g:Nat)(t:TypeId)(cs:Array Value)(fr:Nat × Nat)(d:TypeDesc)
  (hp:tmps.getD p undef=.pointer (some ⟨g,0,none⟩)) (hg:w.heap[g]?=some (.cells cs t fr)) (hu:P.underlying ty=some d) (hd:(match d with | .struct _ | .array _ _=>true|_=>false)=true) (hi:(P.info? ty).map (·.size)=some cs.size) :
  (results fn tmps).run P w=.ok (.tuple #[.agg cs,tmps.getD u undef,tmps.getD r undef]) w:=by
 have hp':tmps[p]?.getD undef=.pointer (some ⟨g,0,none⟩):=by simpa using hp
 simp[results,h,Result.andThen,hp',asAddr,run_loadVar_row w g t ty cs fr d hg hu hd hi]
theorem eQ{A:Nat}{w W:World}(h:w.grownBy W none)(hA:w.heap.size<=A)(o:Nat)(x:Value):w.grownBy (W.setCell ⟨A,o,none⟩ x) none :=
 ⟨h.os,h.tape,h.output,by simpa [World.setCell] using h.size,fun k hk hn=>by rw[<-h.block k hk hn];exact heap_setCell_other W _ k x (by simp;omega)⟩
theorem og{A:Nat}{w W:World}(h:w.grownBy W none)(hA:w.heap.size<=A)(y1 y2 y3:Int)(x4 x5:ByteArray):w.grownBy (rH W A y1 y2 y3 x4 x5) none:=eQ (eQ (eQ (eQ (eQ h hA _ _) hA _ _) hA _ _) hA _ _) hA _ _
end Go.Proofs.YtapodndfpecglaaGreatDoor
