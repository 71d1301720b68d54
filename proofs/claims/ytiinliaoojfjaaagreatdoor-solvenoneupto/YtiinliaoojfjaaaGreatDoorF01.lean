import Derived.Lib.Bytealg
import Derived.Lib.TrimByte
import Derived.Lib.Small
import Derived.Lib.ItoaNum
import Derived.Test.YtiinliaoojfjaaaGreatDoorProg
import Derived.WalkKit
import Derived.WalkSpells
import Derived.WalkLawsBesides
import Derived.Deep.QuietTactic
import Derived.BigQuiet
import Derived.Below
import Derived.Lib.ConvBytes
import Derived.Laws.AppendOwn
import Derived.Deep.RegionLaw
import Derived.Deep.AppendLies
set_option linter.all false
set_option maxRecDepth 100000
set_option maxHeartbeats 0
open Go.Proofs.Tryz
namespace Go.Proofs.YtiinliaoojfjaaaGreatDoor
structure Good{α:Type}(c:α->α->Int):Prop where
 rng:∀a b,c a b=-1\/c a b=0\/c a b=1
 anti:∀a b,c b a=- c a b
 trans:∀a b d,c a b<=0->c b d<=0->c a d<=0/\((c a b=0/\c b d=0)↔c a d=0)
theorem Good.self{α:Type}{c:α->α->Int}(h:Good c)(a:α):c a a=0:=by
 have:=h.anti a a;omega
theorem rC{α β:Type}{c:α->α->Int}(h:Good c)(f:β->α):Good (fun a b=>c (f a) (f b)) :=
 ⟨fun a b=>h.rng _ _,fun a b=>h.anti _ _,fun a b d=>h.trans _ _ _⟩
def qG{α:Type}(c d:α->α->Int)(a b:α):Int:=if c a b=0 then d a b else c a b
theorem Ar{α:Type}{c d:α->α->Int}(hc:Good c)(hd:Good d):Good (qG c d):=by
 refine⟨fun a b=>?_,fun a b=>?_,fun x y z=>?_⟩
 ·unfold qG;split
  ·exact hd.rng a b
  ·exact hc.rng a b
 ·have h1:=hc.anti a b;have h2:=hd.anti a b;unfold qG
  by_cases h:c a b=0
  ·rw[if_pos h,if_pos (by omega),h2]
  ·rw[if_neg h,if_neg (by omega),h1]
 ·have h1:=hc.trans x y z;have h2:=hd.trans x y z;have r1:=hc.rng x y;have r2:=hc.rng y z;have r3:=hc.rng x z;have s3:=hd.rng x z;unfold qG;intro p q;split at p<;>split at q
  ·rename_i e1 e2;have e3:=(h1 (by omega) (by omega)).2.1 ⟨e1,e2⟩;rw[if_pos e1,if_pos e2,if_pos e3];exact h2 p q
  ·rename_i e1 e2;have e3:=h1 (by omega) (by omega);have e4:c x z≠0:=fun hh=>e2 (e3.2.2 hh).2
   rw[if_pos e1,if_neg e2,if_neg e4];refine⟨e3.1,?_⟩;constructor
   ·rintro⟨_,h⟩;exact absurd h e2
   ·intro h;exact absurd h e4
  ·rename_i e1 e2;have e3:=h1 (by omega) (by omega);have e4:c x z≠0:=fun hh=>e1 (e3.2.2 hh).1
   rw[if_neg e1,if_pos e2,if_neg e4];refine⟨e3.1,?_⟩;constructor
   ·rintro⟨h,_⟩;exact absurd h e1
   ·intro h;exact absurd h e4
  ·rename_i e1 e2;have e3:=h1 (by omega) (by omega);have e4:c x z≠0:=fun hh=>e1 (e3.2.2 hh).1
   rw[if_neg e1,if_neg e2,if_neg e4];refine⟨e3.1,?_⟩;constructor
   ·rintro⟨h,_⟩;exact absurd h e1
   ·intro h;exact absurd h e4
def dm{α:Type}(c:α->α->Int):List α->List α->Int
 | [],[]=>0
 | [],_ :: _=>-1
 | _ :: _,[]=>1
 | a :: al,b :: bs=>if c a b=0 then dm c al bs else c a b
theorem Qq{α:Type}{c:α->α->Int}(hc:Good c):Good (dm c):=by
 refine⟨fun a=>?_,fun a=>?_,fun x=>?_⟩
 ·induction a with
  | nil=>intro b;cases b<;>simp[dm]
  | cons a al ih =>
   intro b
   cases b with
   | nil=>simp[dm]
   | cons b bs =>
    simp only[dm];split
    ·exact ih bs
    ·exact hc.rng a b
 ·induction a with
  | nil=>intro b;cases b<;>simp[dm]
  | cons a al ih =>
   intro b
   cases b with
   | nil=>simp[dm]
   | cons b bs =>
    have h1:=hc.anti a b;simp only[dm]
    by_cases h:c a b=0
    ·rw[if_pos h,if_pos (by omega),ih]
    ·rw[if_neg h,if_neg (by omega),h1]
 ·induction x with
  | nil =>
   intro y z p q
   cases y with
   | nil=>cases z<;>simp[dm]at q ⊢
   | cons y ys=>cases z with
    | nil=>simp[dm]at q
    | cons z zs=>simp[dm]
  | cons x xs ih =>
   intro y z
   cases y with
   | nil=>intro p;simp[dm]at p
   | cons y ys =>
    cases z with
    | nil=>intro p q;simp[dm]at q
    | cons z zs =>
     have h1:=hc.trans x y z;have h2:=ih ys zs;have r1:=hc.rng x y;have r2:=hc.rng y z;have r3:=hc.rng x z;simp only[dm];intro p q;split at p<;>split at q
     ·rename_i e1 e2;have e3:=(h1 (by omega) (by omega)).2.1 ⟨e1,e2⟩;rw[if_pos e1,if_pos e2,if_pos e3];exact h2 p q
     ·rename_i e1 e2;have e3:=h1 (by omega) (by omega);have e4:c x z≠0:=fun hh=>e2 (e3.2.2 hh).2
      rw[if_pos e1,if_neg e2,if_neg e4];refine⟨e3.1,?_⟩;constructor
      ·rintro⟨_,h⟩;exact absurd h e2
      ·intro h;exact absurd h e4
     ·rename_i e1 e2;have e3:=h1 (by omega) (by omega);have e4:c x z≠0:=fun hh=>e1 (e3.2.2 hh).1
      rw[if_neg e1,if_pos e2,if_neg e4];refine⟨e3.1,?_⟩;constructor
      ·rintro⟨h,_⟩;exact absurd h e1
      ·intro h;exact absurd h e4
     ·rename_i e1 e2;have e3:=h1 (by omega) (by omega);have e4:c x z≠0:=fun hh=>e1 (e3.2.2 hh).1
      rw[if_neg e1,if_neg e2,if_neg e4];refine⟨e3.1,?_⟩;constructor
      ·rintro⟨h,_⟩;exact absurd h e1
      ·intro h;exact absurd h e4
theorem pU:Good Lib.compareInt:=by
 refine⟨fun a b=>?_,fun a b=>?_,fun x y z=>?_⟩
 ·unfold Lib.compareInt;split
  ·simp
  ·split<;>simp
 ·unfold Lib.compareInt;repeat' split
  all_goals omega
 ·unfold Lib.compareInt;repeat' split
  all_goals omega
def Gz(a b:UInt8):Int:=Lib.compareInt a.toNat b.toNat
theorem ZM:Good Gz:=rC pU (fun a:UInt8=>(a.toNat:Int))
theorem Qr:∀a b,Lib.compareBytes a b=dm Gz a b
 | [],[]=>rfl
 | [],_ :: _=>rfl
 | _ :: _,[]=>rfl
 | a :: al,b :: bs=>by
  have ih:=Qr al bs;unfold Lib.compareBytes dm;rw[ih];have eb:Gz a b=if(a.toNat:Int)<b.toNat then -1 else if(a.toNat:Int) > b.toNat then 1 else 0:=rfl;rw[eb]
  by_cases h:a<b
  ·have h':((a.toNat:Int)<b.toNat):=by have:=UInt8.lt_iff_toNat_lt.1 h;omega
   simp[h,h']
  ·by_cases h2:b<a
   ·have h':((b.toNat:Int)<a.toNat):=by have:=UInt8.lt_iff_toNat_lt.1 h2;omega
    have h'':¬((a.toNat:Int)<b.toNat):=by omega
    simp[h,h2,h',h'']
   ·have h':¬((b.toNat:Int)<a.toNat):=by intro hh;exact h2 (UInt8.lt_iff_toNat_lt.2 (by omega))
    have h'':¬((a.toNat:Int)<b.toNat):=by intro hh;exact h (UInt8.lt_iff_toNat_lt.2 (by omega))
    simp[h,h2,h',h'']
theorem Qs:Good Lib.compareBytes:=by
 have e:Lib.compareBytes=dm Gz:=by funext a b;exact Qr a b
 rw[e];exact Qq ZM
def aP(c:UInt8):Bool:=decide (48<=c.toNat) && decide (c.toNat<=57)
def aT(c:UInt8):Bool:=aP c || (decide (65<=c.toNat) && decide (c.toNat<=90)) || (decide (97<=c.toNat) && decide (c.toNat<=122)) || decide (c.toNat=45)
def eH(l:List UInt8):Bool:=!l.isEmpty && l.all aP
def dR(l:List UInt8):List UInt8:=Lib.trimLeftB l 48
def mD(l:List UInt8):Int:=if eH l then 0 else 1
def oH(l:List UInt8):Int:=if eH l then(dR l).length else 0
def bodyT(l:List UInt8):List UInt8:=if eH l then dR l else l
def dS(a b:List UInt8):Int:=qG (fun a b=>Lib.compareInt (mD a) (mD b)) (qG (fun a b=>Lib.compareInt (oH a) (oH b)) (fun a b=>Lib.compareBytes (bodyT a) (bodyT b))) a b
theorem GG:Good dS:=Ar (rC pU mD) (Ar (rC pU oH) (rC Qs bodyT))
def aV:List UInt8->List (List UInt8)
 | []=>[[]]
 | c :: l=>if c=46 then[] :: aV l else match aV l with
  | p :: ps=>(c :: p) :: ps
  | []=>[[c]]
theorem uX(c:UInt8)(l:List UInt8):aV (c :: l)=if c=46 then[] :: aV l else match aV l with
  | p :: ps=>(c :: p) :: ps
  | []=>[[c]]:=by rw[aV]
theorem xq(l:List UInt8):aV l≠[]:=by
 cases l with
 | nil=>simp[aV]
 | cons c l =>
  rw[uX];split
  ·simp
  ·split<;>simp
theorem D6:∀(p:List UInt8),(∀c∈p,c≠46)->aV p=[p]
 | [],_=>rfl
 | c :: p,h=>by
  have ih:=D6 p (fun x hx=>h x (List.mem_cons_of_mem _ hx));rw[uX];rw[if_neg (h c (List.mem_cons_self ..)),ih]
theorem D7:∀(p r:List UInt8),(∀c∈p,c≠46)->aV (p++46 :: r)=p :: aV r
 | [],r,_=>by simp[aV]
 | c :: p,r,h=>by
  have ih:=D7 p r (fun x hx=>h x (List.mem_cons_of_mem _ hx));rw[List.cons_append,uX];rw[if_neg (h c (List.mem_cons_self ..)),ih]
theorem GH:∀(l r:List UInt8),aV (l++46 :: r)=aV l++aV r
 | [],r=>by simp[aV]
 | c :: l,r=>by
  have ih:=GH l r;rw[List.cons_append,uX,uX]
  by_cases h:c=46
  ·rw[if_pos h,if_pos h,ih,List.cons_append]
  ·rw[if_neg h,if_neg h,ih];obtain⟨p,ps,e⟩:∃p ps,aV l=p :: ps:=by
    cases e:aV l with
    | nil=>exact absurd e (xq l)
    | cons p ps=>exact⟨p,ps,rfl⟩
   rw[e];rfl
def lg(a b:List UInt8):Int :=
 qG (fun a b:List UInt8=>Lib.compareInt (if a.isEmpty then 1 else 0) (if b.isEmpty then 1 else 0)) (fun a b=>dm dS (aV a) (aV b)) a b
theorem GI:Good lg:=Ar (rC pU (fun a:List UInt8=>if a.isEmpty then(1:Int) else 0)) (rC (Qq GG) aV)
structure V where
 major:Int
 minor:Int
 patch:Int
 pre:List UInt8
def aB(a b:V):Int:=qG (fun a b=>Lib.compareInt a.major b.major) (qG (fun a b=>Lib.compareInt a.minor b.minor) (qG (fun a b=>Lib.compareInt a.patch b.patch) (fun a b=>lg a.pre b.pre))) a b
theorem xu:Good aB:=Ar (rC pU V.major) (Ar (rC pU V.minor) (Ar (rC pU V.patch) (rC GI V.pre)))
theorem Au{x y:Int}(h:x<y):Lib.compareInt x y=-1:=by unfold Lib.compareInt;rw[if_pos h]
theorem D8{x y:Int}(h:y<x):Lib.compareInt x y=1:=by unfold Lib.compareInt;rw[if_neg (by omega),if_pos h]
theorem cmp_eq(x:Int):Lib.compareInt x x=0:=pU.self x
theorem oI{x y:Int}:Lib.compareInt x y=0↔x=y:=by
 unfold Lib.compareInt;repeat' split
 all_goals omega
theorem D9{x y:Int}:Lib.compareInt x y<=0↔x<=y:=by
 unfold Lib.compareInt;repeat' split
 all_goals omega
theorem JW{α:Type}{c d:α->α->Int}{a b:α}(h1:c a b<=0)(h2:c a b=0->d a b<=0):qG c d a b<=0:=by
 unfold qG;split
 ·exact h2 ‹_›
 ·exact h1
theorem ZN(p:List UInt8):0<=mD p:=by unfold mD;split<;>decide
theorem ZO(p:List UInt8):0<=oH p:=by unfold oH;split<;>omega
theorem ZP:mD [48]=0:=by decide
theorem len0:oH [48]=0:=by decide
theorem ZQ:bodyT [48]=[]:=by decide
theorem Qu(p:List UInt8):dS [48] p<=0:=by
 unfold dS;refine JW ?_ fun h=>JW ?_ fun h2=>?_
 ·show Lib.compareInt (mD [48]) (mD p)<=0;rw[D9,ZP];exact ZN p
 ·show Lib.compareInt (oH [48]) (oH p)<=0;rw[D9,len0];exact ZO p
 ·show Lib.compareBytes (bodyT [48]) (bodyT p)<=0;rw[ZQ]
  cases bodyT p<;>simp[Lib.compareBytes]
theorem Qv(l:List UInt8):lg [48] l<=0:=by
 unfold lg;refine JW ?_ fun h=>?_
 ·show Lib.compareInt 0 _<=0;rw[D9];split<;>decide
 ·show dm dS (aV [48]) (aV l)<=0;have e:aV [48]=[[48]]:=by decide
  rw[e]
  cases h:aV l with
  | nil=>exact absurd h (xq l)
  | cons q qs =>
   unfold dm;split
   ·cases qs<;>simp[dm]
   ·exact Qu q
theorem Qw{α:Type}{c:α->α->Int}(h:Good c)(x:α)(r:List α):∀l,dm c l (l++x :: r)=-1
 | []=>rfl
 | a :: l=>by rw[List.cons_append];unfold dm;rw[if_pos (h.self a)];exact Qw h x r l
theorem Qx:∀(L K:List (List UInt8)),dm dS L K<0->dm dS K (L++[[48]])<0->False
 | [],[],h,_=>by simp[dm]at h
 | [],k :: ks,_,h=>by
  have h1:=GG.anti [48] k;have h2:=Qu k;rw[List.nil_append]at h;unfold dm at h;split at h
  ·cases ks<;>simp[dm]at h
  ·omega
 | a :: L,[],h,_=>by simp[dm]at h
 | a :: L,k :: K,h,h'=>by
  have h1:=GG.anti a k;rw[List.cons_append]at h';unfold dm at h h'
  by_cases e:dS a k=0
  ·rw[if_pos e]at h;rw[if_pos (by omega)]at h';exact Qx L K h h'
  ·rw[if_neg e]at h;rw[if_neg (by omega)]at h';omega
def mF(v:V):V:=if v.pre=[] then⟨v.major,v.minor,if v.patch<4611686018427387904 then v.patch+1 else v.patch,[48]⟩ else⟨v.major,v.minor,v.patch,v.pre++[46,48]⟩
theorem qH(a b:V):aB a b=if Lib.compareInt a.major b.major=0 then(if Lib.compareInt a.minor b.minor=0 then(if Lib.compareInt a.patch b.patch=0 then lg a.pre b.pre else Lib.compareInt a.patch b.patch) else Lib.compareInt a.minor b.minor) else Lib.compareInt a.major b.major:=rfl
theorem Aw(a b:List UInt8):lg a b=if Lib.compareInt (if a.isEmpty then 1 else 0) (if b.isEmpty then 1 else 0)=0 then dm dS (aV a) (aV b) else Lib.compareInt (if a.isEmpty then 1 else 0) (if b.isEmpty then 1 else 0):=rfl
theorem ZR(v:V)(h:v.patch<4611686018427387904):aB v (mF v)=-1:=by
 unfold mF
 by_cases e:v.pre=[]
 ·rw[if_pos e,if_pos h,qH];simp only;have h3:Lib.compareInt v.patch (v.patch+1)=-1:=Au (by omega);rw[if_pos (cmp_eq _),if_pos (cmp_eq _),if_neg (by omega),h3]
 ·rw[if_neg e,qH];simp only;rw[if_pos (cmp_eq _),if_pos (cmp_eq _),if_pos (cmp_eq _),Aw];have e1:v.pre.isEmpty=false:=by simpa using e
  have e2:(v.pre++[46,48]).isEmpty=false:=by simp
  rw[e1,e2,if_pos (cmp_eq _),GH];exact Qw GG [48] [] _
theorem ZT(l:List UInt8):0<=lg [] l:=by
 rw[Aw]
 cases l with
 | nil=>decide
 | cons c l=>exact(by decide:(0:Int)<=Lib.compareInt 1 0)
theorem ZU(v w:V)(h:v.patch<4611686018427387904)(hx:aB v w<0)(hy:aB w (mF v)<0):False:=by
 unfold mF at hy
 by_cases e:v.pre=[]
 ·rw[if_pos e,if_pos h,qH]at hy;rw[qH]at hx;simp only at hy;have a1:=pU.anti v.major w.major;have a2:=pU.anti v.minor w.minor
  by_cases c1:Lib.compareInt v.major w.major=0
  ·rw[if_pos c1]at hx;rw[if_pos (by omega)]at hy
   by_cases c2:Lib.compareInt v.minor w.minor=0
   ·rw[if_pos c2]at hx;rw[if_pos (by omega)]at hy;have p0:=ZT w.pre;rw[e]at hx;have p1:=Qv w.pre;have p2:=GI.anti [48] w.pre
    by_cases c3:Lib.compareInt v.patch w.patch=0
    ·rw[if_pos c3]at hx;omega
    ·rw[if_neg c3]at hx;have l1:v.patch<=w.patch:=D9.1 (by omega);have l2:v.patch≠w.patch:=fun hh=>c3 (oI.2 hh)
     by_cases c4:Lib.compareInt w.patch (v.patch+1)=0
     ·rw[if_pos c4]at hy;omega
     ·rw[if_neg c4]at hy;have l3:w.patch<=v.patch+1:=D9.1 (by omega);have l4:w.patch≠v.patch+1:=fun hh=>c4 (oI.2 hh)
      omega
   ·rw[if_neg c2]at hx;rw[if_neg (by omega)]at hy;omega
  ·rw[if_neg c1]at hx;rw[if_neg (by omega)]at hy;omega
 ·rw[if_neg e,qH]at hy;rw[qH]at hx;simp only at hy;have a1:=pU.anti v.major w.major;have a2:=pU.anti v.minor w.minor;have a3:=pU.anti v.patch w.patch
  by_cases c1:Lib.compareInt v.major w.major=0
  ·rw[if_pos c1]at hx;rw[if_pos (by omega)]at hy
   by_cases c2:Lib.compareInt v.minor w.minor=0
   ·rw[if_pos c2]at hx;rw[if_pos (by omega)]at hy
    by_cases c3:Lib.compareInt v.patch w.patch=0
    ·rw[if_pos c3]at hx;rw[if_pos (by omega)]at hy;have e1:v.pre.isEmpty=false:=by simpa using e
     have e2:(v.pre++[46,48]).isEmpty=false:=by simp
     rw[Aw,e1]at hx;rw[Aw,e2]at hy
     cases hw:w.pre.isEmpty with
     | true =>
      rw[hw]at hy;have hc:Lib.compareInt (if true=true then 1 else 0) (if false=true then 1 else 0)=1:=by decide
      rw[hc]at hy;simp at hy
     | false =>
      rw[hw]at hx hy;rw[if_pos (cmp_eq _)]at hx hy;rw[GH]at hy;exact Qx _ _ hx hy
    ·rw[if_neg c3]at hx;rw[if_neg (by omega)]at hy;omega
   ·rw[if_neg c2]at hx;rw[if_neg (by omega)]at hy;omega
  ·rw[if_neg c1]at hx;rw[if_neg (by omega)]at hy;omega
theorem GK(a b:List UInt8):dS a b=if Lib.compareInt (mD a) (mD b)=0 then(if Lib.compareInt (oH a) (oH b)=0 then Lib.compareBytes (bodyT a) (bodyT b) else Lib.compareInt (oH a) (oH b)) else Lib.compareInt (mD a) (mD b):=rfl
theorem Qy{a b:List UInt8}(ha:eH a=true)(hb:eH b=true):dS a b=if((dR a).length:Int)=(dR b).length then Lib.compareBytes (dR a) (dR b) else Lib.compareInt (dR a).length (dR b).length:=by
 rw[GK];unfold mD oH bodyT;simp only[ha,hb,if_true];rw[if_pos (cmp_eq _)]
 by_cases h:((dR a).length:Int)=(dR b).length
 ·rw[if_pos (oI.2 h),if_pos h]
 ·rw[if_neg (fun hh=>h (oI.1 hh)),if_neg h]
theorem Qz{a b:List UInt8}(ha:eH a=true)(hb:eH b=false):dS a b=-1:=by
 rw[GK];unfold mD;simp[ha,hb,Lib.compareInt]
theorem QA{a b:List UInt8}(ha:eH a=false)(hb:eH b=true):dS a b=1:=by
 rw[GK];unfold mD;simp[ha,hb,Lib.compareInt]
theorem QB{a b:List UInt8}(ha:eH a=false)(hb:eH b=false):dS a b=Lib.compareBytes a b:=by
 rw[GK];unfold mD oH bodyT;simp[ha,hb,Lib.compareInt]
theorem GL:∀(l:List UInt8),(Lib.indexByte l 46=-1/\∀c∈l,c≠46)\/∃k:Nat,Lib.indexByte l 46=k/\k<l.length/\(∀c∈l.take k,c≠46)/\l=l.take k++46 :: l.drop (k+1)
 | []=>Or.inl ⟨rfl,by simp⟩
 | b :: l=>by
  unfold Lib.indexByte
  by_cases hb:b=46
  ·subst hb;right;exact⟨0,by simp,by simp,by simp,by simp⟩
  ·have hb':(b == (46:UInt8))=false:=by simpa using hb
   rw[hb']
   rcases GL l with⟨h1,h2⟩|⟨k,h1,h2,h3,h4⟩
   ·left;refine⟨by rw[h1];rfl,?_⟩;intro c hc
    rcases List.mem_cons.1 hc with rfl|hc
    ·exact hb
    ·exact h2 c hc
   ·right;refine⟨k+1,?_,Nat.succ_lt_succ h2,?_,?_⟩
    ·rw[h1];have:((k:Int) == -1)=false:=by simp
     rw[this];simp
    ·intro c hc;rw[List.take_succ_cons]at hc
     rcases List.mem_cons.1 hc with rfl|hc
     ·exact hb
     ·exact h3 c hc
    ·rw[List.take_succ_cons,List.drop_succ_cons,List.cons_append,<-h4]
def jP(l:List UInt8):List UInt8:=if Lib.indexByte l 46=-1 then l else l.take (Lib.indexByte l 46).toNat
def kN(l:List UInt8):List UInt8:=if Lib.indexByte l 46=-1 then[] else l.drop ((Lib.indexByte l 46).toNat+1)
def jD(l:List UInt8):Bool:=!decide (Lib.indexByte l 46=-1)
theorem JX{l:List UInt8}(h:jD l=false):aV l=[jP l]:=by
 have h':Lib.indexByte l 46=-1:=by simpa [jD] using h
 rcases GL l with⟨h1,h2⟩|⟨k,h1,h2,h3,h4⟩
 ·unfold jP;rw[if_pos h1];exact D6 l h2
 ·omega
theorem GM{l:List UInt8}(h:jD l=true):aV l=jP l :: aV (kN l)/\(kN l).length<l.length:=by
 have h':¬Lib.indexByte l 46=-1:=by simpa [jD] using h
 rcases GL l with⟨h1,h2⟩|⟨k,h1,h2,h3,h4⟩
 ·exact absurd h1 h'
 ·unfold jP kN;rw[if_neg h',if_neg h',h1,Int.toNat_natCast];refine⟨?_,by simp;omega⟩
  conv=>lhs;rw[h4]
  exact D7 _ _ h3
theorem QC(l:List UInt8):(jP l).length<=l.length:=by
 unfold jP;split
 ·exact Nat.le_refl _
 ·simp;omega
theorem QE(l:List UInt8):(kN l).length<=l.length:=by
 unfold kN;split
 ·simp
 ·simp
theorem ZV(a b:List UInt8):dm dS (aV a) (aV b) =
  if dS (jP a) (jP b)=0 then(if jD a=true then(if jD b=true then dm dS (aV (kN a)) (aV (kN b)) else 1) else(if jD b=true then -1 else 0)) else dS (jP a) (jP b):=by
 cases ha:jD a with
 | true =>
  rw[(GM ha).1]
  cases hb:jD b with
  | true=>rw[(GM hb).1];simp[dm]
  | false =>
   rw[JX hb]
   cases hs:aV (kN a) with
   | nil=>exact absurd hs (xq _)
   | cons x xs=>simp[dm]
 | false =>
  rw[JX ha]
  cases hb:jD b with
  | true =>
   rw[(GM hb).1]
   cases hs:aV (kN b) with
   | nil=>exact absurd hs (xq _)
   | cons x xs=>simp[dm]
  | false=>rw[JX hb];simp[dm]
theorem JY(a b:List UInt8)(h:a=[]\/b=[]):lg a b=Lib.compareInt b.length a.length:=by
 rw[Aw]
 rcases h with rfl|rfl
 ·cases b with
  | nil=>decide
  | cons c b =>
   have:Lib.compareInt ((c :: b).length:Nat) (([]:List UInt8).length:Nat)=1:=D8 (by simp);rw[this];simp[Lib.compareInt]
 ·cases a with
  | nil=>decide
  | cons c a =>
   have:Lib.compareInt (([]:List UInt8).length:Nat) ((c :: a).length:Nat)=-1:=Au (by simp);rw[this];simp[Lib.compareInt]
theorem QF(a b:List UInt8)(ha:a≠[])(hb:b≠[]):lg a b=dm dS (aV a) (aV b):=by
 rw[Aw];have h1:a.isEmpty=false:=by simpa using ha
 have h2:b.isEmpty=false:=by simpa using hb
 rw[h1,h2,if_pos (cmp_eq _)]
def gZ:List UInt8->List UInt8
 | c :: d :: l=>if c=48 then gZ (d :: l) else c :: d :: l
 | l=>l
theorem JZ:∀(l:List UInt8),l≠[]->gZ l=if dR l=[] then[48] else dR l
 | [],h=>absurd rfl h
 | [c],_=>by
  unfold gZ dR Lib.trimLeftB
  by_cases h:c=48
  ·subst h;simp
  ·have:(c == (48:UInt8))=false:=by simpa using h
   simp[List.dropWhile,this]
 | c :: d :: l,_=>by
  unfold gZ
  by_cases h:c=48
  ·subst h;rw[if_pos rfl,JZ (d :: l) (by simp)];have e:dR (48 :: d :: l)=dR (d :: l):=by unfold dR Lib.trimLeftB;simp[List.dropWhile]
   rw[e]
  ·rw[if_neg h];have h':(c == (48:UInt8))=false:=by simpa using h
   have e:dR (c :: d :: l)=c :: d :: l:=by unfold dR Lib.trimLeftB;simp[List.dropWhile,h']
   rw[e];simp
theorem QG(l:List UInt8)(c:UInt8)(r:List UInt8)(h:dR l=c :: r):c≠48:=by
 unfold dR Lib.trimLeftB at h;intro hc;subst hc;have:=List.head?_dropWhile_not (p:=fun x:UInt8=>x == 48) (l:=l);rw[h]at this;simp at this
theorem QH(l:List UInt8)(h:l.all aP=true):(dR l).all aP=true:=by
 rw[List.all_eq_true]at h ⊢;intro c hc;exact h c ((List.dropWhile_sublist _).mem hc)
theorem uY{c:UInt8}(h:aP c=true):48<=c.toNat/\c.toNat<=57:=by
 unfold aP at h;simpa using h
theorem QI{a b:List UInt8}(ha:eH a=true)(hb:eH b=true):dS a b=if((gZ a).length:Int)=(gZ b).length then Lib.compareBytes (gZ a) (gZ b) else Lib.compareInt (gZ a).length (gZ b).length:=by
 have ha1:a≠[]/\a.all aP=true:=by simpa [eH] using ha
 have hb1:b≠[]/\b.all aP=true:=by simpa [eH] using hb
 rw[Qy ha hb,JZ a ha1.1,JZ b hb1.1]
 cases h1:dR a with
 | nil =>
  cases h2:dR b with
  | nil=>decide
  | cons d r =>
   have hd:=QG b d r h2;have hd2:=uY (List.all_eq_true.1 (QH b hb1.2) d (by rw[h2];simp));have hlt:(48:UInt8)<d:=by
    rw[UInt8.lt_iff_toNat_lt];have:d.toNat≠48:=fun hh=>hd (UInt8.toNat_inj.1 hh)
    have e:(48:UInt8).toNat=48:=rfl;omega
   have n0:(if([]:List UInt8)=[] then[48] else([]:List UInt8))=[48]:=if_pos rfl;have n1:(if d :: r=[] then[48] else d :: r)=d :: r:=if_neg (by simp);rw[n0,n1];have l0:(([]:List UInt8).length:Int)=0:=rfl;have l1:(([48]:List UInt8).length:Int)=1:=rfl;have hl:((d :: r).length:Int)=r.length+1:=by simp
   rw[l0,l1,hl,if_neg (by omega),Au (show(0:Int)<r.length+1 by omega)]
   by_cases hr:(1:Int)=r.length+1
   ·rw[if_pos hr];simp[Lib.compareBytes,hlt]
   ·rw[if_neg hr,Au];omega
 | cons d r =>
  cases h2:dR b with
  | nil =>
   have hd:=QG a d r h1;have hd2:=uY (List.all_eq_true.1 (QH a ha1.2) d (by rw[h1];simp));have hlt:(48:UInt8)<d:=by
    rw[UInt8.lt_iff_toNat_lt];have:d.toNat≠48:=fun hh=>hd (UInt8.toNat_inj.1 hh)
    have e:(48:UInt8).toNat=48:=rfl;omega
   have hge:¬d<(48:UInt8):=by
    rw[UInt8.lt_iff_toNat_lt];have e:(48:UInt8).toNat=48:=rfl;omega
   have n0:(if([]:List UInt8)=[] then[48] else([]:List UInt8))=[48]:=if_pos rfl;have n1:(if d :: r=[] then[48] else d :: r)=d :: r:=if_neg (by simp);rw[n0,n1];have l0:(([]:List UInt8).length:Int)=0:=rfl;have l1:(([48]:List UInt8).length:Int)=1:=rfl;have hl:((d :: r).length:Int)=r.length+1:=by simp
   rw[l0,l1,hl,if_neg (by omega),D8 (show(0:Int)<r.length+1 by omega)]
   by_cases hr:(r.length:Int)+1=1
   ·rw[if_pos hr];simp[Lib.compareBytes,hlt,hge]
   ·rw[if_neg hr,D8];omega
  | cons e s=>simp
theorem QJ(L M:List (List UInt8))(i:Nat)(h1:¬(i<L.length/\i<M.length))(h2:i<=L.length)(h3:i<=M.length)(h:dm dS L M=dm dS (L.drop i) (M.drop i)) :
  dm dS L M=Lib.compareInt L.length M.length:=by
 rw[h]
 by_cases hL:i=L.length
 ·by_cases hM:i=M.length
  ·rw[List.drop_of_length_le (by omega),List.drop_of_length_le (by omega)];rw[show L.length=M.length by omega,cmp_eq];rfl
  ·rw[List.drop_of_length_le (show L.length<=i by omega),List.drop_eq_getElem_cons (show i<M.length by omega)];rw[Au (by omega)];rfl
 ·have hM:i=M.length:=by omega
  rw[List.drop_of_length_le (show M.length<=i by omega),List.drop_eq_getElem_cons (show i<L.length by omega)];rw[D8 (by omega)];rfl
def runN(p:UInt8->Bool)(l:List UInt8)(i:Nat):Nat:=((l.drop i).takeWhile p).length
def aO(l:List UInt8)(i k:Nat):List UInt8:=(l.drop i).take k
theorem QK(p:UInt8->Bool):∀(l:List UInt8),(l.takeWhile p).length<=l.length
 | []=>by simp
 | c :: l=>by
  have ih:=QK p l;rw[List.takeWhile_cons];split<;>simp;omega
theorem QL(p:UInt8->Bool):∀(l:List UInt8) (k:Nat),k<(l.takeWhile p).length->∃h:k<l.length,p l[k]=true
 | [],k,h=>by simp at h
 | c :: l,k,h=>by
  rw[List.takeWhile_cons]at h;split at h
  ·cases k with
   | zero=>exact⟨by simp,by simpa⟩
   | succ k =>
    obtain⟨h1,h2⟩:=QL p l k (by simpa using h);exact⟨by simp;omega,by simpa using h2⟩
  ·simp at h
theorem QM(p:UInt8->Bool):∀(l:List UInt8) (h:(l.takeWhile p).length<l.length),p l[(l.takeWhile p).length]=false
 | [],h=>by simp at h
 | c :: l,h=>by
  cases hc:p c with
  | true =>
   have e:(c :: l).takeWhile p=c :: l.takeWhile p:=by rw[List.takeWhile_cons,if_pos hc]
   have h':(l.takeWhile p).length<l.length:=by rw[e]at h;simpa using h
   have:=QM p l h';simp only[e,List.length_cons,List.getElem_cons_succ];exact this
  | false =>
   have e:(c :: l).takeWhile p=[]:=by rw[List.takeWhile_cons,if_neg (by simp[hc])]
   simp only[e,List.length_nil,List.getElem_cons_zero];exact hc
theorem QN(p:UInt8->Bool):∀(l:List UInt8),l.take (l.takeWhile p).length=l.takeWhile p
 | []=>by simp
 | c :: l=>by
  have ih:=QN p l;rw[List.takeWhile_cons];split<;>simp[ih]
theorem mG(p:UInt8->Bool)(l:List UInt8)(i:Nat)(h:i<=l.length):i+runN p l i<=l.length:=by
 have:=QK p (l.drop i);unfold runN;simp at this ⊢;omega
theorem Az(p:UInt8->Bool)(l:List UInt8)(i k:Nat)(h:k<runN p l i):∃h:i+k<l.length,p l[i+k]=true:=by
 obtain⟨h1,h2⟩:=QL p (l.drop i) k h;simp only[List.length_drop]at h1;exact⟨by omega,by simpa using h2⟩
theorem uZ(p:UInt8->Bool)(l:List UInt8)(i:Nat)(h:i+runN p l i<l.length):p l[i+runN p l i]=false:=by
 have h':((l.drop i).takeWhile p).length<(l.drop i).length:=by unfold runN at h;simp at h ⊢;omega
 have:=QM p (l.drop i) h';simpa [runN] using this
theorem ZW(p:UInt8->Bool)(l:List UInt8)(i:Nat):aO l i (runN p l i)=(l.drop i).takeWhile p:=QN p (l.drop i)
theorem QO(p:UInt8->Bool)(l:List UInt8)(i k:Nat)(h1:k<=runN p l i)(h2:∀h:i+k<l.length,p l[i+k]=false):runN p l i=k:=by
 rcases Nat.lt_or_ge k (runN p l i) with h|h
 ·obtain⟨h3,h4⟩:=Az p l i k h;rw[h2 h3]at h4;exact absurd h4 (by simp)
 ·omega
def rD(n:Int)(c:UInt8):Int:=10*n+((c.toNat:Int)-48)
def aY(l:List UInt8):Int:=l.foldl rD 0
theorem QP(l:List UInt8)(c:UInt8):aY (l++[c])=rD (aY l) c:=by unfold aY;rw[List.foldl_append];rfl
theorem J3:∀(l:List UInt8) (n:Int),0<=n->l.all aP=true->n<=l.foldl rD n
 | [],n,_,_=>Int.le_refl n
 | c :: l,n,h,hd=>by
  simp only[List.all_cons,Bool.and_eq_true]at hd;have h1:=uY hd.1;have h2:n<=rD n c:=by unfold rD;omega
  exact Int.le_trans h2 (J3 l _ (by omega) hd.2)
theorem Ea(l:List UInt8)(hd:l.all aP=true):0<=aY l:=J3 l 0 (by omega) hd
theorem QQ(a b:List UInt8)(hd:(a++b).all aP=true):aY a<=aY (a++b):=by
 rw[List.all_append,Bool.and_eq_true]at hd;unfold aY;rw[List.foldl_append];exact J3 b _ (Ea a hd.1) hd.2
def rdNum(l:List UInt8)(i:Nat):Int × Int × Nat :=
 if runN aP l i=0 then(2,0,i)
 else if 1<runN aP l i/\l[i]?=some 48 then(2,0,i)
 else if aY (aO l i (runN aP l i)) > 999999999 then(3,0,i)
 else(0,aY (aO l i (runN aP l i)),i+runN aP l i)
def jc(strict:Bool)(p:List UInt8):Bool:=strict && (p.all aP && (decide (1<p.length) && decide (p[0]?=some 48)))
def aQ(strict:Bool)(l:List UInt8)(i:Nat):Int × Nat :=
 if runN aT l i=0 then(2,i)
 else if jc strict (aO l i (runN aT l i))=true then(2,i)
 else if h:l[i+runN aT l i]?=some 46 then aQ strict l (i+runN aT l i+1)
 else(0,i+runN aT l i)
termination_by l.length-i
decreasing_by
 have:=(List.getElem?_eq_some_iff.1 h).1;omega
theorem Ec(strict:Bool)(l:List UInt8)(i:Nat):aQ strict l i =
 if runN aT l i=0 then(2,i)
 else if jc strict (aO l i (runN aT l i))=true then(2,i)
 else if l[i+runN aT l i]?=some 46 then aQ strict l (i+runN aT l i+1)
 else(0,i+runN aT l i):=by
 rw[aQ];split
 ·rfl
 ·split
  ·rfl
  ·split<;>rfl
def nM(strict:Bool)(p:List UInt8):Bool:=!p.isEmpty && p.all aT && !jc strict p
def gy(strict:Bool)(l:List UInt8):Bool:=l.isEmpty || (aV l).all (nM strict)
theorem QR{c:UInt8}(h:aT c=true):c≠46:=by
 intro e;subst e;exact absurd h (by decide)
theorem QS(c:UInt8)(hc:c≠46)(r:List UInt8):∀(q:List UInt8),(∀x∈q,x≠46)->∃t ps,aV (q++c :: r)=(q++c :: t) :: ps
 | [],_=>by
  rw[List.nil_append,uX,if_neg hc]
  cases h:aV r with
  | nil=>exact absurd h (xq r)
  | cons p ps=>exact⟨p,ps,rfl⟩
 | x :: q,h=>by
  obtain⟨t,ps,e⟩:=QS c hc r q (fun y hy=>h y (List.mem_cons_of_mem _ hy));rw[List.cons_append,uX,if_neg (h x (List.mem_cons_self ..)),e];exact⟨t,ps,rfl⟩
theorem ZX(l:List UInt8)(i:Nat)(p:UInt8->Bool):l.drop i=aO l i (runN p l i)++l.drop (i+runN p l i):=by
 unfold aO;rw[<-List.drop_drop,List.take_append_drop]
theorem yL(p:UInt8->Bool)(l:List UInt8)(i:Nat):(aO l i (runN p l i)).all p=true:=by
 rw[ZW];exact List.all_takeWhile
theorem pV(l:List UInt8)(i k:Nat)(h:i+k<=l.length):(aO l i k).length=k:=by
 unfold aO;simp;omega
theorem ZY(s:Bool)(l:List UInt8):∀(n i:Nat),l.length-i=n->i<=l.length->(aQ s l i=(0,l.length)↔(aV (l.drop i)).all (nM s)=true):=by
 intro n
 induction n using Nat.strongRecOn with
 | ind n ih =>
  intro i hn hi;have hle:=mG aT l i hi;have hd:=ZX l i aT;have hall:=yL aT l i;have hlen:=pV l i _ hle;have hnd:=fun x (hx:x∈aO l i (runN aT l i))=>QR (List.all_eq_true.1 hall x hx)
  rw[Ec]
  -- what stands behind the run
  rcases Nat.lt_or_ge (i+runN aT l i) l.length with hlt|hge
  ·have hst:=uZ aT l i hlt;rw[List.drop_eq_getElem_cons hlt]at hd
   by_cases h46:l[i+runN aT l i]=46
   ·rw[h46]at hd;have hsp:aV (l.drop i)=aO l i (runN aT l i) :: aV (l.drop (i+runN aT l i+1)):=by
     rw[hd];exact D7 _ _ hnd
    have hg:l[i+runN aT l i]?=some 46:=by rw[List.getElem?_eq_getElem hlt,h46]
    rw[hsp,List.all_cons,Bool.and_eq_true]
    by_cases h0:runN aT l i=0
    ·rw[if_pos h0];have:aO l i (runN aT l i)=[]:=List.length_eq_zero_iff.1 (by omega);rw[this];constructor
     ·intro h;simp at h
     ·rintro⟨h,_⟩;simp[nM]at h
    ·rw[if_neg h0]
     by_cases hb:jc s (aO l i (runN aT l i))=true
     ·rw[if_pos hb];constructor
      ·intro h;simp at h
      ·rintro⟨h,_⟩;simp[nM,hb]at h
     ·rw[if_neg hb,if_pos hg];have hok:nM s (aO l i (runN aT l i))=true:=by
       have h1:(aO l i (runN aT l i)).isEmpty=false:=by
        cases h:aO l i (runN aT l i) with
        | nil=>rw[h]at hlen;simp at hlen;omega
        | cons c r=>rfl
       have h2:jc s (aO l i (runN aT l i))=false:=by simpa using hb
       simp[nM,h1,hall,h2]
      rw[ih (l.length-(i+runN aT l i+1)) (by omega) (i+runN aT l i+1) rfl (by omega)];simp[hok]
   ·obtain⟨t,ps,e⟩:=QS _ h46 (l.drop (i+runN aT l i+1)) _ hnd;rw[<-hd]at e;have hbad:nM s (aO l i (runN aT l i)++l[i+runN aT l i] :: t)=false:=by
     unfold nM;rw[List.all_append,List.all_cons,hst];simp
    have hg:¬l[i+runN aT l i]?=some 46:=by
     rw[List.getElem?_eq_getElem hlt];simpa using h46
    rw[e,List.all_cons,hbad,if_neg hg];have hne:¬i+runN aT l i=l.length:=by omega
    by_cases h0:runN aT l i=0
    ·rw[if_pos h0];simp
    ·rw[if_neg h0];split<;>simp[hne]
  ·have hn0:=List.drop_of_length_le hge;rw[hn0,List.append_nil]at hd;have hsp:aV (l.drop i)=[aO l i (runN aT l i)]:=by
    rw[hd];exact D6 _ hnd
   have hg:¬l[i+runN aT l i]?=some 46:=by
    rw[List.getElem?_eq_none hge];simp
   rw[hsp,List.all_cons,List.all_nil,Bool.and_true,if_neg hg];have heq:i+runN aT l i=l.length:=by omega
   by_cases h0:runN aT l i=0
   ·rw[if_pos h0];have:aO l i (runN aT l i)=[]:=List.length_eq_zero_iff.1 (by omega);rw[this];simp[nM]
   ·rw[if_neg h0];have h1:(aO l i (runN aT l i)).isEmpty=false:=by
     cases h:aO l i (runN aT l i) with
     | nil=>rw[h]at hlen;simp at hlen;omega
     | cons c r=>rfl
    by_cases hb:jc s (aO l i (runN aT l i))=true
    ·rw[if_pos hb];simp[nM,hb]
    ·rw[if_neg hb];have h2:jc s (aO l i (runN aT l i))=false:=by simpa using hb
     simp[nM,h1,hall,h2,heq]
theorem ZZ(s:Bool)(l:List UInt8)(h:l≠[]):decide (aQ s l 0=(0,l.length))=gy s l:=by
 have e:=ZY s l _ 0 rfl (Nat.zero_le _);rw[List.drop_zero]at e;have h1:l.isEmpty=false:=by simpa using h
 unfold gy;rw[h1,Bool.false_or,Bool.eq_iff_iff];simp only[decide_eq_true_eq];exact e
theorem Z4(u:Nat)(h:u<10):(UInt8.ofNat (48+u)).toNat=48+u:=by
 show(48+u) % 256=48+u;omega
theorem Z5(l:List UInt8)(hne:l≠[])(hd:l.all aP=true)(hz:¬(1<l.length/\l[0]?=some 48)):Lib.decDigits (aY l).toNat=l:=by
 -- the last digit off
 have key:∀(n:Nat) (l:List UInt8),l.length=n->l≠[]->l.all aP=true->¬(1<l.length/\l[0]?=some 48)->Lib.decDigits (aY l).toNat=l/\(1<l.length->0<aY l.dropLast):=by
  intro n
  induction n with
  | zero=>intro l hl hne;exact absurd (List.length_eq_zero_iff.1 hl) hne
  | succ n ih =>
   intro l hl hne hd hz;obtain⟨q,c,rfl⟩:∃q c,l=q++[c]:=⟨l.dropLast,l.getLast hne,(List.dropLast_concat_getLast hne).symm⟩;have hd':=hd;rw[List.all_append,Bool.and_eq_true]at hd';have hc:=uY (show aP c=true by simpa using hd'.2);have hcv:UInt8.ofNat (48+(c.toNat - 48))=c:=by
    apply UInt8.toNat_inj.1;rw[Z4 _ (by omega)];omega
   rw[List.dropLast_concat]
   by_cases hq:q=[]
   ·subst hq;refine⟨?_,by simp⟩;have hv:aY ([]++[c])=(c.toNat:Int)-48:=by show rD 0 c=_;unfold rD;omega
    have hn:((c.toNat:Int)-48).toNat=c.toNat - 48:=by omega
    rw[hv,hn,Lib.decDigits_one (by omega),hcv];rfl
   ·have GN:=List.length_pos_iff.2 hq;have hz1:q[0]?≠some 48:=by
     intro h;refine hz ⟨by simp;omega,?_⟩;rw[List.getElem?_append_left GN];exact h
    have hlen:q.length=n:=by simp at hl;exact hl
    have h1:=ih q hlen hq hd'.1 (fun h=>hz1 h.2);have hpos:0<aY q:=by
     rcases Nat.lt_or_ge 1 q.length with hgt|hle
     ·have h2:=h1.2 hgt;have:aY q.dropLast<=aY q:=by
       conv=>rhs;rw[<-List.dropLast_concat_getLast hq]
       exact QQ _ _ (by rw[List.dropLast_concat_getLast hq];exact hd'.1)
      omega
     ·obtain⟨x,rfl⟩:∃x,q=[x]:=List.length_eq_one_iff.1 (by omega);have hx:=uY (show aP x=true by simpa using hd'.1);have hx0:x.toNat≠48:=fun hh=>hz1 (by
       have:x=48:=UInt8.toNat_inj.1 hh;rw[this];rfl)
      show 0<rD 0 x;unfold rD;omega
    refine⟨?_,fun _=>hpos⟩;rw[QP];have hv:(rD (aY q) c).toNat=10*(aY q).toNat+(c.toNat - 48):=by unfold rD;omega
    rw[hv,Lib.decDigits,dif_neg (by omega)];have e1:(10*(aY q).toNat+(c.toNat - 48)) / 10=(aY q).toNat:=by omega
    have e2:(10*(aY q).toNat+(c.toNat - 48)) % 10=c.toNat - 48:=by omega
    rw[e1,e2,h1.1,hcv]
 exact(key _ l rfl hne hd hz).1
theorem Z7(l:List UInt8)(i:Nat)(hi:i<=l.length)(h:(rdNum l i).1=0) :
  ∃k,0<k/\i+k<=l.length/\(rdNum l i).2.2=i+k/\aO l i k=Lib.decDigits (rdNum l i).2.1.toNat/\0<=(rdNum l i).2.1/\(rdNum l i).2.1<=999999999:=by
 have hle:=mG aP l i hi;have hall:=yL aP l i;have hlen:=pV l i _ hle;unfold rdNum at h ⊢
 by_cases h0:runN aP l i=0
 ·rw[if_pos h0]at h;simp at h
 ·rw[if_neg h0]at h ⊢
  by_cases hz:1<runN aP l i/\l[i]?=some 48
  ·rw[if_pos hz]at h;simp at h
  ·rw[if_neg hz]at h ⊢
   by_cases hv:aY (aO l i (runN aP l i)) > 999999999
   ·rw[if_pos hv]at h;simp at h
   ·rw[if_neg hv];refine⟨runN aP l i,by omega,hle,rfl,?_,Ea _ hall,Int.not_lt.1 hv⟩;have hne:aO l i (runN aP l i)≠[]:=fun e=>by rw[e]at hlen;simp at hlen;omega
    have h48:(aO l i (runN aP l i))[0]?=l[i]?:=by
     unfold aO;rw[List.getElem?_take_of_lt (by omega),List.getElem?_drop];rfl
    rw[Z5 _ hne hall (by rw[hlen,h48];exact hz)]
theorem Z8(l:List UInt8)(i k j:Nat)(hk:i+k<j)(hj:j<=l.length)(h46:l[i+k]?=some 46) :
  aO l i (j-i)=aO l i k++46 :: aO l (i+k+1) (j-(i+k+1)):=by
 unfold aO;obtain⟨hlt,e⟩:=List.getElem?_eq_some_iff.1 h46;have h1:j-i=k+((j-(i+k+1))+1):=by omega
 rw[h1,List.take_add,List.drop_drop,List.drop_eq_getElem_cons hlt,List.take_succ_cons,e]
theorem AA(s:Bool)(l:List UInt8):∀(n i:Nat),l.length-i=n->i<=l.length->(aQ s l i).1=0 →
  i<(aQ s l i).2/\(aQ s l i).2<=l.length/\(aV (aO l i ((aQ s l i).2-i))).all (nM s)=true:=by
 intro n
 induction n using Nat.strongRecOn with
 | ind n ih =>
  intro i hn hi h;have hle:=mG aT l i hi;have hall:=yL aT l i;have hlen:=pV l i _ hle;have hnd:=fun x (hx:x∈aO l i (runN aT l i))=>QR (List.all_eq_true.1 hall x hx)
  rw[Ec]at h ⊢
  by_cases h0:runN aT l i=0
  ·rw[if_pos h0]at h;simp at h
  ·rw[if_neg h0]at h ⊢
   by_cases hb:jc s (aO l i (runN aT l i))=true
   ·rw[if_pos hb]at h;simp at h
   ·rw[if_neg hb]at h ⊢;have hok:nM s (aO l i (runN aT l i))=true:=by
     have h1:(aO l i (runN aT l i)).isEmpty=false:=by
      cases h:aO l i (runN aT l i) with
      | nil=>rw[h]at hlen;simp at hlen;omega
      | cons c r=>rfl
     have h2:jc s (aO l i (runN aT l i))=false:=by simpa using hb
     simp[nM,h1,hall,h2]
    by_cases hg:l[i+runN aT l i]?=some 46
    ·rw[if_pos hg]at h ⊢;have hlt:=(List.getElem?_eq_some_iff.1 hg).1;obtain⟨g1,g2,g3⟩:=ih (l.length-(i+runN aT l i+1)) (by omega) (i+runN aT l i+1) rfl (by omega) h;refine⟨by omega,g2,?_⟩;rw[Z8 l i (runN aT l i) _ (by omega) g2 hg,D7 _ _ hnd,List.all_cons,hok,g3];rfl
    ·rw[if_neg hg];refine⟨by simp only;omega,hle,?_⟩;simp only;rw[show i+runN aT l i-i=runN aT l i by omega,D6 _ hnd];simp[hok]
structure Vv where
 major:Int
 minor:Int
 patch:Int
 pre:List UInt8
 build:List UInt8
def zeroV:Vv:=⟨0,0,0,[],[]⟩
def aX(c:UInt8)(s:Bool)(l:List UInt8)(i:Nat):Int × Nat × List UInt8 :=
 if l[i]?=some c then
  (if(aQ s l (i+1)).1=0 then(0,(aQ s l (i+1)).2,aO l (i+1) ((aQ s l (i+1)).2-(i+1))) else((aQ s l (i+1)).1,(aQ s l (i+1)).2,[]))
 else(0,i,[])
def bT(l:List UInt8):Int × Nat × Int × Int × Int :=
 if(rdNum l 0).1=0 then
  if l[(rdNum l 0).2.2]?=some 46 then
   if(rdNum l ((rdNum l 0).2.2+1)).1=0 then
    if l[(rdNum l ((rdNum l 0).2.2+1)).2.2]?=some 46 then
     if(rdNum l ((rdNum l ((rdNum l 0).2.2+1)).2.2+1)).1=0 then
      (0,(rdNum l ((rdNum l ((rdNum l 0).2.2+1)).2.2+1)).2.2,(rdNum l 0).2.1,(rdNum l ((rdNum l 0).2.2+1)).2.1,(rdNum l ((rdNum l ((rdNum l 0).2.2+1)).2.2+1)).2.1)
     else((rdNum l ((rdNum l ((rdNum l 0).2.2+1)).2.2+1)).1,(rdNum l ((rdNum l ((rdNum l 0).2.2+1)).2.2+1)).2.2,0,0,0)
    else(2,(rdNum l ((rdNum l 0).2.2+1)).2.2,0,0,0)
   else((rdNum l ((rdNum l 0).2.2+1)).1,(rdNum l ((rdNum l 0).2.2+1)).2.2,0,0,0)
  else(2,(rdNum l 0).2.2,0,0,0)
 else((rdNum l 0).1,(rdNum l 0).2.2,0,0,0)
def dK(l:List UInt8):Int × Nat × Vv :=
 if(bT l).1=0 then
  if(aX 45 true l (bT l).2.1).1=0 then
   if(aX 43 false l (aX 45 true l (bT l).2.1).2.1).1=0 then
    if(aX 43 false l (aX 45 true l (bT l).2.1).2.1).2.1<l.length then(2,(aX 43 false l (aX 45 true l (bT l).2.1).2.1).2.1,zeroV)
    else(0,0,⟨(bT l).2.2.1,(bT l).2.2.2.1,(bT l).2.2.2.2,(aX 45 true l (bT l).2.1).2.2,(aX 43 false l (aX 45 true l (bT l).2.1).2.1).2.2⟩)
   else((aX 43 false l (aX 45 true l (bT l).2.1).2.1).1,(aX 43 false l (aX 45 true l (bT l).2.1).2.1).2.1,zeroV)
  else((aX 45 true l (bT l).2.1).1,(aX 45 true l (bT l).2.1).2.1,zeroV)
 else((bT l).1,(bT l).2.1,zeroV)
def ig(l:List UInt8):Int × Nat × Vv:=if 100<l.length then(1,0,zeroV) else dK l
def GU(c:UInt8)(p:List UInt8):List UInt8:=if p=[] then[] else c :: p
def QT(v:Vv):List UInt8:=Lib.itoa v.major++(46 :: (Lib.itoa v.minor++(46 :: (Lib.itoa v.patch++(GU 45 v.pre++GU 43 v.build)))))
def bound(n:Int):Bool:=decide (0<=n) && decide (n<=1000000000)
theorem qJ{n:Int}:bound n=true↔0<=n/\n<=1000000000:=by unfold bound;simp
def kP(v:Vv):Bool:=bound v.major && (bound v.minor && (bound v.patch && (gy true v.pre && gy false v.build)))
theorem Z9{n:Int}(h:0<=n):Lib.itoa n=Lib.decDigits n.toNat:=by unfold Lib.itoa;rw[if_neg (by omega)]
theorem aab{s:Bool}{l:List UInt8}(h:gy s l=true)(hne:l≠[]):(aV l).all (nM s)=true:=by
 have:l.isEmpty=false:=by simpa using hne
 unfold gy at h;rw[this,Bool.false_or]at h;exact h
theorem QU{l:List UInt8}{i k:Nat}:l.drop i=aO l i k++l.drop (i+k):=by
 unfold aO;rw[<-List.drop_drop,List.take_append_drop]
theorem drop_cons{l:List UInt8}{i:Nat}{c:UInt8}(h:l[i]?=some c):l.drop i=c :: l.drop (i+1)/\i<l.length:=by
 obtain⟨hlt,e⟩:=List.getElem?_eq_some_iff.1 h;rw[List.drop_eq_getElem_cons hlt,e];exact⟨rfl,hlt⟩
theorem J4(l:List UInt8)(i:Nat)(hi:i<=l.length)(h:(rdNum l i).1=0) :
  (rdNum l i).2.2<=l.length/\l.drop i=Lib.itoa (rdNum l i).2.1++l.drop (rdNum l i).2.2/\0<=(rdNum l i).2.1/\(rdNum l i).2.1<=999999999:=by
 obtain⟨k,h1,h2,h3,h4,h5,h6⟩:=Z7 l i hi h;refine⟨by omega,?_,h5,h6⟩;rw[Z9 h5,<-h4,h3];exact QU
theorem QV(l:List UInt8)(h:(bT l).1=0) :
  (bT l).2.1<=l.length/\l=Lib.itoa (bT l).2.2.1++46 :: (Lib.itoa (bT l).2.2.2.1++46 :: (Lib.itoa (bT l).2.2.2.2++l.drop (bT l).2.1)) ∧
  (0<=(bT l).2.2.1/\(bT l).2.2.1<=999999999)/\(0<=(bT l).2.2.2.1/\(bT l).2.2.2.1<=999999999)/\(0<=(bT l).2.2.2.2/\(bT l).2.2.2.2<=999999999):=by
 unfold bT at h ⊢;split at h
 ·rename_i e1;split at h
  ·rename_i g1;split at h
   ·rename_i e2;split at h
    ·rename_i g2;split at h
     ·rename_i e3;obtain⟨a1,a2,a3⟩:=J4 l 0 (Nat.zero_le _) e1;obtain⟨c1,c2⟩:=drop_cons g1;obtain⟨b1,b2,b3⟩:=J4 l _ (by omega) e2;obtain⟨c3,c4⟩:=drop_cons g2;obtain⟨d1,d2,d3⟩:=J4 l _ (by omega) e3;simp only[e1,g1,e2,g2,e3,if_true];refine⟨d1,?_,a3,b3,d3⟩;rw[List.drop_zero]at a2;rw[<-d2,<-c3,<-b2,<-c1];exact a2
     ·rename_i e;exact absurd h e
    ·simp at h
   ·rename_i e;exact absurd h e
  ·simp at h
 ·rename_i e;exact absurd h e
theorem QW(c:UInt8)(s:Bool)(l:List UInt8)(i:Nat)(hi:i<=l.length)(h:(aX c s l i).1=0) :
  (aX c s l i).2.1<=l.length/\l.drop i=GU c (aX c s l i).2.2++l.drop (aX c s l i).2.1/\gy s (aX c s l i).2.2=true:=by
 unfold aX at h ⊢
 by_cases hc:l[i]?=some c
 ·rw[if_pos hc]at h ⊢;obtain⟨c1,c2⟩:=drop_cons hc
  by_cases h0:(aQ s l (i+1)).1=0
  ·rw[if_pos h0];obtain⟨g1,g2,g3⟩:=AA s l _ (i+1) rfl (by omega) h0;have hlen:=pV l (i+1) ((aQ s l (i+1)).2-(i+1)) (by omega);have hne:aO l (i+1) ((aQ s l (i+1)).2-(i+1))≠[]:=fun e=>by rw[e]at hlen;simp at hlen;omega
   refine⟨g2,?_,?_⟩
   ·simp only;unfold GU;rw[if_neg hne,c1,List.cons_append];congr 1;have:=@QU l (i+1) ((aQ s l (i+1)).2-(i+1));rw[show i+1+((aQ s l (i+1)).2-(i+1))=(aQ s l (i+1)).2 by omega]at this;exact this
   ·simp only;unfold gy;rw[g3,Bool.or_true]
  ·rw[if_neg h0]at h;exact absurd h h0
 ·rw[if_neg hc];exact⟨hi,rfl,rfl⟩
theorem aac(l:List UInt8)(h:(dK l).1=0):QT (dK l).2.2=l/\kP (dK l).2.2=true:=by
 unfold dK at h ⊢;split at h
 ·rename_i e1;split at h
  ·rename_i e2;split at h
   ·rename_i e3;split at h
    ·simp at h
    ·rename_i e4;obtain⟨a1,a2,a3,a4,a5⟩:=QV l e1;obtain⟨b1,b2,b3⟩:=QW 45 true l _ a1 e2;obtain⟨c1,c2,c3⟩:=QW 43 false l _ b1 e3;simp only[e1,e2,e3,if_true,if_neg e4];have hend:l.drop (aX 43 false l (aX 45 true l (bT l).2.1).2.1).2.1=[]:=List.drop_of_length_le (by omega);rw[hend,List.append_nil]at c2;constructor
     ·unfold QT;simp only;rw[<-c2,<-b2];exact a2.symm
     ·simp only[kP,Bool.and_eq_true,qJ];exact⟨by omega,by omega,by omega,b3,c3⟩
   ·rename_i e;exact absurd h e
  ·rename_i e;exact absurd h e
 ·rename_i e;exact absurd h e
open Go.RowKit
theorem zN{α:Sort _}(a:α):∃z,a=z:=⟨a,rfl⟩
theorem aC{α:Type _}{xs:Array α}{i:Nat}{v:α}(h:xs[i]?=some v):i<xs.size:=(Array.getElem?_eq_some_iff.1 h).1
theorem ah{w:World}{b:Nat}{cs:Array Value}{T:TypeId}{fr:Nat×Nat}(hb:w.heap[b]?=some (.cells cs T fr))(j:Nat):w.cell? ⟨b,j,none⟩=cs[j]?:=by simp[World.cell?,hb]
def Hd(p:Prop):Prop:=p
theorem ae{p:Prop}(h:p):Hd p:=h
theorem Hd.o{p:Prop}(h:Hd p):p:=h
theorem bF{k:IntKind}{a b:Int}(h:a=b):Ending.returned (.int k a)=.returned (.int k b):=by rw[h]
theorem bi{a b:Bool}(h:a=b):Ending.returned (.bool a)=.returned (.bool b):=by rw[h]
theorem yM(c:UInt8)(w:World):Calls prog 179 #[.int .u8 (c.toNat:Int)] w fun e w'=>e=.returned (.bool (aP c))/\w'=w:=by
 go_enter func179,ntmps179;go_wp2
 all_goals go_ret
 all_goals (refine⟨bi ?_,rfl⟩;rw[Bool.eq_iff_iff];unfold aP;simp;omega)
theorem ai(w:World)(r:Option Nat):w.grownBy w r:=⟨rfl,rfl,rfl,Nat.le_refl _,fun _ _ _=>rfl⟩
theorem aH{w w':World}{r:Option Nat}(h:w.grownBy w' r)(n:Nat):w.grownBy (w'.drewN n) r:=⟨h.os,h.tape,h.output,h.size,h.block⟩
theorem bI{w w':World}{b:Nat}(h:w.grownBy w' (some b))(o:Nat)(v:Value):w.grownBy (w'.setCell ⟨b,o,none⟩ v) (some b):=by
 refine⟨h.os,h.tape,h.output,by simpa [World.setCell] using h.size,fun k hk hne=>?_⟩;rw[<-h.block k hk hne];exact heap_setCell_other w' _ k v (fun e=>hne (by rw[e]))
theorem ag{w w1 w2:World}{r:Option Nat}(h:w.grownBy w1 r)(h':w1.grownBy w2 r):w.grownBy w2 r :=
 ⟨h'.os.trans h.os,h'.tape.trans h.tape,h'.output.trans h.output,Nat.le_trans h.size h'.size,fun k hk hne=>(h'.block k (Nat.lt_of_lt_of_le hk h.size) hne).trans (h.block k hk hne)⟩
theorem iR(s:ByteArray)(i:Nat)(h:i<s.size):s.data.toList[i]?=some s[i]:=by rw[List.getElem?_eq_getElem (by simpa using h)];rfl
theorem tV(s:ByteArray)(i j:Nat)(hi:i<=j)(hj:j<=s.size)(w:World) :
  (Instr.slice 9 (.string s) (some (.int .i64 (i:Int))) (some (.int .i64 (j:Int))) none).run prog w=.ok (.string ⟨(aO s.data.toList i (j-i)).toArray⟩) w:=by
 have h1:(0:Int)<=(i:Int):=by omega
 have h4:(i:Int)<=(j:Int):=by omega
 have h5:(j:Int)<=(s.size:Int):=by omega
 have e:s.extract i j=⟨(aO s.data.toList i (j-i)).toArray⟩:=by
  apply ByteArray.ext;rw[ByteArray.data_extract];apply Array.ext';unfold aO;simp
 rw[<-e];simp[go_sem,underlying9,h1,h4,h5]
open Go.RowKit
theorem jE{w w':World}(h:w.grownBy w' none):Below w.heap.size w w':=⟨h.os,h.tape,h.output,h.size,fun k hk=>h.block k hk (by simp)⟩
theorem dF{w w':World}{r:Option Nat}(h:w.drew.grownBy w' r):w.grownBy w' r:=⟨h.os,h.tape,h.output,h.size,h.block⟩
theorem ak{w w':World}(h:w.grownBy w' none)(o:Obj):w.grownBy (w'.alloc o) none :=
 ⟨h.os,h.tape,h.output,by have:=h.size;simp;omega,fun k hk hn=>by rw[Lib.alloc_old _ _ _ (Nat.lt_of_lt_of_le hk h.size)];exact h.block k hk hn⟩
theorem J5(w:World)(e:TypeId)(s:ByteArray):w.grownBy (Lib.bytesWorld w e s) none :=
 ⟨rfl,rfl,rfl,by rw[Lib.bytesWorld_size];omega,fun k hk _=>Lib.bytesWorld_at_old w e s k hk⟩
theorem dA{w w':World}(h:w.grownBy w' none)(r:Option Nat):w.grownBy w' r:=⟨h.os,h.tape,h.output,h.size,fun k hk _=>h.block k hk (by simp)⟩
theorem GV(s:ByteArray)(w:World)(hs:s.size<2 ^ 62) :
  Calls prog 187 #[.string s] w fun e w'=>e=.returned (.bool (eH s.data.toList))/\w.grownBy w' none:=by
 have kc:=fun(w:World)=>Lib.run_convert_string_bytes (P:=prog) w 9 265 5 s underlying9 underlying265 underlying5
 obtain⟨W,hW⟩:=zN (Lib.bytesWorld w 5 s);have HC:Hd (∀j,(hj:j<s.size)->W.cell? ⟨w.heap.size,j,none⟩=some (.int .u8 (s[j].toNat:Int))):=by
  show ∀j,(hj:j<s.size)->W.cell? ⟨w.heap.size,j,none⟩=some (.int .u8 (s[j].toNat:Int));intro j hj;rw[<-hW,Lib.bytesWorld_cell w _ s j hj];have:s.data.toList.getD j 0=s[j]:=by
   rw[List.getD_eq_getElem?_getD,iR s j hj];rfl
  rw[this]
 have HG:Hd (w.grownBy W none):=by show w.grownBy W none;rw[<-hW];exact J5 w _ s
 have kw:=kc w;rw[hW]at kw;clear kc hW;go_enter func187,ntmps187;go_wp2
 go_loop [8] (fun i=>∃k:Nat,k<=s.size/\i=.int .i64 k/\∀j,(hj:j<s.size)->j<k->aP s[j]=true) (fun i=>s.size-(intOf i).toNat)
 case atStart=>exact⟨0,Nat.zero_le _,rfl,fun j hj h=>absurd h (by omega)⟩
 case round =>
  obtain⟨k,hk,rfl,hp⟩:=hrel;have HP:=ae hp;clear hp
  by_cases hlt:k<s.size
  ·have ck:=HC.o k hlt
   cases hd:aP s[k] with
   | true =>
    go_wp2_with (go_at_call 179;refine(yM _ _).mono ?_;rintro e w' ⟨rfl,rfl⟩)
    go_round
    case rel =>
     refine⟨k+1,by omega,by go_num,fun j hj hjk=>?_⟩
     by_cases hjk':j<k
     ·exact HP.o j hj hjk'
     ·have e:j=k:=by omega
      subst e;exact hd
    case measure=>simp[intOf];omega
   | false =>
    have HN:Hd (eH s.data.toList=false):=by
     show eH s.data.toList=false;unfold eH;have:s.data.toList.all aP=false:=by
      rw[List.all_eq_false];exact⟨s[k],List.mem_of_getElem? (iR s k hlt),by simp[hd]⟩
     rw[this,Bool.and_false]
    go_wp2_with (go_at_call 179;refine(yM _ _).mono ?_;rintro e w' ⟨rfl,rfl⟩);go_ret;exact⟨bi HN.o.symm,HG.o⟩
  ·have hks:k=s.size:=by omega
   have HA:Hd (s.data.toList.all aP=true):=by
    show s.data.toList.all aP=true;rw[List.all_eq_true];intro c hc;obtain⟨j,hj,rfl⟩:=List.getElem_of_mem hc;exact HP.o j (by simpa using hj) (by simp at hj;have:s.size=s.data.size:=rfl;omega)
   clear hks hk;go_wp2;go_ret;refine⟨bi ?_,HG.o⟩;unfold eH;rw[Lib.toList_data,HA.o,Bool.and_true]
theorem aad(s:ByteArray)(k:Nat)(hk:k<=s.size)(w:World) :
  (Instr.slice 9 (.string s) none (some (.int .i64 (k:Int))) none).run prog w=.ok (.string ⟨(s.data.toList.take k).toArray⟩) w:=by
 have h5:(k:Int)<=(s.size:Int):=by omega
 have e:s.extract 0 k=⟨(s.data.toList.take k).toArray⟩:=by
  apply ByteArray.ext;rw[ByteArray.data_extract];apply Array.ext';simp
 rw[<-e];simp[go_sem,underlying9,h5]
theorem J6(s:ByteArray)(k:Nat)(hk:k<=s.size)(w:World) :
  (Instr.slice 9 (.string s) (some (.int .i64 (k:Int))) none none).run prog w=.ok (.string ⟨(s.data.toList.drop k).toArray⟩) w:=by
 have h1:(0:Int)<=(k:Int):=by omega
 have h5:(k:Int)<=(s.size:Int):=by omega
 have e:s.extract k s.size=⟨(s.data.toList.drop k).toArray⟩:=by
  apply ByteArray.ext;rw[ByteArray.data_extract];apply Array.ext';simp;exact List.take_of_length_le (by simp)
 rw[<-e];simp[go_sem,underlying9,h1,h5]
open Go.RowKit
theorem mJ(c:UInt8)(w:World):Calls prog 72 #[.int .u8 (c.toNat:Int)] w fun e w'=>e=.returned (.bool (aP c))/\w'=w:=by
 go_enter func72,ntmps72;go_wp2
 all_goals go_ret
 all_goals (refine⟨bi ?_,rfl⟩;rw[Bool.eq_iff_iff];unfold aP;simp;omega)
theorem QX(c:UInt8)(w:World):Calls prog 108 #[.int .u8 (c.toNat:Int)] w fun e w'=>e=.returned (.bool (aT c))/\w'=w:=by
 go_enter func108,ntmps108;go_wp2_with (go_at_call 72;refine(mJ _ _).mono ?_;rintro e w' ⟨rfl,rfl⟩)
 all_goals go_ret
 all_goals (refine⟨bi ?_,rfl⟩;rw[Bool.eq_iff_iff];unfold aT;simp_all;try omega)
theorem J7(s:ByteArray)(w:World)(hs:s.size<2 ^ 62) :
  Calls prog 109 #[.string s] w fun e w'=>e=.returned (.bool (s.data.toList.all aP))/\w'=w:=by
 obtain⟨R,hR⟩:∃R,R=s.data.toList.all aP:=⟨_,rfl⟩;have HR:=ae hR;rw[<-hR];clear hR;go_enter func109,ntmps109;go_wp2
 go_loop [3] (fun i=>∃k:Nat,k<=s.size/\i=.int .i64 k/\∀j,(hj:j<s.size)->j<k->aP s[j]=true) (fun i=>s.size-(intOf i).toNat)
 case atStart=>exact⟨0,Nat.zero_le _,rfl,fun j hj h=>absurd h (by omega)⟩
 case round =>
  obtain⟨k,hk,rfl,hp⟩:=hrel;have HP:=ae hp;clear hp
  by_cases hlt:k<s.size
  ·cases hd:aP s[k] with
   | true =>
    go_wp2_with (go_at_call 72;refine(mJ _ _).mono ?_;rintro e w' ⟨rfl,rfl⟩)
    go_round
    case rel =>
     refine⟨k+1,by omega,by go_num,fun j hj hjk=>?_⟩
     by_cases hjk':j<k
     ·exact HP.o j hj hjk'
     ·have e:j=k:=by omega
      subst e;exact hd
    case measure=>simp[intOf];omega
   | false =>
    have HN:Hd (R=false):=by
     show R=false;rw[HR.o,List.all_eq_false];exact⟨s[k],List.mem_of_getElem? (iR s k hlt),by simp[hd]⟩
    go_wp2_with (go_at_call 72;refine(mJ _ _).mono ?_;rintro e w' ⟨rfl,rfl⟩);go_ret;exact⟨bi HN.o.symm,rfl⟩
  ·have HN:Hd (R=true):=by
    show R=true;rw[HR.o,List.all_eq_true];intro c hc;obtain⟨j,hj,rfl⟩:=List.getElem_of_mem hc;exact HP.o j (by simpa using hj) (by simp at hj;have:s.size=s.data.size:=rfl;omega)
   clear hk;go_wp2;go_ret;exact⟨bi HN.o.symm,rfl⟩
open Go.RowKit
def St(A:Nat)(a1 a2 a3:Int)(a4 a5:ByteArray)(w:World):Prop:=w.cell? ⟨A,0,none⟩=some (.int .i64 a1)/\w.cell? ⟨A,1,none⟩=some (.int .i64 a2)/\w.cell? ⟨A,2,none⟩=some (.int .i64 a3)/\w.cell? ⟨A,3,none⟩=some (.string a4)/\w.cell? ⟨A,4,none⟩=some (.string a5)
theorem St.grow{A:Nat}{a1 a2 a3:Int}{a4 a5:ByteArray}{w w':World}(h:St A a1 a2 a3 a4 a5 w)(hg:w.grownBy w' none):St A a1 a2 a3 a4 a5 w' :=
 ⟨hg.cell h.1 (by simp),hg.cell h.2.1 (by simp),hg.cell h.2.2.1 (by simp),hg.cell h.2.2.2.1 (by simp),hg.cell h.2.2.2.2 (by simp)⟩
theorem yN{A t:Nat}{a1 a2 a3:Int}{a4 a5:ByteArray}{w:World}(h:w.heap[A]?=some (.cells #[.int .i64 a1,.int .i64 a2,.int .i64 a3,.string a4,.string a5] t (0,0))):St A a1 a2 a3 a4 a5 w :=
 ⟨by rw[Lib.cell_of_heap h];rfl,by rw[Lib.cell_of_heap h];rfl,by rw[Lib.cell_of_heap h];rfl,by rw[Lib.cell_of_heap h];rfl,by rw[Lib.cell_of_heap h];rfl⟩
open Go.RowKit
theorem info9:(prog.info? 9).map (fun i=>(i.zero,i.size,i.bytes))=some (some (.string ⟨#[]⟩),1,16):=by kernel_rfl
def oJ(D:List (List UInt8)):List Value:=D.map fun p=>.string ⟨p.toArray⟩
theorem aae(l:List UInt8)(D:List (List UInt8))(f:Nat)(h:aV l=D++aV (l.drop f))(hn:∀j,f<=j->j<l.length->l[j]?≠some 46):aV l=D++[aO l f (l.length-f)]:=by
 rw[h,D6 (l.drop f)]
 ·congr 2;unfold aO;exact(List.take_of_length_le (by simp)).symm
 ·intro c hc e;obtain⟨j,hj,rfl⟩:=List.getElem_of_mem hc;simp only[List.length_drop]at hj;refine hn (f+j) (by omega) (by omega) ?_;rw[<-List.getElem?_drop,List.getElem?_eq_getElem (by simp;omega),e]
theorem aaf(l:List UInt8)(D:List (List UInt8))(f i:Nat)(hfi:f<=i)(hi:l[i]?=some 46)(h:aV l=D++aV (l.drop f))(hn:∀j,f<=j->j<i->l[j]?≠some 46):aV l=(D++[aO l f (i-f)])++aV (l.drop (i+1)):=by
 obtain⟨hlt,e⟩:=List.getElem?_eq_some_iff.1 hi;have hd:l.drop f=aO l f (i-f)++46 :: l.drop (i+1):=by
  have h1:l.drop f=aO l f (i-f)++l.drop i:=by
   unfold aO;have:=List.take_append_drop (i-f) (l.drop f);rw[List.drop_drop,show f+(i-f)=i by omega]at this;exact this.symm
  rw[h1,List.drop_eq_getElem_cons hlt,e]
 rw[h,hd,D7]
 ·simp
 ·intro c hc e;obtain⟨j,hj,rfl⟩:=List.getElem_of_mem hc;have hjl:j<i-f:=by unfold aO at hj;simp at hj;omega
  refine hn (f+j) (by omega) (by omega) ?_;have:(aO l f (i-f))[j]?=some 46:=by rw[List.getElem?_eq_getElem hj,e]
  unfold aO at this;rw[List.getElem?_take_of_lt hjl,List.getElem?_drop]at this;exact this
def aag(l:List UInt8)(w:World)(e:Ending)(w':World):Prop:=∃v,e=.returned v/\w'.ownsRow w.heap.size 9 1 v (aV l).length (oJ (aV l))/\Below w.heap.size w w'
theorem aah(s:ByteArray)(w:World)(hs:s.size<=1048576) :
  Calls prog 82 #[.string s] w (aag s.data.toList w):=by
 obtain⟨i0,hi,hz0,hz1,hzb⟩:=info_parts info9;obtain⟨l,hl⟩:∃l,l=s.data.toList:=⟨_,rfl⟩;have hll:l.length=s.size:=by rw[hl];simp
 rw[<-hl];go_enter func82,ntmps82;go_wp2;go_loopw [3,4,5] (fun vo vf vi wr=>∃(D:List (List UInt8)) (f i:Nat),vf=.int .i64 f/\vi=.int .i64 i/\wr.ownsRow w.heap.size 9 1 vo D.length (oJ D)/\Below w.heap.size w wr/\D.length<=i/\f<=s.size+1/\((i<=s.size/\f<=i/\aV l=D++aV (l.drop f)/\∀j,f<=j->j<i->l[j]?≠some 46)\/(i=s.size+1/\D=aV l))) (fun _ _ vi _=>s.size+1-(intOf vi).toNat)
 case atStart=>exact⟨[],0,0,rfl,rfl,World.ownsRow_nil _ _ _ _,Below.refl _ _,Nat.le_refl _,by omega,Or.inl ⟨by omega,Nat.le_refl _,by simp,fun j _ h=>by omega⟩⟩
 case round =>
  obtain⟨D,f,i,rfl,rfl,hrow,hbl,hD,hf,hcase⟩:=hrel;have hzz:=hbl.size
  rcases hcase with⟨hi1,hfi,hsp,hno⟩|⟨hi2,hDe⟩
  ·have kQ:Hd (aV l=D++aV (l.drop f)/\∀j,f<=j->j<i->l[j]?≠some 46):=⟨hsp,hno⟩;clear hsp hno
   by_cases hlt:i<s.size
   ·have hne:((i:Int) == (s.size:Int))=false:=by simp;omega
    cases hz:((s[i].toNat:Int) == 46) with
    | true =>
     have hc:l[i]?=some 46:=by
      rw[hl,iR s i hlt];have:s[i]=46:=UInt8.toNat_inj.1 (by have:=eq_of_beq hz;have e46:(46:UInt8).toNat=46:=rfl;omega);rw[this]
     obtain⟨X,hX⟩:∃X:ByteArray,X=⟨(aO l f (i-f)).toArray⟩:=⟨_,rfl⟩;have HN:=ae (aaf l D f i hfi hc kQ.o.1 kQ.o.2);have HX:Hd (oJ (D++[aO l f (i-f)])=oJ D++[.string X]):=by
      show oJ _=_;rw[hX];simp[oJ]
     have sl:∀wx,(Instr.slice 9 (.string s) (some (.int .i64 (f:Int))) (some (.int .i64 (i:Int))) none).run prog wx=.ok (.string X) wx:=fun wx=>by rw[hX,hl];exact tV s f i hfi (by omega) wx
     have HB:Hd (D.length<=i/\i<s.size):=⟨hD,hlt⟩;clear hX hc kQ hfi hl;go_wp2_with (first|(at_builtin;refine wpList_append_own _ rfl _ _ 67 rfl w.heap.size 9 i0 (.string ⟨#[]⟩) 1 16 underlying67 hi hz0 hz1 hzb rfl (by decide) _ _ _ rfl (hrow.alloc _) ⟨wr.heap.size,0,none⟩ 1 1 [.string X] rfl rfl (cell_one_new _ _ _) (by simp[Value.oneCell']) (by unfold maxLen;omega) (by omega) (by simp;omega) ?_;intro v' w1 hown' hgrow _));have hb1:=(hbl.alloc hzz _).grown hgrow (by simp;omega) (fun q hq=>(hrow.lt q hq).1);have hB:=HB.o;refine⟨⟨D++[aO l f (i-f)],i+1,i+1,rfl,rfl,by rw[HX.o];simpa using hown',hb1,by simp;omega,by omega,Or.inl ⟨by omega,Nat.le_refl _,HN.o,fun j h1 h2=>by omega⟩⟩,?_⟩;simp[intOf];omega
    | false =>
     have HN:Hd (l[i]?≠some 46):=by
      show l[i]?≠some 46;rw[hl,iR s i hlt];intro e;have e':=Option.some.inj e;rw[e']at hz;exact absurd hz (by decide)
     have HF:Hd (f<=i/\D.length<=i/\f<=s.size+1):=⟨hfi,hD,hf⟩;have HO:=ae hrow;have HB:=ae hbl;clear hfi hD hf hrow hbl hl;go_wp2;go_roundw
     case rel =>
      have hF:=HF.o;refine⟨D,f,i+1,rfl,by go_num,HO.o,HB.o,by omega,hF.2.2,Or.inl ⟨by omega,by omega,kQ.o.1,fun j h1 h2=>?_⟩⟩
      by_cases hj:j<i
      ·exact kQ.o.2 j h1 hj
      ·have:j=i:=by omega
       rw[this];exact HN.o
     case measure=>simp[intOf];omega
   ·have hie:i=s.size:=by omega
    subst hie;have hne:((s.size:Int) == (s.size:Int))=true:=by simp
    obtain⟨X,hX⟩:∃X:ByteArray,X=⟨(aO l f (s.size-f)).toArray⟩:=⟨_,rfl⟩;have HN:Hd (aV l=D++[aO l f (s.size-f)]):=by
     have:=aae l D f kQ.o.1 (fun j h1 h2=>kQ.o.2 j h1 (by omega));rw[hll]at this;exact this
    have HX:Hd (oJ (D++[aO l f (s.size-f)])=oJ D++[.string X]):=by
     show oJ _=_;rw[hX];simp[oJ]
    have sl:∀wx,(Instr.slice 9 (.string s) (some (.int .i64 (f:Int))) (some (.int .i64 (s.size:Int))) none).run prog wx=.ok (.string X) wx:=fun wx=>by rw[hX,hl];exact tV s f s.size hfi (by omega) wx
    clear hX kQ hfi hl;go_wp2_with (first|(at_builtin;refine wpList_append_own _ rfl _ _ 67 rfl w.heap.size 9 i0 (.string ⟨#[]⟩) 1 16 underlying67 hi hz0 hz1 hzb rfl (by decide) _ _ _ rfl (hrow.alloc _) ⟨wr.heap.size,0,none⟩ 1 1 [.string X] rfl rfl (cell_one_new _ _ _) (by simp[Value.oneCell']) (by unfold maxLen;omega) (by omega) (by simp;omega) ?_;intro v' w1 hown' hgrow _));have hb1:=(hbl.alloc hzz _).grown hgrow (by simp;omega) (fun q hq=>(hrow.lt q hq).1);refine⟨⟨D++[aO l f (s.size-f)],s.size+1,s.size+1,rfl,rfl,by rw[HX.o];simpa using hown',hb1,by simp;omega,by omega,Or.inr ⟨rfl,HN.o.symm⟩⟩,?_⟩;simp[intOf]
  ·have hgt:¬i<=s.size:=by omega
   clear hi2 hll hs;have HO:=ae hrow;have HB:=ae hbl;have HDE:=ae hDe;clear hrow hbl hDe hD hf hzz hl;go_wp2;refine bodyPost_ret (results_tmp (t:=2) rfl _ _ _) rfl ⟨u3,rfl,?_,HB.o⟩;rw[<-HDE.o];exact HO.o
open Go.RowKit
theorem below_drewN{B:Nat}{a w:World}(h:Below B a w)(n:Nat):Below B a (w.drewN n):=⟨h.os,h.tape,h.output,h.size,h.block⟩
theorem aai{w:World}{base:Nat}{v:Value}{D:List (List UInt8)}(h:w.ownsRow base 9 1 v D.length (oJ D))(hne:D≠[]) :
  ∃g cap,v=.slice (some ⟨g,0,none⟩) D.length cap/\base<=g/\g<w.heap.size/\∀j,(hj:j<D.length)->w.cell? ⟨g,j,none⟩=some (.string ⟨D[j].toArray⟩):=by
 have hpos:=List.length_pos_iff.2 hne
 rcases h.2 with⟨_,hz⟩|⟨g,cap,cur,hv,hbg,hg,hnc,hcm,hcs,htake⟩
 ·simp at hz;exact absurd hz hne
 ·refine⟨g,cap,hv,hbg,(Array.getElem?_eq_some_iff.1 hg).1,fun j hj=>?_⟩;have ht:cur.toList.take D.length=oJ D:=by simpa using htake
  rw[Lib.cell_of_heap hg];have h1:(oJ D)[j]?=some (.string ⟨D[j].toArray⟩):=by unfold oJ;rw[List.getElem?_map,List.getElem?_eq_getElem hj];rfl
  rw[<-ht,List.getElem?_take_of_lt hj]at h1;simpa using h1
theorem QY(s:ByteArray)(w:World)(hs:s.size<=1048576) :
  Calls prog 82 #[.string s] w fun e w'=>∃g cap,e=.returned (.slice (some ⟨g,0,none⟩) (aV s.data.toList).length cap)/\w.heap.size<=g/\g<w'.heap.size/\(∀j,(hj:j<(aV s.data.toList).length)->w'.cell? ⟨g,j,none⟩=some (.string ⟨(aV s.data.toList)[j].toArray⟩))/\Below w.heap.size w w':=by
 refine(aah s w hs).mono ?_;rintro e w' ⟨v,rfl,hrow,hb⟩;obtain⟨g,cap,rfl,h1,h2,h3⟩:=aai hrow (xq _);exact⟨g,cap,rfl,h1,h2,h3,hb⟩
theorem Ee:∀(l:List UInt8) (p:List UInt8),p∈aV l->p.length<=l.length
 | [],p,h=>by simp[aV]at h;rw[h];exact Nat.le_refl _
 | c :: l,p,h=>by
  rw[uX]at h;split at h
  ·rcases List.mem_cons.1 h with rfl|h
   ·simp
   ·have:=Ee l p h;simp;omega
  ·cases hs:aV l with
   | nil=>exact absurd hs (xq l)
   | cons q qs =>
    rw[hs]at h
    rcases List.mem_cons.1 h with rfl|h
    ·have:=Ee l q (by rw[hs];simp);simp;omega
    ·have:=Ee l p (by rw[hs];simp[h]);simp;omega
theorem QZ:∀(l:List UInt8),(aV l).length<=l.length+1
 | []=>by simp[aV]
 | c :: l=>by
  have ih:=QZ l;rw[uX];split
  ·simp;exact ih
  ·cases hs:aV l with
   | nil=>exact absurd hs (xq l)
   | cons q qs=>rw[hs]at ih;simp at ih ⊢;omega
theorem Ef(a:V):aB a a=0:=xu.self a
theorem dN(a b:V):aB b a=- aB a b:=xu.anti a b
theorem rE{a b d:V}(h1:aB a b<=0)(h2:aB b d<=0):aB a d<=0:=(xu.trans a b d h1 h2).1
theorem AB{a b d:V}(h1:aB a b<0)(h2:aB b d<=0):aB a d<0:=by
 have h:=xu.trans a b d (by omega) h2;have:aB a d≠0:=fun e=>by have:=h.2.2 e;omega
 omega
theorem Eg{a b d:V}(h1:aB a b<=0)(h2:aB b d<0):aB a d<0:=by
 have h:=xu.trans a b d h1 (by omega);have:aB a d≠0:=fun e=>by have:=h.2.2 e;omega
 omega
theorem Eh{a b d:V}(h1:aB a b<0)(h2:aB b d<0):aB a d<0:=AB h1 (by omega)
def vg(h:V->Bool):Bool->List V->List V
 | _,[]=>[]
 | on,p :: ps=>if h p=on then vg h on ps else p :: vg h (h p) ps
def vw(l:List V):Prop:=l.Pairwise fun a b=>aB a b<0
structure Ed where
 at_:V
 l:Nat
 d:Int
def upd(b:Nat->Int)(l:Nat)(d:Int):Nat->Int:=fun j=>if j=l then b j+d else b j
def tot:List Ed->Nat->Int
 | [],_=>0
 | e :: r,j=>(if j=e.l then e.d else 0)+tot r j
def fO:List Ed->Nat->V->Int
 | [],_,_=>0
 | e :: r,j,x=>(if j=e.l/\aB e.at_ x<=0 then e.d else 0)+fO r j x
def mM(e:Ed):List Ed->Bool
 | []=>false
 | e' :: _=>decide (aB e.at_ e'.at_=0)
def fG(wt:(Nat->Int)->Bool):(Nat->Int)->Bool->List Ed->List V
 | _,_,[]=>[]
 | b,on,e :: r =>
  if mM e r=true then fG wt (upd b e.l e.d) on r
  else if wt (upd b e.l e.d)=on then fG wt (upd b e.l e.d) on r
  else e.at_ :: fG wt (upd b e.l e.d) (wt (upd b e.l e.d)) r
def jF:List Ed->List V
 | []=>[]
 | e :: r=>if mM e r=true then jF r else e.at_ :: jF r
def qK(E:List Ed):Prop:=E.Pairwise fun a b=>aB a.at_ b.at_<=0
theorem aaj(A B:List Ed)(j:Nat):tot (A++B) j=tot A j+tot B j:=by
 induction A with
 | nil=>simp[tot]
 | cons e A ih=>simp only[List.cons_append,tot,ih];omega
theorem J8(A B:List Ed)(j:Nat)(x:V):fO (A++B) j x=fO A j x+fO B j x:=by
 induction A with
 | nil=>simp[fO]
 | cons e A ih=>simp only[List.cons_append,fO,ih];omega
theorem aak(A:List Ed)(j:Nat)(x:V)(h:∀e∈A,aB e.at_ x<=0):fO A j x=tot A j:=by
 induction A with
 | nil=>rfl
 | cons e A ih =>
  have he:=h e (by simp);simp only[fO,tot,ih (fun e' h'=>h e' (by simp[h'])),he,and_true]
theorem Q4(A:List Ed)(j:Nat)(x:V)(h:∀e∈A,¬aB e.at_ x<=0):fO A j x=0:=by
 induction A with
 | nil=>rfl
 | cons e A ih =>
  have he:=h e (by simp);simp only[fO,ih (fun e' h'=>h e' (by simp[h'])),he,and_false,if_false];omega
theorem aal(A:List Ed)(j:Nat)(x y:V)(h:∀e∈A,aB e.at_ x<=0↔aB e.at_ y<=0):fO A j x=fO A j y:=by
 induction A with
 | nil=>rfl
 | cons e A ih =>
  have he:=h e (by simp);simp only[fO,ih (fun e' h'=>h e' (by simp[h'])),he]
theorem Q5{e:Ed}{r:List Ed}(hs:qK (e :: r))(hn:¬mM e r=true):∀e'∈r,aB e.at_ e'.at_<0:=by
 cases r with
 | nil=>intro e' h;simp at h
 | cons f r =>
  have h1:=(List.pairwise_cons.1 hs).1;have h2:=(List.pairwise_cons.1 (List.pairwise_cons.1 hs).2).1;have hf:aB e.at_ f.at_<0:=by
   have a1:=h1 f (by simp);have a2:aB e.at_ f.at_≠0:=fun e0=>hn (by simp[mM,e0])
   omega
  intro e' he'
  rcases List.mem_cons.1 he' with rfl|he'
  ·exact hf
  ·exact AB hf (h2 e' he')
theorem GX(wt:(Nat->Int)->Bool)(E:List Ed)(h:V->Bool)(hh:∀x,h x=wt (fun j=>fO E j x))(hs:qK E) :
  ∀(r pre:List Ed) (on:Bool),E=pre++r->fG wt (fun j=>tot pre j) on r=vg h on (jF r)
 | [],pre,on,hE=>rfl
 | e :: r,pre,on,hE=>by
  have hE':E=(pre++[e])++r:=by rw[hE];simp
  have hb:upd (fun j=>tot pre j) e.l e.d=fun j=>tot (pre++[e]) j:=by
   funext j;rw[aaj];unfold upd
   by_cases hj:j=e.l
   ·simp[tot,hj]
   ·simp[tot,hj]
  have ih:=fun on=>GX wt E h hh hs r (pre++[e]) on hE'
  unfold fG jF;rw[hb]
  by_cases hn:mM e r=true
  ·rw[if_pos hn,if_pos hn];exact ih on
  ·rw[if_neg hn,if_neg hn];have hw:wt (fun j=>tot (pre++[e]) j)=h e.at_:=by
    rw[hh];congr 1;funext j;rw[hE',J8];have GY:qK (e :: r):=by rw[hE]at hs;exact(List.pairwise_append.1 hs).2.1
    have hpre:∀e'∈pre++[e],aB e'.at_ e.at_<=0:=by
     intro e' he'
     rcases List.mem_append.1 he' with h1|h1
     ·rw[hE]at hs;exact(List.pairwise_append.1 hs).2.2 e' h1 e (by simp)
     ·simp at h1;rw[h1,Ef];omega
    have hr:=Q5 GY hn;rw[aak _ j _ hpre,Q4 r j _ (fun e' he'=>by have:=hr e' he';have:=dN e.at_ e'.at_;omega)];omega
   rw[hw];unfold vg
   by_cases ho:h e.at_=on
   ·rw[if_pos ho,if_pos ho];exact ih on
   ·rw[if_neg ho,if_neg ho,ih]
theorem J9(E:List Ed)(hs:qK E):(∀p∈jF E,∃e∈E,e.at_=p)/\(∀e∈E,∃p∈jF E,aB e.at_ p=0):=by
 induction E with
 | nil=>exact⟨by simp[jF],by simp⟩
 | cons e r ih =>
  obtain⟨i1,i2⟩:=ih (List.pairwise_cons.1 hs).2;unfold jF
  by_cases hn:mM e r=true
  ·rw[if_pos hn];refine⟨fun p hp=>?_,fun e' he'=>?_⟩
   ·obtain⟨e',h1,h2⟩:=i1 p hp;exact⟨e',by simp[h1],h2⟩
   ·rcases List.mem_cons.1 he' with rfl|he'
    ·cases r with
     | nil=>simp[mM]at hn
     | cons f r =>
      have hf:aB e'.at_ f.at_=0:=by simpa [mM] using hn
      obtain⟨p,hp,h0⟩:=i2 f (by simp);exact⟨p,hp,by have:=(xu.trans e'.at_ f.at_ p (by omega) (by omega)).2.1 ⟨hf,h0⟩;exact this⟩
    ·exact i2 e' he'
  ·rw[if_neg hn];refine⟨fun p hp=>?_,fun e' he'=>?_⟩
   ·rcases List.mem_cons.1 hp with rfl|hp
    ·exact⟨e,by simp,rfl⟩
    ·obtain⟨e',h1,h2⟩:=i1 p hp;exact⟨e',by simp[h1],h2⟩
   ·rcases List.mem_cons.1 he' with rfl|he'
    ·exact⟨e'.at_,by simp,Ef _⟩
    ·obtain⟨p,hp,h0⟩:=i2 e' he';exact⟨p,by simp[hp],h0⟩
theorem Ko(E:List Ed)(hs:qK E):vw (jF E):=by
 induction E with
 | nil=>exact List.Pairwise.nil
 | cons e r ih =>
  have hr:=(List.pairwise_cons.1 hs).2;unfold jF
  by_cases hn:mM e r=true
  ·rw[if_pos hn];exact ih hr
  ·rw[if_neg hn];refine List.pairwise_cons.2 ⟨fun p hp=>?_,ih hr⟩;obtain⟨e',h1,rfl⟩:=(J9 r hr).1 p hp;exact Q5 hs hn e' h1
structure Sg where
 fr:V
 to_:V
 op:Bool
def jQ(s:Sg)(x:V):Bool:=decide (aB s.fr x<=0) && (s.op || decide (aB x s.to_<0))
def AC(l:List Sg)(x:V):Bool:=l.any fun s=>jQ s x
def AL(k:Nat)(s:Sg):List Ed:=if s.op=true then[⟨s.fr,k,1⟩] else if aB s.fr s.to_<0 then[⟨s.fr,k,1⟩,⟨s.to_,k,-1⟩] else[]
def xw:Nat->List (List Sg)->List Ed
 | _,[]=>[]
 | k,l :: Ls=>l.flatMap (AL k)++xw (k+1) Ls
def cnt(l:List Sg)(x:V):Int:=(l.countP fun s=>jQ s x:Nat)
theorem aam(k j:Nat)(s:Sg)(x:V):fO (AL k s) j x=if j=k then(if jQ s x=true then 1 else 0) else 0:=by
 unfold AL jQ
 by_cases ho:s.op=true
 ·rw[if_pos ho,ho];simp only[fO,Bool.true_or,Bool.and_true,decide_eq_true_eq]
  by_cases hj:j=k<;>simp[hj]
 ·have ho':s.op=false:=by simpa using ho
  rw[if_neg ho,ho'];simp only[Bool.false_or,Bool.and_eq_true,decide_eq_true_eq];have ha:=dN x s.to_
  by_cases hlt:aB s.fr s.to_<0
  ·rw[if_pos hlt];simp only[fO]
   by_cases hj:j=k
   ·simp only[hj,true_and,if_true]
    by_cases h1:aB s.fr x<=0
    ·by_cases h2:aB x s.to_<0
     ·have h3:¬aB s.to_ x<=0:=by omega
      simp[h1,h2,h3]
     ·have h3:aB s.to_ x<=0:=by omega
      simp[h1,h2,h3]
    ·have h3:¬aB s.to_ x<=0:=fun h=>h1 (by have:=AB hlt h;omega)
     simp[h1,h3]
   ·simp[hj]
  ·rw[if_neg hlt];simp only[fO];have:¬(aB s.fr x<=0/\aB x s.to_<0):=fun h=>hlt (Eg h.1 h.2)
   rw[if_neg this];simp
theorem aan(k j:Nat)(l:List Sg)(x:V):fO (l.flatMap (AL k)) j x=if j=k then cnt l x else 0:=by
 induction l with
 | nil=>simp[fO,cnt]
 | cons s l ih =>
  rw[List.flatMap_cons,J8,ih,aam];unfold cnt;rw[List.countP_cons]
  by_cases hj:j=k
  ·simp only[hj,if_true]
   by_cases h:jQ s x=true<;>simp[h];omega
  ·simp[hj]
theorem Q7(x:V):∀(Ls:List (List Sg)) (k j:Nat),fO (xw k Ls) j x=if k<=j then(match Ls[j-k]? with|some l=>cnt l x|none=>0) else 0
 | [],k,j=>by simp[xw,fO]
 | l :: Ls,k,j=>by
  rw[xw,J8,aan,Q7 x Ls (k+1) j]
  by_cases hk:k<=j
  ·by_cases hj:j=k
   ·subst hj;rw[if_pos rfl,if_neg (show ¬j+1<=j by omega),if_pos hk];simp
   ·have h1:k+1<=j:=by omega
    rw[if_neg hj,if_pos h1,if_pos hk,show j-k=(j-(k+1))+1 by omega,List.getElem?_cons_succ];omega
  ·have h1:¬k+1<=j:=by omega
   rw[if_neg (by omega),if_neg h1,if_neg hk];rfl
def having(n:Nat)(b:Nat->Int):Int:=((List.range n).map fun j=>min (b j) 1).sum
theorem aao{A B:List Ed}(h:A.Perm B)(j:Nat)(x:V):fO A j x=fO B j x:=by
 induction h with
 | nil=>rfl
 | cons e _ ih=>simp only[fO,ih]
 | swap a b l=>simp only[fO];omega
 | trans _ _ ih1 ih2=>exact ih1.trans ih2
theorem aap(l:List Sg)(x:V):min (cnt l x) 1=if AC l x=true then 1 else 0:=by
 unfold cnt AC
 by_cases h:(l.any fun s=>jQ s x)=true
 ·rw[if_pos h];obtain⟨s,hs,hh⟩:=List.any_eq_true.1 h;have:0<l.countP fun s=>jQ s x:=List.countP_pos_iff.2 ⟨s,hs,hh⟩
  omega
 ·rw[if_neg h];have:l.countP (fun s=>jQ s x)=0:=by
   rw[List.countP_eq_zero];intro s hs hh;exact h (List.any_eq_true.2 ⟨s,hs,hh⟩)
  omega
def rF(Ls:List (List Sg))(x:V):Int:=(Ls.map fun l=>if AC l x=true then(1:Int) else 0).sum
theorem GZ(Ls:List (List Sg))(E:List Ed)(hE:E.Perm (xw 0 Ls))(x:V):having Ls.length (fun j=>fO E j x)=rF Ls x:=by
 unfold having rF;have:(List.range Ls.length).map (fun j=>min (fO E j x) 1)=Ls.map fun l=>if AC l x=true then(1:Int) else 0:=by
  apply List.ext_getElem
  ·simp
  ·intro i h1 h2;have hi:i<Ls.length:=by simpa using h2
   rw[List.getElem_map,List.getElem_range,List.getElem_map,aao hE,Q7,if_pos (Nat.zero_le _)];simp only[Nat.sub_zero,List.getElem?_eq_getElem hi];exact aap _ _
 rw[this]
end Go.Proofs.YtiinliaoojfjaaaGreatDoor
