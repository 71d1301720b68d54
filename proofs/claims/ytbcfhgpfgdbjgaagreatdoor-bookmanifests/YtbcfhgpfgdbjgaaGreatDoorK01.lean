import Derived.Lib.Bytealg
import Derived.Lib.TrimByte
import Derived.Lib.Small
import Derived.Lib.ItoaNum
import Derived.Test.YtbcfhgpfgdbjgaaGreatDoorProg
import Derived.WalkKit
import Derived.WalkSpells
import Derived.WalkLawsBesides
import Derived.Deep.QuietTactic
import Derived.BigQuiet
import Derived.Lib.SmallJoins
import Derived.Deep.RegionWith
import Derived.Lib.DecodeNEq
set_option linter.all false
set_option maxRecDepth 100000
set_option maxHeartbeats 0
open Go.Proofs.Tryz
namespace Go.Proofs.YtbcfhgpfgdbjgaaGreatDoor
variable{s:ByteArray}{n x y:Int}{a b l:List UInt8}{R T i:Nat}{r:Option Nat}{c:UInt8}{w w' w1 w2:World}
structure Good{α:Type}(c:α->α->Int):Prop where
 rng:∀a b,c a b=-1\/c a b=0\/c a b=1
 anti:∀a b,c b a=- c a b
 trans:∀a b d,c a b<=0->c b d<=0->c a d<=0/\((c a b=0/\c b d=0)↔c a d=0)
theorem Good.self{α:Type}{c:α->α->Int}(h:Good c)(a:α):c a a=0:=by
 have:=h.anti a a;omega
theorem tX{α β:Type}{c:α->α->Int}(h:Good c)(f:β->α):Good (fun a b=>c (f a) (f b)) :=
 ⟨fun a b=>h.rng _ _,fun a b=>h.anti _ _,fun a b d=>h.trans _ _ _⟩
def tY{α:Type}(c d:α->α->Int)(a b:α):Int:=if c a b=0 then d a b else c a b
theorem AU{α:Type}{c d:α->α->Int}(hc:Good c)(hd:Good d):Good (tY c d):=by
 refine⟨fun a b=>?_,fun a b=>?_,fun x y z=>?_⟩
 ·unfold tY;split
  ·exact hd.rng a b
  ·exact hc.rng a b
 ·have h1:=hc.anti a b;have h2:=hd.anti a b;unfold tY
  by_cases h:c a b=0
  ·rw[if_pos h,if_pos (by omega),h2]
  ·rw[if_neg h,if_neg (by omega),h1]
 ·have h1:=hc.trans x y z;have h2:=hd.trans x y z;have r1:=hc.rng x y;have r2:=hc.rng y z;have r3:=hc.rng x z;have s3:=hd.rng x z;unfold tY;intro p q;split at p<;>split at q
  ·rename_i e1 e2;have e3:=(h1 (by omega) (by omega)).2.1 ⟨e1,e2⟩;rw[if_pos e1,if_pos e2,if_pos e3];exact h2 p q
  ·rename_i e1 e2;have e3:=h1 (by omega) (by omega);have e4:c x z≠0:=fun hh=>e2 (e3.2.2 hh).2
   rw[if_pos e1,if_neg e2,if_neg e4];refine⟨e3.1,?_⟩;constructor
   ·rintro⟨_,h⟩;exact absurd h e2
   ·intro h;exact absurd h e4
  ·rename_i e1 e2;have e3:=h1 (by omega) (by omega);have e4:c x z≠0:=fun hh=>e1 (e3.2.2 hh).1
   rw[if_neg e1,if_pos e2,if_neg e4];refine⟨e3.1,?_⟩;constructor
   ·rintro⟨h,_⟩;exact absurd h e1
   ·intro h;exact absurd h e4
  ·rename_i e1 e2;have e3:=h1 (by omega) (by omega);have e4:c x z≠0:=fun hh=>e1 (e3.2.2 hh).1
   rw[if_neg e1,if_neg e2,if_neg e4];refine⟨e3.1,?_⟩;constructor
   ·rintro⟨h,_⟩;exact absurd h e1
   ·intro h;exact absurd h e4
def gJ{α:Type}(c:α->α->Int):List α->List α->Int
 | [],[]=>0
 | [],_ :: _=>-1
 | _ :: _,[]=>1
 | a :: al,b :: bs=>if c a b=0 then gJ c al bs else c a b
theorem SV{α:Type}{c:α->α->Int}(hc:Good c):Good (gJ c):=by
 refine⟨fun a=>?_,fun a=>?_,fun x=>?_⟩
 ·induction a with
  |nil=>intro b;cases b<;>simp[gJ]
  |cons a al ih=>
   intro b
   cases b with
   |nil=>simp[gJ]
   |cons b bs=>
    simp only[gJ];split
    ·exact ih bs
    ·exact hc.rng a b
 ·induction a with
  |nil=>intro b;cases b<;>simp[gJ]
  |cons a al ih=>
   intro b
   cases b with
   |nil=>simp[gJ]
   |cons b bs=>
    have h1:=hc.anti a b;simp only[gJ]
    by_cases h:c a b=0
    ·rw[if_pos h,if_pos (by omega),ih]
    ·rw[if_neg h,if_neg (by omega),h1]
 ·induction x with
  |nil=>
   intro y z p q
   cases y with
   |nil=>cases z<;>simp[gJ]at q ⊢
   |cons y ys=>cases z with
    |nil=>simp[gJ]at q
    |cons z zs=>simp[gJ]
  |cons x xs ih=>
   intro y z
   cases y with
   |nil=>intro p;simp[gJ]at p
   |cons y ys=>
    cases z with
    |nil=>intro p q;simp[gJ]at q
    |cons z zs=>
     have h1:=hc.trans x y z;have h2:=ih ys zs;have r1:=hc.rng x y;have r2:=hc.rng y z;have r3:=hc.rng x z;simp only[gJ];intro p q;split at p<;>split at q
     ·rename_i e1 e2;have e3:=(h1 (by omega) (by omega)).2.1 ⟨e1,e2⟩;rw[if_pos e1,if_pos e2,if_pos e3];exact h2 p q
     ·rename_i e1 e2;have e3:=h1 (by omega) (by omega);have e4:c x z≠0:=fun hh=>e2 (e3.2.2 hh).2
      rw[if_pos e1,if_neg e2,if_neg e4];refine⟨e3.1,?_⟩;constructor
      ·rintro⟨_,h⟩;exact absurd h e2
      ·intro h;exact absurd h e4
     ·rename_i e1 e2;have e3:=h1 (by omega) (by omega);have e4:c x z≠0:=fun hh=>e1 (e3.2.2 hh).1
      rw[if_neg e1,if_pos e2,if_neg e4];refine⟨e3.1,?_⟩;constructor
      ·rintro⟨h,_⟩;exact absurd h e1
      ·intro h;exact absurd h e4
     ·rename_i e1 e2;have e3:=h1 (by omega) (by omega);have e4:c x z≠0:=fun hh=>e1 (e3.2.2 hh).1
      rw[if_neg e1,if_neg e2,if_neg e4];refine⟨e3.1,?_⟩;constructor
      ·rintro⟨h,_⟩;exact absurd h e1
      ·intro h;exact absurd h e4
theorem xB:Good Lib.compareInt:=by
 refine⟨fun a b=>?_,fun a b=>?_,fun x y z=>?_⟩
 ·unfold Lib.compareInt;split
  ·simp
  ·split<;>simp
 ·unfold Lib.compareInt;repeat' split
  all_goals omega
 ·unfold Lib.compareInt;repeat' split
  all_goals omega
def Ie(a b:UInt8):Int:=Lib.compareInt a.toNat b.toNat
theorem aaJ:Good Ie:=tX xB (fun a:UInt8=>(a.toNat:Int))
theorem SX:∀a b,Lib.compareBytes a b=gJ Ie a b
 | [],[]=>rfl
 | [],_ :: _=>rfl
 | _ :: _,[]=>rfl
 | a :: al,b :: bs=>by
  have ih:=SX al bs;unfold Lib.compareBytes gJ;rw[ih];have eb:Ie a b=if(a.toNat:Int)<b.toNat then -1 else if(a.toNat:Int) > b.toNat then 1 else 0:=rfl;rw[eb]
  by_cases h:a<b
  ·have h':((a.toNat:Int)<b.toNat):=by have:=UInt8.lt_iff_toNat_lt.1 h;omega
   simp[h,h']
  ·by_cases h2:b<a
   ·have h':((b.toNat:Int)<a.toNat):=by have:=UInt8.lt_iff_toNat_lt.1 h2;omega
    have h'':¬((a.toNat:Int)<b.toNat):=by omega
    simp[h,h2,h',h'']
   ·have h':¬((b.toNat:Int)<a.toNat):=by intro hh;exact h2 (UInt8.lt_iff_toNat_lt.2 (by omega))
    have h'':¬((a.toNat:Int)<b.toNat):=by intro hh;exact h (UInt8.lt_iff_toNat_lt.2 (by omega))
    simp[h,h2,h',h'']
theorem aaK:Good Lib.compareBytes:=by
 have e:Lib.compareBytes=gJ Ie:=by funext a b;exact SX a b
 rw[e];exact SV aaJ
def aY(c:UInt8):Bool:=decide (48<=c.toNat) && decide (c.toNat<=57)
def aS(c:UInt8):Bool:=aY c || (decide (65<=c.toNat) && decide (c.toNat<=90)) || (decide (97<=c.toNat) && decide (c.toNat<=122)) || decide (c.toNat=45)
def ik(l:List UInt8):Bool:=!l.isEmpty && l.all aY
def iK(l:List UInt8):List UInt8:=Lib.trimLeftB l 48
def rH(l:List UInt8):Int:=if ik l then 0 else 1
def vK(l:List UInt8):Int:=if ik l then(iK l).length else 0
def bodyT(l:List UInt8):List UInt8:=if ik l then iK l else l
def jZ(a b:List UInt8):Int:=tY (fun a b=>Lib.compareInt (rH a) (rH b)) (tY (fun a b=>Lib.compareInt (vK a) (vK b)) (fun a b=>Lib.compareBytes (bodyT a) (bodyT b))) a b
theorem aaL:Good jZ:=AU (tX xB rH) (AU (tX xB vK) (tX aaK bodyT))
def di:List UInt8->List (List UInt8)
 | []=>[[]]
 | c :: l=>if c=46 then[] :: di l else match di l with
  | p :: ps=>(c :: p) :: ps
  | []=>[[c]]
theorem y9(c:UInt8)(l:List UInt8):di (c :: l)=if c=46 then[] :: di l else match di l with
  | p :: ps=>(c :: p) :: ps
  | []=>[[c]]:=by rw[di]
theorem Ig(l:List UInt8):di l≠[]:=by
 cases l with
 |nil=>simp[di]
 |cons c l=>
  rw[y9];split
  ·simp
  ·split<;>simp
theorem Ih:∀(p:List UInt8),(∀c∈p,c≠46)->di p=[p]
 | [],_=>rfl
 | c :: p,h=>by
  have ih:=Ih p (fun x hx=>h x (List.mem_cons_of_mem _ hx));rw[y9];rw[if_neg (h c (List.mem_cons_self ..)),ih]
theorem Ii:∀(p r:List UInt8),(∀c∈p,c≠46)->di (p++46 :: r)=p :: di r
 | [],r,_=>by simp[di]
 | c :: p,r,h=>by
  have ih:=Ii p r (fun x hx=>h x (List.mem_cons_of_mem _ hx));rw[List.cons_append,y9];rw[if_neg (h c (List.mem_cons_self ..)),ih]
theorem SY:∀(l r:List UInt8),di (l++46 :: r)=di l++di r
 | [],r=>by simp[di]
 | c :: l,r=>by
  have ih:=SY l r;rw[List.cons_append,y9,y9]
  by_cases h:c=46
  ·rw[if_pos h,if_pos h,ih,List.cons_append]
  ·rw[if_neg h,if_neg h,ih];obtain⟨p,ps,e⟩:∃p ps,di l=p :: ps:=by
    cases e:di l with
    |nil=>exact absurd e (Ig l)
    |cons p ps=>exact⟨p,ps,rfl⟩
   rw[e];rfl
def qF(a b:List UInt8):Int :=
 tY (fun a b:List UInt8=>Lib.compareInt (if a.isEmpty then 1 else 0) (if b.isEmpty then 1 else 0)) (fun a b=>gJ jZ (di a) (di b)) a b
theorem aaM:Good qF:=AU (tX xB (fun a:List UInt8=>if a.isEmpty then(1:Int) else 0)) (tX (SV aaL) di)
structure V where
 major:Int
 minor:Int
 patch:Int
 pre:List UInt8
def dY(a b:V):Int:=tY (fun a b=>Lib.compareInt a.major b.major) (tY (fun a b=>Lib.compareInt a.minor b.minor) (tY (fun a b=>Lib.compareInt a.patch b.patch) (fun a b=>qF a.pre b.pre))) a b
theorem Eh:Good dY:=AU (tX xB V.major) (AU (tX xB V.minor) (AU (tX xB V.patch) (tX aaM V.pre)))
theorem aaN(h:x<y):Lib.compareInt x y=-1:=by unfold Lib.compareInt;rw[if_pos h]
theorem aaO(h:y<x):Lib.compareInt x y=1:=by unfold Lib.compareInt;rw[if_neg (by omega),if_pos h]
theorem cmp_eq(x:Int):Lib.compareInt x x=0:=xB.self x
theorem S9:Lib.compareInt x y=0↔x=y:=by
 unfold Lib.compareInt;repeat' split
 all_goals omega
def vM(v:V):V:=if v.pre=[] then⟨v.major,v.minor,if v.patch<4611686018427387904 then v.patch+1 else v.patch,[48]⟩ else⟨v.major,v.minor,v.patch,v.pre++[46,48]⟩
theorem aaP(a b:V):dY a b=if Lib.compareInt a.major b.major=0 then(if Lib.compareInt a.minor b.minor=0 then(if Lib.compareInt a.patch b.patch=0 then qF a.pre b.pre else Lib.compareInt a.patch b.patch) else Lib.compareInt a.minor b.minor) else Lib.compareInt a.major b.major:=rfl
theorem Tc(a b:List UInt8):qF a b=if Lib.compareInt (if a.isEmpty then 1 else 0) (if b.isEmpty then 1 else 0)=0 then gJ jZ (di a) (di b) else Lib.compareInt (if a.isEmpty then 1 else 0) (if b.isEmpty then 1 else 0):=rfl
theorem Ij(a b:List UInt8):jZ a b=if Lib.compareInt (rH a) (rH b)=0 then(if Lib.compareInt (vK a) (vK b)=0 then Lib.compareBytes (bodyT a) (bodyT b) else Lib.compareInt (vK a) (vK b)) else Lib.compareInt (rH a) (rH b):=rfl
theorem aaQ(ha:ik a=true)(hb:ik b=true):jZ a b=if((iK a).length:Int)=(iK b).length then Lib.compareBytes (iK a) (iK b) else Lib.compareInt (iK a).length (iK b).length:=by
 rw[Ij];unfold rH vK bodyT;simp only[ha,hb,if_true];rw[if_pos (cmp_eq _)]
 by_cases h:((iK a).length:Int)=(iK b).length
 ·rw[if_pos (S9.2 h),if_pos h]
 ·rw[if_neg (fun hh=>h (S9.1 hh)),if_neg h]
theorem aaR(ha:ik a=true)(hb:ik b=false):jZ a b=-1:=by
 rw[Ij];unfold rH;simp[ha,hb,Lib.compareInt]
theorem aaS(ha:ik a=false)(hb:ik b=true):jZ a b=1:=by
 rw[Ij];unfold rH;simp[ha,hb,Lib.compareInt]
theorem aaT(ha:ik a=false)(hb:ik b=false):jZ a b=Lib.compareBytes a b:=by
 rw[Ij];unfold rH vK bodyT;simp[ha,hb,Lib.compareInt]
theorem Ik:∀(l:List UInt8),(Lib.indexByte l 46=-1/\∀c∈l,c≠46)\/∃k:Nat,Lib.indexByte l 46=k/\k<l.length/\(∀c∈l.take k,c≠46)/\l=l.take k++46 :: l.drop (k+1)
 | []=>Or.inl ⟨rfl,by simp⟩
 | b :: l=>by
  unfold Lib.indexByte
  by_cases hb:b=46
  ·subst hb;right;exact⟨0,by simp,by simp,by simp,by simp⟩
  ·have hb':(b == (46:UInt8))=false:=by simpa using hb
   rw[hb']
   rcases Ik l with⟨h1,h2⟩|⟨k,h1,h2,h3,h4⟩
   ·left;refine⟨by rw[h1];rfl,?_⟩;intro c hc
    rcases List.mem_cons.1 hc with rfl|hc
    ·exact hb
    ·exact h2 c hc
   ·right;refine⟨k+1,?_,Nat.succ_lt_succ h2,?_,?_⟩
    ·rw[h1];have:((k:Int) == -1)=false:=by simp
     rw[this];simp
    ·intro c hc;rw[List.take_succ_cons]at hc
     rcases List.mem_cons.1 hc with rfl|hc
     ·exact hb
     ·exact h3 c hc
    ·rw[List.take_succ_cons,List.drop_succ_cons,List.cons_append,<-h4]
def ku(l:List UInt8):List UInt8:=if Lib.indexByte l 46=-1 then l else l.take (Lib.indexByte l 46).toNat
def kT(l:List UInt8):List UInt8:=if Lib.indexByte l 46=-1 then[] else l.drop ((Lib.indexByte l 46).toNat+1)
def jO(l:List UInt8):Bool:=!decide (Lib.indexByte l 46=-1)
theorem Me(h:jO l=false):di l=[ku l]:=by
 have h':Lib.indexByte l 46=-1:=by simpa [jO] using h
 rcases Ik l with⟨h1,h2⟩|⟨k,h1,h2,h3,h4⟩
 ·unfold ku;rw[if_pos h1];exact Ih l h2
 ·omega
theorem Il(h:jO l=true):di l=ku l :: di (kT l)/\(kT l).length<l.length:=by
 have h':¬Lib.indexByte l 46=-1:=by simpa [jO] using h
 rcases Ik l with⟨h1,h2⟩|⟨k,h1,h2,h3,h4⟩
 ·exact absurd h1 h'
 ·unfold ku kT;rw[if_neg h',if_neg h',h1,Int.toNat_natCast];refine⟨?_,by simp;omega⟩
  conv=>lhs;rw[h4]
  exact Ii _ _ h3
theorem Td(l:List UInt8):(ku l).length<=l.length:=by
 unfold ku;split
 ·exact Nat.le_refl _
 ·simp;omega
theorem Tf(l:List UInt8):(kT l).length<=l.length:=by
 unfold kT;split
 ·simp
 ·simp
theorem aaU(a b:List UInt8):gJ jZ (di a) (di b) =
  if jZ (ku a) (ku b)=0 then(if jO a=true then(if jO b=true then gJ jZ (di (kT a)) (di (kT b)) else 1) else(if jO b=true then -1 else 0)) else jZ (ku a) (ku b):=by
 cases ha:jO a with
 |true=>
  rw[(Il ha).1]
  cases hb:jO b with
  |true=>rw[(Il hb).1];simp[gJ]
  |false=>
   rw[Me hb]
   cases hs:di (kT a) with
   |nil=>exact absurd hs (Ig _)
   |cons x xs=>simp[gJ]
 |false=>
  rw[Me ha]
  cases hb:jO b with
  |true=>
   rw[(Il hb).1]
   cases hs:di (kT b) with
   |nil=>exact absurd hs (Ig _)
   |cons x xs=>simp[gJ]
  |false=>rw[Me hb];simp[gJ]
theorem aaV(a b:List UInt8)(h:a=[]\/b=[]):qF a b=Lib.compareInt b.length a.length:=by
 rw[Tc]
 rcases h with rfl|rfl
 ·cases b with
  |nil=>decide
  |cons c b=>
   have:Lib.compareInt ((c :: b).length:Nat) (([]:List UInt8).length:Nat)=1:=aaO (by simp);rw[this];simp[Lib.compareInt]
 ·cases a with
  |nil=>decide
  |cons c a=>
   have:Lib.compareInt (([]:List UInt8).length:Nat) ((c :: a).length:Nat)=-1:=aaN (by simp);rw[this];simp[Lib.compareInt]
theorem aaW(a b:List UInt8)(ha:a≠[])(hb:b≠[]):qF a b=gJ jZ (di a) (di b):=by
 rw[Tc];have h1:a.isEmpty=false:=by simpa using ha
 have h2:b.isEmpty=false:=by simpa using hb
 rw[h1,h2,if_pos (cmp_eq _)]
theorem AV(h:aY c=true):48<=c.toNat/\c.toNat<=57:=by
 unfold aY at h;simpa using h
def runN(p:UInt8->Bool)(l:List UInt8)(i:Nat):Nat:=((l.drop i).takeWhile p).length
def au(l:List UInt8)(i k:Nat):List UInt8:=(l.drop i).take k
theorem Ti(p:UInt8->Bool):∀(l:List UInt8),(l.takeWhile p).length<=l.length
 | []=>by simp
 | c :: l=>by
  have ih:=Ti p l;rw[List.takeWhile_cons];split<;>simp;omega
theorem Tj(p:UInt8->Bool):∀(l:List UInt8) (k:Nat),k<(l.takeWhile p).length->∃h:k<l.length,p l[k]=true
 | [],k,h=>by simp at h
 | c :: l,k,h=>by
  rw[List.takeWhile_cons]at h;split at h
  ·cases k with
   |zero=>exact⟨by simp,by simpa⟩
   |succ k=>
    obtain⟨h1,h2⟩:=Tj p l k (by simpa using h);exact⟨by simp;omega,by simpa using h2⟩
  ·simp at h
theorem Tm(p:UInt8->Bool):∀(l:List UInt8) (h:(l.takeWhile p).length<l.length),p l[(l.takeWhile p).length]=false
 | [],h=>by simp at h
 | c :: l,h=>by
  cases hc:p c with
  |true=>
   have e:(c :: l).takeWhile p=c :: l.takeWhile p:=by rw[List.takeWhile_cons,if_pos hc]
   have h':(l.takeWhile p).length<l.length:=by rw[e]at h;simpa using h
   have:=Tm p l h';simp only[e,List.length_cons,List.getElem_cons_succ];exact this
  |false=>
   have e:(c :: l).takeWhile p=[]:=by rw[List.takeWhile_cons,if_neg (by simp[hc])]
   simp only[e,List.length_nil,List.getElem_cons_zero];exact hc
theorem Tt(p:UInt8->Bool):∀(l:List UInt8),l.take (l.takeWhile p).length=l.takeWhile p
 | []=>by simp
 | c :: l=>by
  have ih:=Tt p l;rw[List.takeWhile_cons];split<;>simp[ih]
theorem pF(p:UInt8->Bool)(l:List UInt8)(i:Nat)(h:i<=l.length):i+runN p l i<=l.length:=by
 have:=Ti p (l.drop i);unfold runN;simp at this ⊢;omega
theorem Io(p:UInt8->Bool)(l:List UInt8)(i k:Nat)(h:k<runN p l i):∃h:i+k<l.length,p l[i+k]=true:=by
 obtain⟨h1,h2⟩:=Tj p (l.drop i) k h;simp only[List.length_drop]at h1;exact⟨by omega,by simpa using h2⟩
theorem AX(p:UInt8->Bool)(l:List UInt8)(i:Nat)(h:i+runN p l i<l.length):p l[i+runN p l i]=false:=by
 have h':((l.drop i).takeWhile p).length<(l.drop i).length:=by unfold runN at h;simp at h ⊢;omega
 have:=Tm p (l.drop i) h';simpa [runN] using this
theorem aaX(p:UInt8->Bool)(l:List UInt8)(i:Nat):au l i (runN p l i)=(l.drop i).takeWhile p:=Tt p (l.drop i)
theorem Tu(p:UInt8->Bool)(l:List UInt8)(i k:Nat)(h1:k<=runN p l i)(h2:∀h:i+k<l.length,p l[i+k]=false):runN p l i=k:=by
 rcases Nat.lt_or_ge k (runN p l i) with h|h
 ·obtain⟨h3,h4⟩:=Io p l i k h;rw[h2 h3]at h4;exact absurd h4 (by simp)
 ·omega
def rJ(n:Int)(c:UInt8):Int:=10*n+((c.toNat:Int)-48)
def bK(l:List UInt8):Int:=l.foldl rJ 0
theorem Tz(l:List UInt8)(c:UInt8):bK (l++[c])=rJ (bK l) c:=by unfold bK;rw[List.foldl_append];rfl
theorem MB:∀(l:List UInt8) (n:Int),0<=n->l.all aY=true->n<=l.foldl rJ n
 | [],n,_,_=>Int.le_refl n
 | c :: l,n,h,hd=>by
  simp only[List.all_cons,Bool.and_eq_true]at hd;have h1:=AV hd.1;have h2:n<=rJ n c:=by unfold rJ;omega
  exact Int.le_trans h2 (MB l _ (by omega) hd.2)
theorem Ei(l:List UInt8)(hd:l.all aY=true):0<=bK l:=MB l 0 (by omega) hd
theorem TA(a b:List UInt8)(hd:(a++b).all aY=true):bK a<=bK (a++b):=by
 rw[List.all_append,Bool.and_eq_true]at hd;unfold bK;rw[List.foldl_append];exact MB b _ (Ei a hd.1) hd.2
def rdNum(l:List UInt8)(i:Nat):Int × Int × Nat :=
 if runN aY l i=0 then(2,0,i)
 else if 1<runN aY l i/\l[i]?=some 48 then(2,0,i)
 else if bK (au l i (runN aY l i)) > 999999999 then(3,0,i)
 else(0,bK (au l i (runN aY l i)),i+runN aY l i)
def jh(strict:Bool)(p:List UInt8):Bool:=strict && (p.all aY && (decide (1<p.length) && decide (p[0]?=some 48)))
def aX(strict:Bool)(l:List UInt8)(i:Nat):Int × Nat :=
 if runN aS l i=0 then(2,i)
 else if jh strict (au l i (runN aS l i))=true then(2,i)
 else if h:l[i+runN aS l i]?=some 46 then aX strict l (i+runN aS l i+1)
 else(0,i+runN aS l i)
termination_by l.length-i
decreasing_by
 have:=(List.getElem?_eq_some_iff.1 h).1;omega
theorem Ej(strict:Bool)(l:List UInt8)(i:Nat):aX strict l i =
 if runN aS l i=0 then(2,i)
 else if jh strict (au l i (runN aS l i))=true then(2,i)
 else if l[i+runN aS l i]?=some 46 then aX strict l (i+runN aS l i+1)
 else(0,i+runN aS l i):=by
 rw[aX];split
 ·rfl
 ·split
  ·rfl
  ·split<;>rfl
def nJ(strict:Bool)(p:List UInt8):Bool:=!p.isEmpty && p.all aS && !jh strict p
def iq(strict:Bool)(l:List UInt8):Bool:=l.isEmpty || (di l).all (nJ strict)
theorem TC(h:aS c=true):c≠46:=by
 intro e;subst e;exact absurd h (by decide)
theorem TD(c:UInt8)(hc:c≠46)(r:List UInt8):∀(q:List UInt8),(∀x∈q,x≠46)->∃t ps,di (q++c :: r)=(q++c :: t) :: ps
 | [],_=>by
  rw[List.nil_append,y9,if_neg hc]
  cases h:di r with
  |nil=>exact absurd h (Ig r)
  |cons p ps=>exact⟨p,ps,rfl⟩
 | x :: q,h=>by
  obtain⟨t,ps,e⟩:=TD c hc r q (fun y hy=>h y (List.mem_cons_of_mem _ hy));rw[List.cons_append,y9,if_neg (h x (List.mem_cons_self ..)),e];exact⟨t,ps,rfl⟩
theorem aaY(l:List UInt8)(i:Nat)(p:UInt8->Bool):l.drop i=au l i (runN p l i)++l.drop (i+runN p l i):=by
 unfold au;rw[<-List.drop_drop,List.take_append_drop]
theorem AY(p:UInt8->Bool)(l:List UInt8)(i:Nat):(au l i (runN p l i)).all p=true:=by
 rw[aaX];exact List.all_takeWhile
theorem tZ(l:List UInt8)(i k:Nat)(h:i+k<=l.length):(au l i k).length=k:=by
 unfold au;simp;omega
theorem aaZ(s:Bool)(l:List UInt8):∀(n i:Nat),l.length-i=n->i<=l.length->(aX s l i=(0,l.length)↔(di (l.drop i)).all (nJ s)=true):=by
 intro n
 induction n using Nat.strongRecOn with
 |ind n ih=>
  intro i hn hi;have hle:=pF aS l i hi;have hd:=aaY l i aS;have hall:=AY aS l i;have hlen:=tZ l i _ hle;have hnd:=fun x (hx:x∈au l i (runN aS l i))=>TC (List.all_eq_true.1 hall x hx)
  rw[Ej]
  -- what stands behind the run
  rcases Nat.lt_or_ge (i+runN aS l i) l.length with hlt|hge
  ·have hst:=AX aS l i hlt;rw[List.drop_eq_getElem_cons hlt]at hd
   by_cases h46:l[i+runN aS l i]=46
   ·rw[h46]at hd;have hsp:di (l.drop i)=au l i (runN aS l i) :: di (l.drop (i+runN aS l i+1)):=by
     rw[hd];exact Ii _ _ hnd
    have hg:l[i+runN aS l i]?=some 46:=by rw[List.getElem?_eq_getElem hlt,h46]
    rw[hsp,List.all_cons,Bool.and_eq_true]
    by_cases h0:runN aS l i=0
    ·rw[if_pos h0];have:au l i (runN aS l i)=[]:=List.length_eq_zero_iff.1 (by omega);rw[this];constructor
     ·intro h;simp at h
     ·rintro⟨h,_⟩;simp[nJ]at h
    ·rw[if_neg h0]
     by_cases hb:jh s (au l i (runN aS l i))=true
     ·rw[if_pos hb];constructor
      ·intro h;simp at h
      ·rintro⟨h,_⟩;simp[nJ,hb]at h
     ·rw[if_neg hb,if_pos hg];have hok:nJ s (au l i (runN aS l i))=true:=by
       have h1:(au l i (runN aS l i)).isEmpty=false:=by
        cases h:au l i (runN aS l i) with
        |nil=>rw[h]at hlen;simp at hlen;omega
        |cons c r=>rfl
       have h2:jh s (au l i (runN aS l i))=false:=by simpa using hb
       simp[nJ,h1,hall,h2]
      rw[ih (l.length-(i+runN aS l i+1)) (by omega) (i+runN aS l i+1) rfl (by omega)];simp[hok]
   ·obtain⟨t,ps,e⟩:=TD _ h46 (l.drop (i+runN aS l i+1)) _ hnd;rw[<-hd]at e;have hbad:nJ s (au l i (runN aS l i)++l[i+runN aS l i] :: t)=false:=by
     unfold nJ;rw[List.all_append,List.all_cons,hst];simp
    have hg:¬l[i+runN aS l i]?=some 46:=by
     rw[List.getElem?_eq_getElem hlt];simpa using h46
    rw[e,List.all_cons,hbad,if_neg hg];have hne:¬i+runN aS l i=l.length:=by omega
    by_cases h0:runN aS l i=0
    ·rw[if_pos h0];simp
    ·rw[if_neg h0];split<;>simp[hne]
  ·have hn0:=List.drop_of_length_le hge;rw[hn0,List.append_nil]at hd;have hsp:di (l.drop i)=[au l i (runN aS l i)]:=by
    rw[hd];exact Ih _ hnd
   have hg:¬l[i+runN aS l i]?=some 46:=by
    rw[List.getElem?_eq_none hge];simp
   rw[hsp,List.all_cons,List.all_nil,Bool.and_true,if_neg hg];have heq:i+runN aS l i=l.length:=by omega
   by_cases h0:runN aS l i=0
   ·rw[if_pos h0];have:au l i (runN aS l i)=[]:=List.length_eq_zero_iff.1 (by omega);rw[this];simp[nJ]
   ·rw[if_neg h0];have h1:(au l i (runN aS l i)).isEmpty=false:=by
     cases h:au l i (runN aS l i) with
     |nil=>rw[h]at hlen;simp at hlen;omega
     |cons c r=>rfl
    by_cases hb:jh s (au l i (runN aS l i))=true
    ·rw[if_pos hb];simp[nJ,hb]
    ·rw[if_neg hb];have h2:jh s (au l i (runN aS l i))=false:=by simpa using hb
     simp[nJ,h1,hall,h2,heq]
theorem aa0(s:Bool)(l:List UInt8)(h:l≠[]):decide (aX s l 0=(0,l.length))=iq s l:=by
 have e:=aaZ s l _ 0 rfl (Nat.zero_le _);rw[List.drop_zero]at e;have h1:l.isEmpty=false:=by simpa using h
 unfold iq;rw[h1,Bool.false_or,Bool.eq_iff_iff];simp only[decide_eq_true_eq];exact e
def nx(l:List UInt8)(i:Nat):Int:=match l[i]? with|some c=>(c.toNat:Int)|none=>-1
theorem qG(l:List UInt8)(i:Nat)(h:i<l.length):nx l i=(l[i].toNat:Int):=by simp[nx,List.getElem?_eq_getElem h]
theorem jF(l:List UInt8)(i:Nat)(h:l.length<=i):nx l i=-1:=by simp[nx,List.getElem?_eq_none h]
theorem bD(h:0<=nx l i):i<l.length:=by
 apply Classical.byContradiction;intro hn;rw[jF l i (by omega)]at h;exact absurd h (by decide)
theorem Ip(l:List UInt8)(i:Nat):-1<=nx l i/\nx l i<256:=by
 by_cases h:i<l.length
 ·rw[qG l i h];have:=l[i].toNat_lt;omega
 ·rw[jF l i (by omega)];decide
def toR(p:Int->Bool)(l:List UInt8)(i:Nat):Nat:=i+runN (fun c=>p (c.toNat:Int)) l i
theorem rO(p:Int->Bool)(l:List UInt8)(i:Nat)(hi:i<l.length)(h:p (nx l i)=true):toR p l i=toR p l (i+1):=by
 rw[qG l i hi]at h;unfold toR runN;rw[List.drop_eq_getElem_cons hi,List.takeWhile_cons];simp only[h,if_true,List.length_cons];omega
theorem mJ(p:Int->Bool)(l:List UInt8)(i:Nat)(h:p (nx l i)=false):toR p l i=i:=by
 unfold toR runN
 by_cases hi:i<l.length
 ·rw[qG l i hi]at h;rw[List.drop_eq_getElem_cons hi,List.takeWhile_cons];simp[h]
 ·rw[List.drop_eq_nil_of_le (by omega)];simp
theorem qH(p:Int->Bool)(l:List UInt8)(i:Nat)(hi:i<=l.length):i<=toR p l i/\toR p l i<=l.length:=by
 unfold toR runN;have h1:=(List.takeWhile_sublist (fun c:UInt8=>p (c.toNat:Int)) (l:=l.drop i)).length_le;rw[List.length_drop]at h1;omega
def gu(c:Int):Bool:=decide (c=32\/c=9)
def aI(c:Int):Bool:=decide (48<=c/\c<=57)
def dN(c:Int):Bool:=decide (97<=c/\c<=122)
def bP(c:Int):Bool:=dN c || decide (65<=c/\c<=90) || aI c || decide (c=95) || decide (c=45)
def AZ(c:Int):Bool:=decide ((0<=c/\c<32)\/c=127)
def jG(c:Int):Bool:=AZ c && decide (c≠9)
def eQ(c:Int):Bool:=decide (c≠10) && !jG c
def bH(l:List UInt8)(i:Nat):Bool × Nat:=if nx l i=35 then(if nx l (toR eQ l i)=10\/nx l (toR eQ l i)=-1 then(true,toR eQ l i) else(false,toR eQ l i)) else(true,i)
theorem Iq(l:List UInt8)(i:Nat)(h:¬nx l i=35):bH l i=(true,i):=by unfold bH;rw[if_neg h]
def bl(l:List UInt8)(i:Nat):Nat:=toR gu l i
theorem aa1(u:Nat)(h:u<10):(UInt8.ofNat (48+u)).toNat=48+u:=by
 show(48+u) % 256=48+u;omega
theorem aa2(l:List UInt8)(hne:l≠[])(hd:l.all aY=true)(hz:¬(1<l.length/\l[0]?=some 48)):Lib.decDigits (bK l).toNat=l:=by
 -- the last digit off
 have key:∀(n:Nat) (l:List UInt8),l.length=n->l≠[]->l.all aY=true->¬(1<l.length/\l[0]?=some 48)->Lib.decDigits (bK l).toNat=l/\(1<l.length->0<bK l.dropLast):=by
  intro n
  induction n with
  |zero=>intro l hl hne;exact absurd (List.length_eq_zero_iff.1 hl) hne
  |succ n ih=>
   intro l hl hne hd hz;obtain⟨q,c,rfl⟩:∃q c,l=q++[c]:=⟨l.dropLast,l.getLast hne,(List.dropLast_concat_getLast hne).symm⟩;have hd':=hd;rw[List.all_append,Bool.and_eq_true]at hd';have hc:=AV (show aY c=true by simpa using hd'.2);have hcv:UInt8.ofNat (48+(c.toNat - 48))=c:=by
    apply UInt8.toNat_inj.1;rw[aa1 _ (by omega)];omega
   rw[List.dropLast_concat]
   by_cases hq:q=[]
   ·subst hq;refine⟨?_,by simp⟩;have hv:bK ([]++[c])=(c.toNat:Int)-48:=by show rJ 0 c=_;unfold rJ;omega
    have hn:((c.toNat:Int)-48).toNat=c.toNat - 48:=by omega
    rw[hv,hn,Lib.decDigits_one (by omega),hcv];rfl
   ·have jH:=List.length_pos_iff.2 hq;have hz1:q[0]?≠some 48:=by
     intro h;refine hz ⟨by simp;omega,?_⟩;rw[List.getElem?_append_left jH];exact h
    have hlen:q.length=n:=by simp at hl;exact hl
    have h1:=ih q hlen hq hd'.1 (fun h=>hz1 h.2);have hpos:0<bK q:=by
     rcases Nat.lt_or_ge 1 q.length with hgt|hle
     ·have h2:=h1.2 hgt;have:bK q.dropLast<=bK q:=by
       conv=>rhs;rw[<-List.dropLast_concat_getLast hq]
       exact TA _ _ (by rw[List.dropLast_concat_getLast hq];exact hd'.1)
      omega
     ·obtain⟨x,rfl⟩:∃x,q=[x]:=List.length_eq_one_iff.1 (by omega);have hx:=AV (show aY x=true by simpa using hd'.1);have hx0:x.toNat≠48:=fun hh=>hz1 (by
       have:x=48:=UInt8.toNat_inj.1 hh;rw[this];rfl)
      show 0<rJ 0 x;unfold rJ;omega
    refine⟨?_,fun _=>hpos⟩;rw[Tz];have hv:(rJ (bK q) c).toNat=10*(bK q).toNat+(c.toNat - 48):=by unfold rJ;omega
    rw[hv,Lib.decDigits,dif_neg (by omega)];have e1:(10*(bK q).toNat+(c.toNat - 48)) / 10=(bK q).toNat:=by omega
    have e2:(10*(bK q).toNat+(c.toNat - 48)) % 10=c.toNat - 48:=by omega
    rw[e1,e2,h1.1,hcv]
 exact(key _ l rfl hne hd hz).1
theorem aa3(l:List UInt8)(i:Nat)(hi:i<=l.length)(h:(rdNum l i).1=0) :
  ∃k,0<k/\i+k<=l.length/\(rdNum l i).2.2=i+k/\au l i k=Lib.decDigits (rdNum l i).2.1.toNat/\0<=(rdNum l i).2.1/\(rdNum l i).2.1<=999999999:=by
 have hle:=pF aY l i hi;have hall:=AY aY l i;have hlen:=tZ l i _ hle;unfold rdNum at h ⊢
 by_cases h0:runN aY l i=0
 ·rw[if_pos h0]at h;simp at h
 ·rw[if_neg h0]at h ⊢
  by_cases hz:1<runN aY l i/\l[i]?=some 48
  ·rw[if_pos hz]at h;simp at h
  ·rw[if_neg hz]at h ⊢
   by_cases hv:bK (au l i (runN aY l i)) > 999999999
   ·rw[if_pos hv]at h;simp at h
   ·rw[if_neg hv];refine⟨runN aY l i,by omega,hle,rfl,?_,Ei _ hall,Int.not_lt.1 hv⟩;have hne:au l i (runN aY l i)≠[]:=fun e=>by rw[e]at hlen;simp at hlen;omega
    have h48:(au l i (runN aY l i))[0]?=l[i]?:=by
     unfold au;rw[List.getElem?_take_of_lt (by omega),List.getElem?_drop];rfl
    rw[aa2 _ hne hall (by rw[hlen,h48];exact hz)]
theorem aa4(l:List UInt8)(i k j:Nat)(hk:i+k<j)(hj:j<=l.length)(h46:l[i+k]?=some 46) :
  au l i (j-i)=au l i k++46 :: au l (i+k+1) (j-(i+k+1)):=by
 unfold au;obtain⟨hlt,e⟩:=List.getElem?_eq_some_iff.1 h46;have h1:j-i=k+((j-(i+k+1))+1):=by omega
 rw[h1,List.take_add,List.drop_drop,List.drop_eq_getElem_cons hlt,List.take_succ_cons,e]
theorem Ir(s:Bool)(l:List UInt8):∀(n i:Nat),l.length-i=n->i<=l.length->(aX s l i).1=0 →
  i<(aX s l i).2/\(aX s l i).2<=l.length/\(di (au l i ((aX s l i).2-i))).all (nJ s)=true:=by
 intro n
 induction n using Nat.strongRecOn with
 |ind n ih=>
  intro i hn hi h;have hle:=pF aS l i hi;have hall:=AY aS l i;have hlen:=tZ l i _ hle;have hnd:=fun x (hx:x∈au l i (runN aS l i))=>TC (List.all_eq_true.1 hall x hx)
  rw[Ej]at h ⊢
  by_cases h0:runN aS l i=0
  ·rw[if_pos h0]at h;simp at h
  ·rw[if_neg h0]at h ⊢
   by_cases hb:jh s (au l i (runN aS l i))=true
   ·rw[if_pos hb]at h;simp at h
   ·rw[if_neg hb]at h ⊢;have hok:nJ s (au l i (runN aS l i))=true:=by
     have h1:(au l i (runN aS l i)).isEmpty=false:=by
      cases h:au l i (runN aS l i) with
      |nil=>rw[h]at hlen;simp at hlen;omega
      |cons c r=>rfl
     have h2:jh s (au l i (runN aS l i))=false:=by simpa using hb
     simp[nJ,h1,hall,h2]
    by_cases hg:l[i+runN aS l i]?=some 46
    ·rw[if_pos hg]at h ⊢;have hlt:=(List.getElem?_eq_some_iff.1 hg).1;obtain⟨g1,g2,g3⟩:=ih (l.length-(i+runN aS l i+1)) (by omega) (i+runN aS l i+1) rfl (by omega) h;refine⟨by omega,g2,?_⟩;rw[aa4 l i (runN aS l i) _ (by omega) g2 hg,Ii _ _ hnd,List.all_cons,hok,g3];rfl
    ·rw[if_neg hg];refine⟨by simp only;omega,hle,?_⟩;simp only;rw[show i+runN aS l i-i=runN aS l i by omega,Ih _ hnd];simp[hok]
structure Vv where
 major:Int
 minor:Int
 patch:Int
 pre:List UInt8
 build:List UInt8
def zeroV:Vv:=⟨0,0,0,[],[]⟩
def bC(c:UInt8)(s:Bool)(l:List UInt8)(i:Nat):Int × Nat × List UInt8 :=
 if l[i]?=some c then
  (if(aX s l (i+1)).1=0 then(0,(aX s l (i+1)).2,au l (i+1) ((aX s l (i+1)).2-(i+1))) else((aX s l (i+1)).1,(aX s l (i+1)).2,[]))
 else(0,i,[])
def bZ(l:List UInt8):Int × Nat × Int × Int × Int :=
 if(rdNum l 0).1=0 then
  if l[(rdNum l 0).2.2]?=some 46 then
   if(rdNum l ((rdNum l 0).2.2+1)).1=0 then
    if l[(rdNum l ((rdNum l 0).2.2+1)).2.2]?=some 46 then
     if(rdNum l ((rdNum l ((rdNum l 0).2.2+1)).2.2+1)).1=0 then
      (0,(rdNum l ((rdNum l ((rdNum l 0).2.2+1)).2.2+1)).2.2,(rdNum l 0).2.1,(rdNum l ((rdNum l 0).2.2+1)).2.1,(rdNum l ((rdNum l ((rdNum l 0).2.2+1)).2.2+1)).2.1)
     else((rdNum l ((rdNum l ((rdNum l 0).2.2+1)).2.2+1)).1,(rdNum l ((rdNum l ((rdNum l 0).2.2+1)).2.2+1)).2.2,0,0,0)
    else(2,(rdNum l ((rdNum l 0).2.2+1)).2.2,0,0,0)
   else((rdNum l ((rdNum l 0).2.2+1)).1,(rdNum l ((rdNum l 0).2.2+1)).2.2,0,0,0)
  else(2,(rdNum l 0).2.2,0,0,0)
 else((rdNum l 0).1,(rdNum l 0).2.2,0,0,0)
def eU(l:List UInt8):Int × Nat × Vv :=
 if(bZ l).1=0 then
  if(bC 45 true l (bZ l).2.1).1=0 then
   if(bC 43 false l (bC 45 true l (bZ l).2.1).2.1).1=0 then
    if(bC 43 false l (bC 45 true l (bZ l).2.1).2.1).2.1<l.length then(2,(bC 43 false l (bC 45 true l (bZ l).2.1).2.1).2.1,zeroV)
    else(0,0,⟨(bZ l).2.2.1,(bZ l).2.2.2.1,(bZ l).2.2.2.2,(bC 45 true l (bZ l).2.1).2.2,(bC 43 false l (bC 45 true l (bZ l).2.1).2.1).2.2⟩)
   else((bC 43 false l (bC 45 true l (bZ l).2.1).2.1).1,(bC 43 false l (bC 45 true l (bZ l).2.1).2.1).2.1,zeroV)
  else((bC 45 true l (bZ l).2.1).1,(bC 45 true l (bZ l).2.1).2.1,zeroV)
 else((bZ l).1,(bZ l).2.1,zeroV)
def kU(l:List UInt8):Int × Nat × Vv:=if 100<l.length then(1,0,zeroV) else eU l
def bound(n:Int):Bool:=decide (0<=n) && decide (n<=1000000000)
theorem ug:bound n=true↔0<=n/\n<=1000000000:=by unfold bound;simp
def nM(v:Vv):Bool:=bound v.major && (bound v.minor && (bound v.patch && (iq true v.pre && iq false v.build)))
theorem aa5(h:0<=n):Lib.itoa n=Lib.decDigits n.toNat:=by unfold Lib.itoa;rw[if_neg (by omega)]
theorem aa6{s:Bool}(h:iq s l=true)(hne:l≠[]):(di l).all (nJ s)=true:=by
 have:l.isEmpty=false:=by simpa using hne
 unfold iq at h;rw[this,Bool.false_or]at h;exact h
theorem aa7{k:Nat}:l.drop i=au l i k++l.drop (i+k):=by
 unfold au;rw[<-List.drop_drop,List.take_append_drop]
theorem drop_cons(h:l[i]?=some c):l.drop i=c :: l.drop (i+1)/\i<l.length:=by
 obtain⟨hlt,e⟩:=List.getElem?_eq_some_iff.1 h;rw[List.drop_eq_getElem_cons hlt,e];exact⟨rfl,hlt⟩
theorem MC(l:List UInt8)(i:Nat)(hi:i<=l.length)(h:(rdNum l i).1=0) :
  (rdNum l i).2.2<=l.length/\l.drop i=Lib.itoa (rdNum l i).2.1++l.drop (rdNum l i).2.2/\0<=(rdNum l i).2.1/\(rdNum l i).2.1<=999999999:=by
 obtain⟨k,h1,h2,h3,h4,h5,h6⟩:=aa3 l i hi h;refine⟨by omega,?_,h5,h6⟩;rw[aa5 h5,<-h4,h3];exact aa7
theorem aa8(l:List UInt8)(h:(bZ l).1=0) :
  (bZ l).2.1<=l.length/\l=Lib.itoa (bZ l).2.2.1++46 :: (Lib.itoa (bZ l).2.2.2.1++46 :: (Lib.itoa (bZ l).2.2.2.2++l.drop (bZ l).2.1)) ∧
  (0<=(bZ l).2.2.1/\(bZ l).2.2.1<=999999999)/\(0<=(bZ l).2.2.2.1/\(bZ l).2.2.2.1<=999999999)/\(0<=(bZ l).2.2.2.2/\(bZ l).2.2.2.2<=999999999):=by
 unfold bZ at h ⊢;split at h
 ·rename_i e1;split at h
  ·rename_i g1;split at h
   ·rename_i e2;split at h
    ·rename_i g2;split at h
     ·rename_i e3;obtain⟨a1,a2,a3⟩:=MC l 0 (Nat.zero_le _) e1;obtain⟨c1,c2⟩:=drop_cons g1;obtain⟨b1,b2,b3⟩:=MC l _ (by omega) e2;obtain⟨c3,c4⟩:=drop_cons g2;obtain⟨d1,d2,d3⟩:=MC l _ (by omega) e3;simp only[e1,g1,e2,g2,e3,if_true];refine⟨d1,?_,a3,b3,d3⟩;rw[List.drop_zero]at a2;rw[<-d2,<-c3,<-b2,<-c1];exact a2
     ·rename_i e;exact absurd h e
    ·simp at h
   ·rename_i e;exact absurd h e
  ·simp at h
 ·rename_i e;exact absurd h e
open Go.RowKit
theorem zN{α:Sort _}(a:α):∃z,a=z:=⟨a,rfl⟩
theorem bJ{α:Type _}{xs:Array α}{v:α}(h:xs[i]?=some v):i<xs.size:=(Array.getElem?_eq_some_iff.1 h).1
theorem aj{b:Nat}{cs:Array Value}{T:TypeId}{fr:Nat×Nat}(hb:w.heap[b]?=some (.cells cs T fr))(j:Nat):w.cell? ⟨b,j,none⟩=cs[j]?:=by simp[World.cell?,hb]
def Hd(p:Prop):Prop:=p
theorem ae{p:Prop}(h:p):Hd p:=h
theorem Hd.o{p:Prop}(h:Hd p):p:=h
theorem dm{k:IntKind}{a b:Int}(h:a=b):Ending.returned (.int k a)=.returned (.int k b):=by rw[h]
theorem bu{a b:Bool}(h:a=b):Ending.returned (.bool a)=.returned (.bool b):=by rw[h]
theorem A7(c:UInt8)(w:World):Calls prog 142 #[.int .u8 (c.toNat:Int)] w fun e w'=>e=.returned (.bool (aY c))/\w'=w:=by
 go_enter func142,ntmps142;go_wp2
 all_goals go_ret
 all_goals (refine⟨bu ?_,rfl⟩;rw[Bool.eq_iff_iff];unfold aY;simp;omega)
theorem ax(w:World)(r:Option Nat):w.grownBy w r:=⟨rfl,rfl,rfl,Nat.le_refl _,fun _ _ _=>rfl⟩
theorem az(h:w.grownBy w' r)(n:Nat):w.grownBy (w'.drewN n) r:=⟨h.os,h.tape,h.output,h.size,h.block⟩
theorem aT{b:Nat}(h:w.grownBy w' (some b))(o:Nat)(v:Value):w.grownBy (w'.setCell ⟨b,o,none⟩ v) (some b):=by
 refine⟨h.os,h.tape,h.output,by simpa [World.setCell] using h.size,fun k hk hne=>?_⟩;rw[<-h.block k hk hne];exact heap_setCell_other w' _ k v (fun e=>hne (by rw[e]))
theorem ak(h:w.grownBy w1 r)(h':w1.grownBy w2 r):w.grownBy w2 r :=
 ⟨h'.os.trans h.os,h'.tape.trans h.tape,h'.output.trans h.output,Nat.le_trans h.size h'.size,fun k hk hne=>(h'.block k (Nat.lt_of_lt_of_le hk h.size) hne).trans (h.block k hk hne)⟩
theorem lZ(s:ByteArray)(i:Nat)(h:i<s.size):s.data.toList[i]?=some s[i]:=by rw[List.getElem?_eq_getElem (by simpa using h)];rfl
theorem mM(s:ByteArray)(i j:Nat)(hi:i<=j)(hj:j<=s.size)(w:World) :
  (Instr.slice 9 (.string s) (some (.int .i64 (i:Int))) (some (.int .i64 (j:Int))) none).run prog w=.ok (.string ⟨(au s.data.toList i (j-i)).toArray⟩) w:=by
 have h1:(0:Int)<=(i:Int):=by omega
 have h4:(i:Int)<=(j:Int):=by omega
 have h5:(j:Int)<=(s.size:Int):=by omega
 have e:s.extract i j=⟨(au s.data.toList i (j-i)).toArray⟩:=by
  apply ByteArray.ext;rw[ByteArray.data_extract];apply Array.ext';unfold au;simp
 rw[<-e];simp[go_sem,underlying9,h1,h4,h5]
open Go.Joins
theorem aa9(c:Int)(w:World):Calls prog 95 #[.int .i64 c] w fun e w'=>e=.returned (.bool (gu c))/\w'=w:=by
 go_enter func95,ntmps95;go_wp2
 all_goals go_ret
 all_goals (refine⟨bu ?_,rfl⟩;rw[Bool.eq_iff_iff];unfold gu;simp;try omega)
theorem Iu(c:Int)(w:World):Calls prog 99 #[.int .i64 c] w fun e w'=>e=.returned (.bool (aI c))/\w'=w:=by
 go_enter func99,ntmps99;go_wp2
 all_goals go_ret
 all_goals (refine⟨bu ?_,rfl⟩;rw[Bool.eq_iff_iff];unfold aI;simp;try omega)
theorem TE(c:Int)(w:World):Calls prog 98 #[.int .i64 c] w fun e w'=>e=.returned (.bool (dN c))/\w'=w:=by
 go_enter func98,ntmps98;go_wp2
 all_goals go_ret
 all_goals (refine⟨bu ?_,rfl⟩;rw[Bool.eq_iff_iff];unfold dN;simp;try omega)
theorem aP(h:w.grownBy w1 r)(hg:w1.grownBy w2 none):w.grownBy w2 r :=
 ⟨hg.os.trans h.os,hg.tape.trans h.tape,hg.output.trans h.output,Nat.le_trans h.size hg.size,fun k hk hn=>(hg.block k (Nat.lt_of_lt_of_le hk h.size) (by simp)).trans (h.block k hk hn)⟩
def Rd(w:World)(R:Nat)(s:ByteArray)(i:Nat)(T:Nat):Prop:=w.heap[R]?=some (.cells #[.string s,.int .i64 i,.pointer (some ⟨T,0,none⟩)] 94 (0,0))
theorem Rd.grow(h:Rd w R s i T)(hg:w.grownBy w' none):Rd w' R s i T:=(hg.block R (Array.getElem?_eq_some_iff.1 h).1 (by simp)).trans h
theorem Rd.cells(h:Rd w R s i T):w.cell? ⟨R,0,none⟩=some (.string s)/\w.cell? ⟨R,1,none⟩=some (.int .i64 i)/\w.cell? ⟨R,2,none⟩=some (.pointer (some ⟨T,0,none⟩))/\∀k,w.frozen? ⟨R,k,none⟩=false :=
 ⟨by rw[Lib.cell_of_heap h];rfl,by rw[Lib.cell_of_heap h];rfl,by rw[Lib.cell_of_heap h];rfl,fun k=>Lib.frozen_of_heap h k⟩
theorem Rd.set(h:Rd w R s i T)(j:Nat):Rd (w.setCell ⟨R,1,none⟩ (.int .i64 j)) R s j T:=by
 have:=block_setCell (i:=1) h (.int .i64 j);exact this
theorem nN(R:Nat)(s:ByteArray)(i T:Nat)(w:World)(h:Rd w R s i T)(hi:i<=s.size)(hs:s.size<=1048576) :
  Calls prog 67 #[.pointer (some ⟨R,0,none⟩)] w fun e w'=>e=.returned (.int .i64 (nx s.data.toList i))/\w.grownBy w' none:=by
 obtain⟨c0,c1,-,-⟩:=h.cells;have hl:s.data.toList.length=s.size:=by simp
 by_cases he:i=s.size
 ·have hn:nx s.data.toList i=-1:=jF _ _ (by omega);rw[hn];have hee:((i:Int) == (s.size:Int))=true:=by simp[he]
  clear h hn he;go_enter func67,ntmps67;go_wp2;go_quiet (fail);go_wp2;go_ret;exact⟨rfl,az (ax w none) _⟩
 ·have hlt:i<s.size:=by omega
  have hn:nx s.data.toList i=(s[i].toNat:Int):=by
   rw[qG _ _ (by omega)];rfl
  rw[hn];have hne:((i:Int) == (s.size:Int))=false:=by rw[beq_eq_false_iff_ne];omega
  clear h hn he;go_enter func67,ntmps67;go_wp2;go_quiet (fail);go_wp2;go_quiet (fail);go_wp2;go_ret;refine⟨dm ?_,⟨rfl,rfl,rfl,Nat.le_refl _,fun _ _ _=>rfl⟩⟩;have:=s[i].toNat_lt;show wrap64 (s[i].toNat:Int)=_;unfold wrap64;omega
theorem Iw(R:Nat)(s:ByteArray)(i T:Nat)(w:World)(h:Rd w R s i T)(hi:i<=s.size)(hs:s.size<=1048576) :
  Calls prog 66 #[.pointer (some ⟨R,0,none⟩)] w fun e w'=>e=.returned (.tuple #[])/\Rd w' R s (bl s.data.toList i) T/\w.grownBy w' (some R):=by
 have CN:=ae (fun k w (h1:Rd w R s k T) (h2:k<=s.size)=>nN R s k T w h1 h2 hs);have CB:=ae aa9;have hl:s.data.toList.length=s.size:=by simp
 have HST:Hd (∀k,k<s.size->gu (nx s.data.toList k)=true->bl s.data.toList k=bl s.data.toList (k+1)):=fun k hk hb=>rO gu _ k (by omega) hb
 have gQ:Hd (∀k,gu (nx s.data.toList k)=false->bl s.data.toList k=k):=fun k hb=>mJ gu _ k hb
 have dC:Hd (∀k,k<=s.size->gu (nx s.data.toList k)=true->k<s.size):=fun k hk hb=>by
  apply Classical.byContradiction;intro hn;rw[jF _ _ (by omega)]at hb;exact absurd hb (by decide)
 obtain⟨J,hJ⟩:=zN (bl s.data.toList i);have HJ:=ae hJ;have H0:=ae h;rw[hJ];clear h hJ;go_enter func66,ntmps66;go_wp2;go_loopw [] (fun wr=>∃k:Nat,Rd wr R s k T/\k<=s.size/\bl s.data.toList k=J/\w.grownBy wr (some R)) (fun wr=>s.size-(match wr.cell? ⟨R,1,none⟩ with|some (.int _ k)=>k.toNat|_=>0))
 case atStart=>exact⟨i,H0.o,hi,HJ.o,ax _ _⟩
 case round=>
  obtain⟨k,hrd,hk,hbl,hg⟩:=hrel;have dJ:=ae hrd;have fV:=ae hbl;have HG:=ae hg;have C1:=ae (CN.o k wr hrd hk);have hme:(match wr.cell? ⟨R,1,none⟩ with|some (.int _ k)=>k.toNat|_=>0)=k:=by rw[hrd.cells.2.1];simp
  have eY:=ae hme;have dP:=ae (fun(hb:gu (nx s.data.toList k)=true)=>HST.o k (dC.o k hk hb) hb);have HS2:=ae (gQ.o k);have HL2:=ae (dC.o k hk);obtain⟨c,hc⟩:=zN (nx s.data.toList k);rw[hc]at C1 dP HS2 HL2;have fZ:=ae (fun w=>CB.o c w);obtain⟨b,hb⟩:=zN (gu c);rw[hb]at fZ dP HS2 HL2;clear hrd hbl hg hme hc hb
  cases b with
  |false=>
   have zg:=ae ((HS2.o (by trivial)).symm.trans fV.o);go_wp2_with (first|(go_at_call 67;refine C1.o.mono ?_;rintro e w2 ⟨rfl,hg2⟩)|(go_at_call 95;refine(fZ.o _).mono ?_;rintro e w' ⟨rfl,rfl⟩));refine bodyPost_end (results_none rfl _ _ _) rfl ⟨rfl,?_,aP HG.o hg2⟩;rw[<-zg.o];exact dJ.o.grow hg2
  |true=>
   have hkl:=HL2.o (by trivial);have HN:=ae ((dP.o (by trivial)).symm.trans fV.o);go_wp2_with (first|(go_at_call 67;refine C1.o.mono ?_;rintro e w2 ⟨rfl,hg2⟩;obtain⟨-,d1,-,df⟩:=(dJ.o.grow hg2).cells;have df1:=df 1)|(go_at_call 95;refine(fZ.o _).mono ?_;rintro e w' ⟨rfl,rfl⟩));have kV:Hd (Rd (w'.setCell ⟨R,1,none⟩ (.int .i64 ((k:Int)+1))) R s (k+1) T):=(dJ.o.grow hg2).set (k+1);refine⟨⟨k+1,kV.o,by omega,HN.o,aT (aP HG.o hg2) 1 _⟩,?_⟩;rw[eY.o,kV.o.cells.2.1];simp;omega
theorem aba(c:Int)(w:World):Calls prog 129 #[.int .i64 c] w fun e w'=>e=.returned (.bool (AZ c))/\w'=w:=by
 go_enter func129,ntmps129;go_wp2
 all_goals go_ret
 all_goals (refine⟨bu ?_,rfl⟩;rw[Bool.eq_iff_iff];unfold AZ;simp;try omega)
theorem TF(c:Int)(w:World):Calls prog 103 #[.int .i64 c] w fun e w'=>e=.returned (.bool (jG c))/\w'=w:=by
 have CC:=ae (fun w=>aba c w);have HB:Hd (jG c=(AZ c && decide (c≠9))):=rfl;obtain⟨b,hb⟩:=zN (AZ c);rw[hb]at CC HB;clear hb
 cases b with
 |false=>
  go_enter func103,ntmps103;go_wp2_with (go_at_call 129;refine(CC.o _).mono ?_;rintro e w' ⟨rfl,rfl⟩);go_ret;refine⟨bu ?_,rfl⟩;rw[HB.o];rfl
 |true=>
  go_enter func103,ntmps103;go_wp2_with (go_at_call 129;refine(CC.o _).mono ?_;rintro e w' ⟨rfl,rfl⟩)
  all_goals go_ret
  all_goals (refine⟨bu ?_,rfl⟩;rw[HB.o,Bool.eq_iff_iff];simp;try omega)
def FaultV(w:World)(v:Value)(p:Nat)(ty:TypeId)(pv:Value):Prop:=∃F,v=.iface 99 (.pointer (some ⟨F,0,none⟩))/\w.heap[F]?=some (.cells #[.int .i64 p,.iface ty pv] 103 (0,0))
theorem FaultV.grow{v:Value}{p:Nat}{ty:TypeId}{pv:Value}(h:FaultV w v p ty pv)(hg:w.grownBy w' none):FaultV w' v p ty pv:=by
 obtain⟨F,h1,h2⟩:=h;exact⟨F,h1,(hg.block F (Array.getElem?_eq_some_iff.1 h2).1 (by simp)).trans h2⟩
theorem uh(p:Nat)(ty:TypeId)(pv:Value)(w:World):Calls prog 124 #[.iface ty pv,.int .i64 p] w fun e w'=>(∃v,e=.returned v/\FaultV w' v p ty pv)/\w.grownBy w' none:=by
 have hn:=heap_alloc_new w (.cells #[.int .i64 p,.iface ty pv] 103);have hg:w.grownBy (w.alloc (.cells #[.int .i64 p,.iface ty pv] 103)) none:=World.grownBy_alloc w _ none;have HN:=ae hn;have HG:=ae hg;clear hn hg;go_enter func124,ntmps124;go_wp2;go_ret;exact⟨⟨_,rfl,_,rfl,HN.o⟩,HG.o⟩
def Iy(w:World)(ty:TypeId)(pv:Value):Prop:=w.cell? ⟨5,0,none⟩=some (.iface ty pv)
theorem xC(R:Nat)(s:ByteArray)(i T:Nat)(ty:TypeId)(pv:Value)(w:World)(h:Rd w R s i T)(he:Iy w ty pv) :
  Calls prog 104 #[.pointer (some ⟨R,0,none⟩)] w fun e w'=>(∃v,e=.returned v/\FaultV w' v i ty pv)/\w.grownBy w' none:=by
 have CW:=ae (fun w=>uh i ty pv w);obtain⟨-,c1,-,-⟩:=h.cells;have c0:w.cell? ⟨5,0,none⟩=some (.iface ty pv):=he;clear h he;go_enter func104,ntmps104;go_wp2;go_region_with (first|(go_at_call 124;refine(CW.o _).mono ?_;rintro e w2 ⟨⟨v,rfl,hv⟩,hg2⟩))
 all_goals (
  go_wp2;go_ret;exact⟨⟨v,rfl,hv⟩,ak (show w.grownBy w.drew none from⟨rfl,rfl,rfl,Nat.le_refl _,fun _ _ _=>rfl⟩) hg2⟩)
theorem MF(R:Nat)(s:ByteArray)(i T:Nat)(c:Int)(ty:TypeId)(pv:Value)(w:World)(h:Rd w R s i T)(hi:i<=s.size)(hs:s.size<=1048576)(hc:0<=c)(he:Iy w ty pv) :
  Calls prog 72 #[.pointer (some ⟨R,0,none⟩),.int .i64 c] w fun e w'=>(nx s.data.toList i=c->e=.returned .nilIface/\Rd w' R s (i+1) T)/\(¬nx s.data.toList i=c->(∃v,e=.returned v/\FaultV w' v i ty pv)/\Rd w' R s i T)/\w.grownBy w' (some R):=by
 have CN:=ae (nN R s i T w h hi hs);have CH:=ae (fun w' (hg:w.grownBy w' none)=>xC R s i T ty pv w' (h.grow hg) (hg.cell he (by simp)));have dJ:=ae h;obtain⟨x,hx⟩:=zN (nx s.data.toList i);rw[hx]at CN ⊢;clear h he hx;go_enter func72,ntmps72;go_wp2_with (go_at_call 67;refine CN.o.mono ?_);rintro e w2 ⟨rfl,hg2⟩;have HG2:=ae hg2;obtain⟨-,d1,-,df⟩:=(dJ.o.grow hg2).cells;have df1:=df 1;clear df hg2
 by_cases hxc:x=c
 ·have MG:=ae hxc;have HS:Hd (Rd (w2.setCell ⟨R,1,none⟩ (.int .i64 ((i:Int)+1))) R s (i+1) T):=(dJ.o.grow HG2.o).set (i+1);have hb:(x != c)=false:=by simp[hxc]
  clear hxc;go_wp2;refine bodyPost_ret (results_tmp (t:=4) rfl _ _ _) rfl ⟨fun _=>⟨rfl,HS.o⟩,fun hn=>absurd MG.o hn,aT (aP (ax w (some R)) HG2.o) 1 _⟩
 ·have hb:(x != c)=true:=by simp[hxc]
  have MG:=ae hxc;clear hxc;go_wp2_with (go_at_call 104;refine(CH.o _ HG2.o).mono ?_;rintro e w3 ⟨⟨v,rfl,hv⟩,hg3⟩);refine bodyPost_ret (results_tmp (t:=4) rfl _ _ _) rfl ⟨fun hh=>absurd hh MG.o,fun _=>⟨⟨v,rfl,hv⟩,(dJ.o.grow HG2.o).grow hg3⟩,aP (aP (ax w (some R)) HG2.o) hg3⟩
theorem Em(p:Int->Bool)(l:List UInt8)(i:Nat)(h:l.length<=i):toR p l i=i:=by
 unfold toR runN;rw[List.drop_eq_nil_of_le h];simp
theorem En(h:nx l i=-1):l.length<=i:=by
 apply Classical.byContradiction;intro hn;rw[qG l i (by omega)]at h;omega
def abb(R:Nat)(s:ByteArray)(T:Nat)(ty:TypeId)(pv:Value)(r:Bool × Nat)(w:World)(e:Ending)(w':World):Prop:=(r.1=true->e=.returned .nilIface)/\(r.1=false->∃v,e=.returned v/\FaultV w' v r.2 ty pv)/\Rd w' R s r.2 T/\w.grownBy w' (some R)
theorem TG(R:Nat)(s:ByteArray)(i T:Nat)(ty:TypeId)(pv:Value)(w:World)(h:Rd w R s i T)(hi:i<=s.size)(hs:s.size<=1048576)(he:Iy w ty pv)(hR:¬R=5) :
  Calls prog 71 #[.pointer (some ⟨R,0,none⟩)] w (abb R s T ty pv (bH s.data.toList i) w):=by
 have CN:=ae (fun k w (h1:Rd w R s k T) (h2:k<=s.size)=>nN R s k T w h1 h2 hs);have CB:=ae TF;have CH:=ae (fun k w' (hg:w.grownBy w' (some R)) (hr:Rd w' R s k T)=>xC R s k T ty pv w' hr (hg.cell he (by simp;exact fun e=>hR e.symm)));have hl:s.data.toList.length=s.size:=by simp
 have jI:Hd (¬nx s.data.toList i=35->bH s.data.toList i=(true,i)):=Iq _ i;have pG:Hd (nx s.data.toList i=35->bH s.data.toList i=if nx s.data.toList (toR eQ s.data.toList i)=10\/nx s.data.toList (toR eQ s.data.toList i)=-1 then(true,toR eQ s.data.toList i) else(false,toR eQ s.data.toList i)):=fun h=>by
  show _=_;unfold bH;rw[if_pos h]
 have HST:=ae (fun k (hk:k<s.size) (hb:eQ (nx s.data.toList k)=true)=>rO eQ _ k (by omega) hb);have gQ:=ae (fun k (hb:eQ (nx s.data.toList k)=false)=>mJ eQ _ k hb);have mO:=ae (fun k (hb:nx s.data.toList k=-1)=>Em eQ _ k (En hb));have dC:Hd (∀k,k<=s.size->¬nx s.data.toList k=-1->k<s.size):=fun k hk hn=>by
  apply Classical.byContradiction;intro hh;exact hn (jF _ _ (by omega))
 have dJ:=ae h;have C1:=ae (CN.o i w h hi);obtain⟨r,hr⟩:=zN (bH s.data.toList i);rw[hr]at jI pG ⊢;obtain⟨x,hx⟩:=zN (nx s.data.toList i);rw[hx]at C1 jI pG;obtain⟨J,hJ⟩:=zN (toR eQ s.data.toList i);have HJ:=ae hJ;rw[hJ]at pG;clear h he hr hx hJ;go_enter func71,ntmps71;go_wp2_with (go_at_call 67;refine C1.o.mono ?_);rintro e w1 ⟨rfl,hg1⟩;have aC:=ae (aP (ax w (some R)) hg1);have HR1:=ae (dJ.o.grow hg1);clear hg1
 by_cases hx:x=35
 ·have hb:(x != 35)=false:=by simp[hx]
  have HC:=ae (pG.o hx);clear hx;go_wp2;go_loopw [] (fun wr=>∃k:Nat,Rd wr R s k T/\k<=s.size/\toR eQ s.data.toList k=J/\w.grownBy wr (some R)) (fun wr=>s.size-(match wr.cell? ⟨R,1,none⟩ with|some (.int _ k)=>k.toNat|_=>0))
  case atStart=>exact⟨i,HR1.o,hi,HJ.o,aC.o⟩
  case round=>
   obtain⟨k,hrd,hk,hto,hg⟩:=hrel;have lI:=ae hrd;have nO:=ae hto;have kz:=ae hg;have eY:Hd ((match wr.cell? ⟨R,1,none⟩ with|some (.int _ k)=>k.toNat|_=>0)=k):=by show _=_;rw[hrd.cells.2.1];simp
   have dP:=HST.o k;have HS2:=gQ.o k;have kV:=mO.o k;have zh:=dC.o k hk;have HC2:=ae (fun w' (hg':wr.grownBy w' none)=>CN.o k w' (lI.o.grow hg') hk);have Iz:Hd (toR eQ s.data.toList k=k->r=if nx s.data.toList k=10\/nx s.data.toList k=-1 then(true,k) else(false,k)):=fun h1=>by
    have e1:=nO.o.symm.trans h1;have h2:=HC.o;rw[e1]at h2;exact h2
   obtain⟨c,hc⟩:=zN (nx s.data.toList k);rw[hc]at dP HS2 kV zh HC2 Iz;have H1:=ae dP;have H2:=ae HS2;have H3:=ae kV;have H4:=ae zh;have IA:Hd (eQ c=(decide (c≠10) && !jG c)):=rfl;clear hrd hto hg dP HS2 kV zh hc
   by_cases he:c=-1
   ·have hbe:(c != -1)=false:=by simp[he]
    have HRR:Hd (r=(true,k)):=by
     show r=_;rw[Iz.o (H3.o he),if_pos (Or.inr he)]
    clear he;go_wp2_with (go_at_call 67;refine(HC2.o _ (ax _ _)).mono ?_);rintro e w2 ⟨rfl,hg2⟩;have HG2:=ae hg2;clear hg2;go_wp2;refine bodyPost_ret (results_tmp (t:=2) rfl _ _ _) rfl ?_;rw[HRR.o];exact⟨fun _=>rfl,nofun,lI.o.grow HG2.o,aP kz.o HG2.o⟩
   ·have hbe:(c != -1)=true:=by simp[he]
    have hkl:=H4.o he;have nP:=ae he;clear he;go_wp2_with (go_at_call 67;refine(HC2.o _ (ax _ _)).mono ?_);rintro e w2 ⟨rfl,hg2⟩;have HG2:=ae hg2;clear hg2;go_wp2_with (go_at_call 67;refine(HC2.o _ HG2.o).mono ?_);rintro e w3 ⟨rfl,hg3⟩;have aU:=ae (ak HG2.o hg3);clear hg3
    by_cases h10:c=10
    ·have abd:(c != 10)=false:=by simp[h10]
     have HRR:Hd (r=(true,k)):=by
      show r=_;rw[Iz.o (H2.o (by rw[IA.o,h10];rfl)),if_pos (Or.inl h10)]
     clear h10;go_wp2;refine bodyPost_ret (results_tmp (t:=2) rfl _ _ _) rfl ?_;rw[HRR.o];exact⟨fun _=>rfl,nofun,lI.o.grow aU.o,aP kz.o aU.o⟩
    ·have abd:(c != 10)=true:=by simp[h10]
     have Eo:=ae h10;have MH:=ae (fun w=>CB.o c w);obtain⟨b,hb2⟩:=zN (jG c);rw[hb2]at MH IA;clear h10 hb2;go_wp2_with (go_at_call 67;refine(HC2.o _ aU.o).mono ?_);rintro e w4 ⟨rfl,hg4⟩;have dn:=ae (ak aU.o hg4);clear hg4
     cases b with
     |true=>
      have HRR:Hd (r=(false,k)):=by
       show r=_;rw[Iz.o (H2.o (by rw[IA.o];simp)),if_neg (by rintro(h|h);exact Eo.o h;exact nP.o h)]
      go_wp2_with (first|(go_at_call 103;refine(MH.o _).mono ?_;rintro e w' ⟨rfl,rfl⟩)|(go_at_call 104;refine(CH.o k _ (aP kz.o dn.o) (lI.o.grow dn.o)).mono ?_;rintro e w5 ⟨⟨v,rfl,hv⟩,hg5⟩));refine bodyPost_ret (results_tmp (t:=2) rfl _ _ _) rfl ?_;rw[HRR.o];exact⟨nofun,fun _=>⟨v,rfl,hv⟩,(lI.o.grow dn.o).grow hg5,aP (aP kz.o dn.o) hg5⟩
     |false=>
      have HN:=ae ((H1.o hkl (by rw[IA.o,decide_eq_true Eo.o];rfl)).symm.trans nO.o);obtain⟨-,d1,-,df⟩:=(lI.o.grow dn.o).cells;have df1:=df 1;clear df;have Ep:Hd (Rd (w4.setCell ⟨R,1,none⟩ (.int .i64 ((k:Int)+1))) R s (k+1) T):=(lI.o.grow dn.o).set (k+1);go_wp2_with (go_at_call 103;refine(MH.o _).mono ?_;rintro e w' ⟨rfl,rfl⟩);refine⟨⟨k+1,Ep.o,by omega,HN.o,aT (aP kz.o dn.o) 1 _⟩,?_⟩;rw[eY.o,Ep.o.cells.2.1];simp;omega
 ·have hb:(x != 35)=true:=by simp[hx]
  have HRR:=ae (jI.o hx);clear hx;go_wp2;refine bodyPost_ret (results_tmp (t:=2) rfl _ _ _) rfl ?_;rw[HRR.o];exact⟨fun _=>rfl,nofun,HR1.o,aC.o⟩
structure Tn where
 kd:Int
 ky:List UInt8
 tx:List UInt8
 nu:Int
 ks:List Nat
 pl:Nat
abbrev Rs(α:Type):=Except (Int × Nat) α
def hexV(c:Int):Int:=if aI c=true then c-48 else if 97<=c/\c<=102 then c-87 else if 65<=c/\c<=70 then c-55 else -1
def four(l:List UInt8):Nat->Nat->Nat->Rs (Nat × Nat)
 | 0,i,n=>.ok (n,i)
 | k+1,i,n=>if hexV (nx l i)<0 then .error (2,i) else four l k (i+1) (16*n+(hexV (nx l i)).toNat)
def gU(n:Nat):List UInt8:=if n<128 then[UInt8.ofNat n] else if n<2048 then[UInt8.ofNat (192+n / 64),UInt8.ofNat (128+n % 64)] else[UInt8.ofNat (224+n / 4096),UInt8.ofNat (128+n / 64 % 64),UInt8.ofNat (128+n % 64)]
def esc(l:List UInt8)(i:Nat):Rs (List UInt8 × Nat) :=
 if nx l (i+1)=117 then
  match four l 4 (i+2) 0 with
  | .error e=>.error e
  | .ok (n,j)=>if 55296<=n/\n<=57343 then .error (2,i) else .ok (gU n,j)
 else if nx l (i+1)=98 then .ok ([8],i+2)
 else if nx l (i+1)=116 then .ok ([9],i+2)
 else if nx l (i+1)=110 then .ok ([10],i+2)
 else if nx l (i+1)=102 then .ok ([12],i+2)
 else if nx l (i+1)=114 then .ok ([13],i+2)
 else if nx l (i+1)=34 then .ok ([34],i+2)
 else if nx l (i+1)=92 then .ok ([92],i+2)
 else .error (2,i+1)
def oI(l:List UInt8)(i:Nat)(lo hi:Int):Bool:=decide (lo<=nx l i/\nx l i<=hi)
def bi(l:List UInt8)(i:Nat):Nat :=
 let c:=nx l i
 if c<0 then 0
 else if c<128 then 1
 else if c<194\/244<c then 0
 else if oI l (i+1) (if c=224 then 160 else if c=240 then 144 else 128) (if c=237 then 159 else if c=244 then 143 else 191)=false then 0
 else if c<224 then 2
 else if oI l (i+2) 128 191=false then 0
 else if c<240 then 3
 else if oI l (i+3) 128 191=false then 0
 else 4
def str(l:List UInt8):Nat->Nat->List UInt8->Rs (List UInt8 × Nat)
 | 0,i,_=>.error (2,i)
 | f+1,i,acc =>
  if nx l i=34 then .ok (acc,i+1)
  else if nx l i=92 then
   match esc l i with
   | .error e=>.error e
   | .ok (b,j)=>str l f j (acc++b)
  else if nx l i=-1\/jG (nx l i)=true then .error (2,i)
  else if bi l i=0 then .error (2,i)
  else str l f (i+bi l i) (acc++au l i (bi l i))
def dw(l:List UInt8)(i:Nat):Rs (List UInt8 × Nat) :=
 if nx l i=34 then str l (l.length+1) (i+1) []
 else if toR bP l i=i then .error (2,i)
 else .ok (au l i (toR bP l i-i),toR bP l i)
def iR:List UInt8->Nat->Nat
 | [],n=>n
 | c :: r,n=>iR r (10*n+(c.toNat - 48))
def ji(l:List UInt8)(i:Nat):Rs (Int × Nat) :=
 let a:=if aI (nx l i)=true then i else i+1
 let j:=toR aI l a
 if j=a\/(1<j-a/\nx l a=48) then .error (2,a)
 else if 18<j-a then .error (3,i)
 else .ok (if nx l i=45 then -(iR (au l a (j-a)) 0:Int) else(iR (au l a (j-a)) 0:Int),j)
def l7(l:List UInt8)(i:Nat):Rs (Int × Nat) :=
 let j:=toR dN l i
 if au l i (j-i)=[116,114,117,101] then .ok (1,j)
 else if au l i (j-i)=[102,97,108,115,101] then .ok (0,j)
 else .error (2,i)
def addN(ns:List Tn)(up:Nat)(n:Tn):List Tn:=(match ns[up]? with|some u=>ns.set up { u with ks:=u.ks++[ns.length] }|none=>ns)++[n]
def gap(l:List UInt8):Nat->Nat->Rs Nat
 | 0,i=>.error (2,i)
 | f+1,i =>
  let j:=bl l i
  if(bH l j).1=false then .error (2,(bH l j).2)
  else if nx l (bH l j).2=10 then gap l f ((bH l j).2+1)
  else .ok (bH l j).2
mutual
def val(l:List UInt8):Nat->Nat->Nat->List UInt8->Nat->Nat->List Tn->Rs (Nat × List Tn)
 | 0,i,_,_,_,_,_=>.error (2,i)
 | f+1,i,up,k,p,d,ns =>
  if nx l i=34 then
   match str l (l.length+1) (i+1) [] with
   | .error e=>.error e
   | .ok (t,j)=>.ok (j,addN ns up ⟨3,k,t,0,[],p⟩)
  else if nx l i=43\/nx l i=45\/aI (nx l i)=true then
   match ji l i with
   | .error e=>.error e
   | .ok (n,j)=>.ok (j,addN ns up ⟨4,k,[],n,[],p⟩)
  else if nx l i=116\/nx l i=102 then
   match l7 l i with
   | .error e=>.error e
   | .ok (n,j)=>.ok (j,addN ns up ⟨5,k,[],n,[],p⟩)
  else if nx l i=91 then
   if d=8 then .error (4,i)
   else lst l f (i+1) ns.length (d+1) (addN ns up ⟨1,k,[],0,[],p⟩)
  else .error (2,i)
def lst(l:List UInt8):Nat->Nat->Nat->Nat->List Tn->Rs (Nat × List Tn)
 | 0,i,_,_,_=>.error (2,i)
 | f+1,i,up,d,ns =>
  match gap l (l.length+1) i with
  | .error e=>.error e
  | .ok j =>
   if nx l j=93 then .ok (j+1,ns)
   else
    match val l f j up [] j d ns with
    | .error e=>.error e
    | .ok (j1,ns1) =>
     match gap l (l.length+1) j1 with
     | .error e=>.error e
     | .ok j2 =>
      if nx l j2=44 then lst l f (j2+1) up d ns1
      else if nx l j2=93 then .ok (j2+1,ns1)
      else .error (2,j2)
end
def aK(ns:List Tn)(t:Nat)(k:List UInt8):Option Nat:=match ns[t]? with|some u=>u.ks.find? (fun q=>match ns[q]? with|some x=>decide (x.ky=k)|none=>false)|none=>none
def ay(ns:List Tn)(t:Nat):Int:=match ns[t]? with|some u=>u.kd|none=>-1
def gm(ns:List Tn)(t:Nat)(k:List UInt8)(p:Nat):Rs (Nat × List Tn) :=
 match aK ns t k with
 |none=>.ok (ns.length,addN ns t ⟨0,k,[],0,[],p⟩)
 |some q=>if ay ns q=0 then .ok (q,ns) else if ay ns q=2 then(match ns[q]? with|some u=>.ok (u.ks.getLastD 0,ns)|none=>.error (5,p)) else .error (5,p)
def gy(ns:List Tn)(own:List Nat)(t:Nat)(k:List UInt8)(p:Nat):Rs (Nat × List Tn) :=
 match aK ns t k with
 |none=>.ok (ns.length,addN ns t ⟨0,k,[],0,[],p⟩)
 |some q=>if ay ns q=0/\¬q∈own then .ok (q,ns) else .error (5,p)
def gz(ns:List Tn)(t:Nat)(k:List UInt8)(p:Nat):Rs (Nat × List Tn) :=
 match aK ns t k with
 |none=>.ok (ns.length+1,addN (addN ns t ⟨2,k,[],0,[],p⟩) ns.length ⟨0,[],[],0,[],p⟩)
 |some q=>if ay ns q=2 then .ok (ns.length,addN ns q ⟨0,[],[],0,[],p⟩) else .error (5,p)
def way(many:Bool)(own:List Nat):List (List UInt8 × Nat)->Nat->List Tn->Rs (Nat × List Tn)
 | [],t,ns=>.ok (t,ns)
 | [(k,p)],t,ns=>if many=true then gz ns t k p else gy ns own t k p
 | (k,p) :: r,t,ns =>
  match gm ns t k p with
  | .error e=>.error e
  | .ok (t1,ns1)=>way many own r t1 ns1
def gV(l:List UInt8):Nat->Nat->List (List UInt8 × Nat)->Rs (List (List UInt8 × Nat) × Nat)
 | 0,i,_=>.error (2,i)
 | f+1,i,acc =>
  match dw l (bl l i) with
  | .error e=>.error e
  | .ok (k,j)=>if nx l (bl l j)=46 then gV l f (bl l j+1) (acc++[(k,bl l i)]) else .ok (acc++[(k,bl l i)],bl l j)
structure Sd where
 i:Nat
 ns:List Tn
 own:List Nat
 now:Nat
def must(l:List UInt8)(i:Nat)(c:Int):Rs Nat:=if nx l i=c then .ok (i+1) else .error (2,i)
def iw(l:List UInt8)(s:Sd):Rs Sd :=
 let many:Bool:=decide (nx l (s.i+1)=91)
 match gV l (l.length+1) (if many=true then s.i+2 else s.i+1) [] with
 | .error e=>.error e
 | .ok (ks,j) =>
  match must l j 93 with
  | .error e=>.error e
  | .ok j1 =>
   match (if many=true then must l j1 93 else .ok j1) with
   | .error e=>.error e
   | .ok j2 =>
    match way many s.own ks 0 s.ns with
    | .error e=>.error e
    | .ok (t,ns)=>.ok ⟨j2,ns,t :: s.own,t⟩
def rdPair(l:List UInt8)(s:Sd):Rs Sd :=
 match dw l s.i with
 | .error e=>.error e
 | .ok (k,j) =>
  match must l (bl l j) 61 with
  | .error e=>.error e
  | .ok j1 =>
   match aK s.ns s.now k with
   |some _=>.error (5,s.i)
   |none=>
    match val l (2*l.length+2) (bl l j1) s.now k s.i 0 s.ns with
    | .error e=>.error e
    | .ok (j2,ns)=>.ok ⟨j2,ns,s.own,s.now⟩
def iH(l:List UInt8)(s0:Sd):Rs Sd :=
 let s:Sd:=⟨bl l s0.i,s0.ns,s0.own,s0.now⟩
 match (if nx l s.i=91 then iw l s else if nx l s.i=34\/bP (nx l s.i)=true then rdPair l s else .ok s) with
 | .error e=>.error e
 | .ok s1 =>
  if(bH l (bl l s1.i)).1=false then .error (2,(bH l (bl l s1.i)).2)
  else if nx l (bH l (bl l s1.i)).2=-1 then .ok ⟨(bH l (bl l s1.i)).2,s1.ns,s1.own,s1.now⟩
  else match must l (bH l (bl l s1.i)).2 10 with
   | .error e=>.error e
   | .ok j=>.ok ⟨j,s1.ns,s1.own,s1.now⟩
def jP(l:List UInt8):Nat->Sd->Rs Sd
 | 0,s=>.ok s
 | f+1,s=>if l.length<=s.i then .ok s else match iH l s with | .error e=>.error e | .ok s1=>jP l f s1
def lJ(l:List UInt8):Rs (List Tn) :=
 if 100000<l.length then .error (1,0)
 else match jP l (l.length+1) ⟨0,[⟨0,[],[],0,[],0⟩],[],0⟩ with
  | .error e=>.error e
  | .ok s=>.ok s.ns
theorem TI(c:Int)(w:World):Calls prog 69 #[.int .i64 c] w fun e w'=>e=.returned (.bool (bP c))/\w'=w:=by
 have CS:=ae (fun w=>TE c w);have CD:=ae (fun w=>Iu c w);have HB:Hd (bP c=(dN c || decide (65<=c/\c<=90) || aI c || decide (c=95) || decide (c=45))):=rfl;obtain⟨b,hb⟩:=zN (dN c);obtain⟨d,hd⟩:=zN (aI c);rw[hb]at CS HB;rw[hd]at CD HB;clear hb hd
 cases b with
 |true=>
  go_enter func69,ntmps69;go_wp2_with (first|(go_at_call 98;refine(CS.o _).mono ?_;rintro e w' ⟨rfl,rfl⟩)|(go_at_call 99;refine(CD.o _).mono ?_;rintro e w' ⟨rfl,rfl⟩));go_ret;refine⟨bu ?_,rfl⟩;rw[HB.o];rfl
 |false=>
  cases d with
  |true=>
   go_enter func69,ntmps69;go_wp2_with (first|(go_at_call 98;refine(CS.o _).mono ?_;rintro e w' ⟨rfl,rfl⟩)|(go_at_call 99;refine(CD.o _).mono ?_;rintro e w' ⟨rfl,rfl⟩))
   all_goals go_ret
   all_goals (refine⟨bu ?_,rfl⟩;rw[HB.o,Bool.eq_iff_iff];simp;try omega)
  |false=>
   go_enter func69,ntmps69;go_wp2_with (first|(go_at_call 98;refine(CS.o _).mono ?_;rintro e w' ⟨rfl,rfl⟩)|(go_at_call 99;refine(CD.o _).mono ?_;rintro e w' ⟨rfl,rfl⟩))
   all_goals go_ret
   all_goals (refine⟨bu ?_,rfl⟩;rw[HB.o,Bool.eq_iff_iff];simp;try omega)
theorem IB(c:Int):-1<=hexV c/\hexV c<16:=by
 unfold hexV aI;simp only[decide_eq_true_eq]
 repeat' split
 all_goals omega
theorem abe(c:Int)(hc:-1<=c/\c<256)(w:World):Calls prog 196 #[.int .i64 c] w fun e w'=>e=.returned (.int .i64 (hexV c))/\w'=w:=by
 have CD:=ae (fun w=>Iu c w);have HX:Hd (hexV c=if aI c=true then c-48 else if 97<=c/\c<=102 then c-87 else if 65<=c/\c<=70 then c-55 else -1):=rfl;obtain⟨d,hd⟩:=zN (aI c);rw[hd]at CD HX;clear hd;obtain⟨h1,h2⟩:=hc;obtain⟨y,hy⟩:=zN (hexV c);rw[hy]at HX ⊢;clear hy
 cases d with
 |true=>
  go_enter func196,ntmps196;go_wp2_with (go_at_call 99;refine(CD.o _).mono ?_;rintro e w' ⟨rfl,rfl⟩);go_ret;refine⟨dm ?_,rfl⟩;rw[HX.o];simp
 |false=>
  go_enter func196,ntmps196;go_wp2_with (go_at_call 99;refine(CD.o _).mono ?_;rintro e w' ⟨rfl,rfl⟩)
  all_goals go_ret
  all_goals (refine⟨dm ?_,rfl⟩;rw[HX.o];simp;try omega)
theorem Eu(l:List UInt8)(i:Nat)(hi:i<=l.length):i<=(bH l i).2/\(bH l i).2<=l.length:=by
 have:=qH eQ l i hi;unfold bH
 repeat' split
 all_goals (simp only[];omega)
theorem jQ(l:List UInt8)(i:Nat)(hi:i<=l.length):i<=bl l i/\bl l i<=l.length:=qH gu l i hi
theorem vN(l:List UInt8)(f i:Nat):gap l (f+1) i=if(bH l (bl l i)).1=false then .error (2,(bH l (bl l i)).2) else if nx l (bH l (bl l i)).2=10 then gap l f ((bH l (bl l i)).2+1) else .ok (bH l (bl l i)).2:=rfl
theorem dK(h:w.grownBy w1 r)(hg:w1.grownBy w2 r):w.grownBy w2 r :=
 ⟨hg.os.trans h.os,hg.tape.trans h.tape,hg.output.trans h.output,Nat.le_trans h.size hg.size,fun k hk hn=>(hg.block k (Nat.lt_of_lt_of_le hk h.size) hn).trans (h.block k hk hn)⟩
def abf(R:Nat)(s:ByteArray)(T:Nat)(ty:TypeId)(pv:Value)(g:Rs Nat)(w:World)(e:Ending)(w':World):Prop:=(∀j,g=.ok j->e=.returned .nilIface/\Rd w' R s j T)/\(∀c p,g=.error (c,p)->∃v,e=.returned v/\FaultV w' v p ty pv)/\w.grownBy w' (some R)
theorem abg(R:Nat)(s:ByteArray)(i T:Nat)(ty:TypeId)(pv:Value)(w:World)(h:Rd w R s i T)(hi:i<=s.size)(hs:s.size<=1048576)(he:Iy w ty pv)(hR:¬R=5) :
  Calls prog 157 #[.pointer (some ⟨R,0,none⟩)] w (abf R s T ty pv (gap s.data.toList (s.data.toList.length+1) i) w):=by
 have CN:=ae (fun k w (h1:Rd w R s k T) (h2:k<=s.size)=>nN R s k T w h1 h2 hs);have CS:=ae (fun k w (h1:Rd w R s k T) (h2:k<=s.size)=>Iw R s k T w h1 h2 hs);have CC:=ae (fun k w' (h1:Rd w' R s k T) (h2:k<=s.size) (hg:w.grownBy w' (some R))=>TG R s k T ty pv w' h1 h2 hs (hg.cell he (by simp;exact fun e=>hR e.symm)) hR);have hl:s.data.toList.length=s.size:=by simp
 have fV:Hd (∀k,k<=s.size->k<=bl s.data.toList k/\bl s.data.toList k<=s.size):=fun k hk=>by rw[<-hl];exact jQ _ k (by omega)
 have HCL:Hd (∀k,k<=s.size->k<=(bH s.data.toList k).2/\(bH s.data.toList k).2<=s.size):=fun k hk=>by rw[<-hl];exact Eu _ k (by omega)
 have kC:Hd (∀f k,gap s.data.toList (f+1) k=if(bH s.data.toList (bl s.data.toList k)).1=false then .error (2,(bH s.data.toList (bl s.data.toList k)).2) else if nx s.data.toList (bH s.data.toList (bl s.data.toList k)).2=10 then gap s.data.toList f ((bH s.data.toList (bl s.data.toList k)).2+1) else .ok (bH s.data.toList (bl s.data.toList k)).2):=fun f k=>vN _ f k
 have dC:Hd (∀k,k<=s.size->nx s.data.toList k=10->k<s.size):=fun k hk hn=>by
  apply Classical.byContradiction;intro hh;rw[jF _ _ (by omega)]at hn;exact absurd hn (by decide)
 have dJ:=ae h;obtain⟨G,hG⟩:=zN (gap s.data.toList (s.data.toList.length+1) i);have iT:=ae hG;rw[hG];clear h he hG;go_enter func157,ntmps157;go_wp2;go_loopw [] (fun wr=>∃k f:Nat,Rd wr R s k T/\k<=s.size/\s.size-k<f/\gap s.data.toList f k=G/\w.grownBy wr (some R)) (fun wr=>s.size-(match wr.cell? ⟨R,1,none⟩ with|some (.int _ k)=>k.toNat|_=>0))
 case atStart=>exact⟨i,s.data.toList.length+1,dJ.o,hi,by omega,iT.o,ax _ _⟩
 case round=>
  obtain⟨k,f,hrd,hk,hf,oJ,hg⟩:=hrel;obtain⟨f,rfl⟩:∃f',f=f'+1:=⟨f-1,by omega⟩;have lI:=ae hrd;have kz:=ae hg;have eY:Hd ((match wr.cell? ⟨R,1,none⟩ with|some (.int _ k)=>k.toNat|_=>0)=k):=by show _=_;rw[hrd.cells.2.1];simp
  have C1:=ae (CS.o k wr hrd hk);rw[kC.o]at oJ;obtain⟨hb1,hb2⟩:=fV.o k hk;have hc12:=HCL.o (bl s.data.toList k) hb2;have C2:=ae (fun w' (h1:Rd w' R s (bl s.data.toList k) T) (h2:w.grownBy w' (some R))=>CC.o _ w' h1 hb2 h2);obtain⟨j,hj⟩:=zN (bl s.data.toList k);rw[hj]at C1 C2 oJ hb1 hb2 hc12;obtain⟨q,hq⟩:=zN (bH s.data.toList j);rw[hq]at C2 oJ hc12;obtain⟨ok,m⟩:=q;obtain⟨hm1,hm2⟩:=hc12;simp only[]at hm1 hm2 oJ;have IC:Hd ((if ok=false then Except.error (2,m) else if nx s.data.toList m=10 then gap s.data.toList f (m+1) else Except.ok m)=G):=oJ;have C3:=ae (fun w' (h1:Rd w' R s m T)=>CN.o m w' h1 hm2);have HL2:=ae (dC.o m hm2);obtain⟨x,hx⟩:=zN (nx s.data.toList m);rw[hx]at C3 IC HL2;clear hrd hg oJ hj hq hx;go_wp2_with (go_at_call 66;refine C1.o.mono ?_);rintro e w1 ⟨rfl,hr1,hg1⟩;have HR1:=ae hr1;have aC:=ae (dK kz.o hg1)
  clear hr1 hg1;go_wp2_with (go_at_call 71;refine(C2.o _ HR1.o aC.o).mono ?_);rintro e w2 ⟨h1,h2,h3,h4⟩;have HR2:Hd (Rd w2 R s m T):=h3;have HG2:=ae (dK aC.o h4);clear h3 h4
  cases ok with
  |false=>
   obtain⟨v,rfl,F,rfl,hF⟩:=h2 rfl;have kW:Hd (Except.error (2,m)=G):=by
    have:=IC.o;rw[if_pos (by trivial)]at this;exact this
   have dS:Hd (FaultV w2 (.iface 99 (.pointer (some ⟨F,0,none⟩))) m ty pv):=⟨F,rfl,hF⟩;clear h1 h2 hF;go_wp2;refine bodyPost_ret (results_tmp (t:=2) rfl _ _ _) rfl ?_;refine⟨fun j hj=>?_,fun c p hp=>?_,HG2.o⟩
   ·rw[<-kW.o]at hj;cases hj
   ·rw[<-kW.o]at hp
    cases hp
    exact⟨_,rfl,dS.o⟩
  |true=>
   obtain rfl:=h1 rfl;clear h1 h2;go_wp2_with (go_at_call 67;refine(C3.o _ HR2.o).mono ?_);rintro e w3 ⟨rfl,hg3⟩;have HR3:=ae (HR2.o.grow hg3);have aU:=ae (aP HG2.o hg3);clear hg3
   by_cases h10:x=10
   ·have hb:(x != 10)=false:=by simp[h10]
    have hml:=HL2.o h10;have MI:Hd (gap s.data.toList f (m+1)=G):=by
     have:=IC.o;rw[if_neg (by simp),if_pos h10]at this;exact this
    obtain⟨-,d1,-,df⟩:=HR3.o.cells;have df1:=df 1;have Ep:Hd (Rd (w3.setCell ⟨R,1,none⟩ (.int .i64 ((m:Int)+1))) R s (m+1) T):=HR3.o.set (m+1);clear df h10;go_wp2;refine⟨⟨m+1,f,Ep.o,by omega,by omega,MI.o,aT aU.o 1 _⟩,?_⟩;rw[eY.o,Ep.o.cells.2.1];simp;omega
   ·have hb:(x != 10)=true:=by simp[h10]
    have kW:Hd (Except.ok m=G):=by
     have:=IC.o;rw[if_neg (by simp),if_neg h10]at this;exact this
    clear h10;go_wp2;refine bodyPost_ret (results_tmp (t:=2) rfl _ _ _) rfl ?_;refine⟨fun j hj=>?_,fun c p hp=>?_,aU.o⟩
    ·rw[<-kW.o]at hj
     cases hj
     exact⟨rfl,HR3.o⟩
    ·rw[<-kW.o]at hp;cases hp
structure Es(w:World)(E:Int->TypeId × Value):Prop where
 te:w.cell? ⟨5,0,none⟩=some (.iface (E 2).1 (E 2).2)
 ra:w.cell? ⟨1,0,none⟩=some (.iface (E 3).1 (E 3).2)
 ma:w.cell? ⟨2,0,none⟩=some (.iface (E 4).1 (E 4).2)
 tw:w.cell? ⟨3,0,none⟩=some (.iface (E 5).1 (E 5).2)
structure Far(R:Nat):Prop where
 te:¬R=5
 ra:¬R=1
 ma:¬R=2
 tw:¬R=3
theorem Es.grow{E:Int->TypeId × Value}(h:Es w E)(hR:Far R)(hg:w.grownBy w' (some R)):Es w' E :=
 ⟨hg.cell h.te (by simp;exact fun e=>hR.te e.symm),hg.cell h.ra (by simp;exact fun e=>hR.ra e.symm),hg.cell h.ma (by simp;exact fun e=>hR.ma e.symm),hg.cell h.tw (by simp;exact fun e=>hR.tw e.symm)⟩
def dD(w:World)(v:Value)(E:Int->TypeId × Value)(c:Int)(p:Nat):Prop:=FaultV w v p (E c).1 (E c).2
def TJ(R:Nat)(s:ByteArray)(T:Nat)(E:Int->TypeId × Value)(g:Rs (Int × Nat))(w:World)(e:Ending)(w':World):Prop:=(∀n j,g=.ok (n,j)->e=.returned (.tuple #[.int .i64 n,.nilIface])/\Rd w' R s j T)/\(∀c p,g=.error (c,p)->∃v,e=.returned (.tuple #[.int .i64 0,v])/\dD w' v E c p/\∃j,Rd w' R s j T)/\w.grownBy w' (some R)
theorem IE(l:List UInt8)(i:Nat):l7 l i=if au l i (toR dN l i-i)=[116,114,117,101] then .ok (1,toR dN l i) else if au l i (toR dN l i-i)=[102,97,108,115,101] then .ok (0,toR dN l i) else .error (2,i):=rfl
theorem abh(R:Nat)(s:ByteArray)(i T:Nat)(E:Int->TypeId × Value)(w:World)(h:Rd w R s i T)(hi:i<=s.size)(hs:s.size<=1048576)(he:Es w E)(hR:Far R) :
  Calls prog 127 #[.pointer (some ⟨R,0,none⟩)] w (TJ R s T E (l7 s.data.toList i) w):=by
 have CN:=ae (fun k w (h1:Rd w R s k T) (h2:k<=s.size)=>nN R s k T w h1 h2 hs);have CB:=ae TE;have CW:Hd (∀w,Calls prog 124 #[.iface (E 2).1 (E 2).2,.int .i64 i] w fun e w'=>(∃v,e=.returned v/\FaultV w' v i (E 2).1 (E 2).2)/\w.grownBy w' none):=fun w=>uh i _ _ w
 have mP:=ae (fun w' (hg:w.grownBy w' (some R))=>(he.grow hR hg).te);have fA:Hd (∀w' v,FaultV w' v i (E 2).1 (E 2).2->dD w' v E 2 i):=fun _ _ h=>h
 obtain⟨ty,hty⟩:=zN ((E 2).1);obtain⟨pv,hpv⟩:=zN ((E 2).2);rw[hty,hpv]at CW mP fA;have hl:s.data.toList.length=s.size:=by simp
 have HST:=ae (fun k (hk:k<s.size) (hb:dN (nx s.data.toList k)=true)=>rO dN _ k (by omega) hb);have gQ:=ae (fun k (hb:dN (nx s.data.toList k)=false)=>mJ dN _ k hb);have dC:Hd (∀k,k<=s.size->dN (nx s.data.toList k)=true->k<s.size):=fun k hk hb=>by
  apply Classical.byContradiction;intro hn;rw[jF _ _ (by omega)]at hb;exact absurd hb (by decide)
 have kX:Hd (l7 s.data.toList i=if au s.data.toList i (toR dN s.data.toList i-i)=[116,114,117,101] then .ok (1,toR dN s.data.toList i) else if au s.data.toList i (toR dN s.data.toList i-i)=[102,97,108,115,101] then .ok (0,toR dN s.data.toList i) else .error (2,i)):=IE _ i;have hij:=qH dN s.data.toList i (by omega);rw[hl]at hij;obtain⟨J,hJ⟩:=zN (toR dN s.data.toList i);have HJ:=ae hJ;obtain⟨G,hG⟩:=zN (l7 s.data.toList i);rw[hJ]at kX hij;rw[hG]at kX ⊢;obtain⟨hij1,hij2⟩:=hij;have H0:=ae h;obtain⟨X,hX⟩:∃X:ByteArray,X=⟨(au s.data.toList i (J-i)).toArray⟩:=⟨_,rfl⟩;have s1:∀wx,(Instr.slice 9 (.string s) (some (.int .i64 (i:Int))) (some (.int .i64 (J:Int))) none).run prog wx=.ok (.string X) wx:=fun wx=>by rw[hX];exact mM s i J hij1 hij2 wx
 have vO:Hd (X.toList=au s.data.toList i (J-i)):=by show _=_;rw[hX,ByteArray.toList_eq]
 obtain⟨c0,c1,-,-⟩:=h.cells;clear h hJ hG hX hty hpv he;go_enter func127,ntmps127;go_wp2;go_loopw [] (fun wr=>∃k:Nat,Rd wr R s k T/\k<=s.size/\toR dN s.data.toList k=J/\w.grownBy wr (some R)) (fun wr=>s.size-(match wr.cell? ⟨R,1,none⟩ with|some (.int _ k)=>k.toNat|_=>0))
 case atStart=>exact⟨i,H0.o,hi,HJ.o,ax _ _⟩
 case round=>
  obtain⟨k,hrd,hk,hbl,hg⟩:=hrel;have dJ:=ae hrd;have fV:=ae hbl;have HG:=ae hg;have C1:=ae (CN.o k wr hrd hk);have hme:(match wr.cell? ⟨R,1,none⟩ with|some (.int _ k)=>k.toNat|_=>0)=k:=by rw[hrd.cells.2.1];simp
  have eY:=ae hme;have dP:=ae (fun(hb:dN (nx s.data.toList k)=true)=>HST.o k (dC.o k hk hb) hb);have HS2:=ae (gQ.o k);have HL2:=ae (dC.o k hk);obtain⟨c,hc⟩:=zN (nx s.data.toList k);rw[hc]at C1 dP HS2 HL2;have fZ:=ae (fun w=>CB.o c w);obtain⟨b,hb⟩:=zN (dN c);rw[hb]at fZ dP HS2 HL2;clear hrd hbl hg hme hc hb c0 c1
  cases b with
  |false=>
   have zg:=ae ((HS2.o (by trivial)).symm.trans fV.o);go_wp2_with (first|(go_at_call 67;refine C1.o.mono ?_;rintro e w2 ⟨rfl,hg2⟩)|(go_at_call 98;refine(fZ.o _).mono ?_;rintro e w' ⟨rfl,rfl⟩));have HR2:Hd (Rd w' R s J T):=by rw[<-zg.o];exact dJ.o.grow hg2
   have HG2:=ae (aP HG.o hg2);obtain⟨d0,d1,-,-⟩:=HR2.o.cells;have dte:=mP.o _ HG2.o;clear hg2;have MJ:Hd (G=if X.toList=[116,114,117,101] then .ok (1,J) else if X.toList=[102,97,108,115,101] then .ok (0,J) else .error (2,i)):=by show _=_;rw[vO.o];exact kX.o
   by_cases h1:X.toList=[116,114,117,101]
   ·have hb:(X.toList == [116,114,117,101])=true:=by simp[h1]
    have aJ:Hd (G=.ok (1,J)):=by show G=_;rw[MJ.o,if_pos h1]
    clear h1;go_quiet (fail);go_wp2;refine bodyPost_ret (results_tmp2 (t:=2) (u:=3) rfl _ _ _) rfl ?_;rw[aJ.o];exact⟨fun n j hh=>(by cases hh;exact⟨rfl,HR2.o⟩),nofun,az HG2.o _⟩
   ·have hb:(X.toList == [116,114,117,101])=false:=by simp[h1]
    by_cases h2:X.toList=[102,97,108,115,101]
    ·have hb2:(X.toList == [102,97,108,115,101])=true:=by simp[h2]
     have aJ:Hd (G=.ok (0,J)):=by show G=_;rw[MJ.o,if_neg h1,if_pos h2]
     clear h1 h2;go_quiet (fail);go_wp2;refine bodyPost_ret (results_tmp2 (t:=2) (u:=3) rfl _ _ _) rfl ?_;rw[aJ.o];exact⟨fun n j hh=>(by cases hh;exact⟨rfl,HR2.o⟩),nofun,az HG2.o _⟩
    ·have hb2:(X.toList == [102,97,108,115,101])=false:=by simp[h2]
     have aJ:Hd (G=.error (2,i)):=by show G=_;rw[MJ.o,if_neg h1,if_neg h2]
     clear h1 h2;go_quiet (fail);go_wp2_with (go_at_call 124;refine(CW.o _).mono ?_;rintro e w3 ⟨⟨v,rfl,hv⟩,hg3⟩);refine bodyPost_ret (results_tmp2 (t:=2) (u:=3) rfl _ _ _) rfl ?_;rw[aJ.o];exact⟨nofun,fun c p hh=>(by cases hh;exact⟨v,rfl,fA.o _ _ hv,J,Rd.grow (w:=World.drewN w' _) HR2.o hg3⟩),aP (az HG2.o _) hg3⟩
  |true=>
   have hkl:=HL2.o (by trivial);have HN:=ae ((dP.o (by trivial)).symm.trans fV.o);go_wp2_with (first|(go_at_call 67;refine C1.o.mono ?_;rintro e w2 ⟨rfl,hg2⟩;obtain⟨-,d1,-,df⟩:=(dJ.o.grow hg2).cells;have df1:=df 1)|(go_at_call 98;refine(fZ.o _).mono ?_;rintro e w' ⟨rfl,rfl⟩));have kV:Hd (Rd (w'.setCell ⟨R,1,none⟩ (.int .i64 ((k:Int)+1))) R s (k+1) T):=(dJ.o.grow hg2).set (k+1);refine⟨⟨k+1,kV.o,by omega,HN.o,aT (aP HG.o hg2) 1 _⟩,?_⟩;rw[eY.o,kV.o.cells.2.1];simp;omega
def Ew(n:Int):Bool:=decide (55296<=n/\n<=57343)
def rQ(n:Nat):Bool:=Ew (n:Nat)
theorem abj(n:Int)(h0:0<=n)(hn:n<65536)(w:World):Calls prog 197 #[.int .i32 n] w fun e w'=>e=.returned (.bool (!Ew n))/\w'=w:=by
 have HX:Hd (Ew n=decide (55296<=n/\n<=57343)):=rfl;obtain⟨y,hy⟩:=zN (Ew n);rw[hy]at HX ⊢;clear hy;go_enter func197,ntmps197;go_wp2
 all_goals go_ret
 all_goals (refine⟨bu ?_,rfl⟩;rw[HX.o];simp;try omega)
theorem abk(n:Nat)(hn:n<65536)(w:World):Calls prog 197 #[.int .i32 (n:Nat)] w fun e w'=>e=.returned (.bool (!rQ n))/\w'=w:=abj (n:Nat) (by omega) (by omega) w
def MK(p:Nat):Rs (Nat × Nat)->Rs (Nat × Nat)
 | .error e=>.error e
 | .ok (n,j)=>if rQ n=true then .error (2,p) else .ok (n,j)
def xE(l:List UInt8)(i p:Nat):Rs (Nat × Nat):=MK p (four l 4 i 0)
theorem Ey(l:List UInt8)(k i n:Nat):four l (k+1) i n=if hexV (nx l i)<0 then .error (2,i) else four l k (i+1) (16*n+(hexV (nx l i)).toNat):=rfl
theorem abl(c d:Nat)(hc:c<4096)(hd:d<16):bits BinOp.or IntKind.i32 ((c:Int)*16) (d:Int)=((16*c+d:Nat):Int):=by
 have e1:(c:Int)*16=((c*16:Nat):Int):=by simp
 have e2:c*16 ||| d=16*c+d:=by
  have:=Nat.shiftLeft_add_eq_or_of_lt (a:=c) (b:=d) (i:=4) (by omega);rw[Nat.shiftLeft_eq]at this;have e:(2:Nat) ^ 4=16:=rfl;rw[e]at this;omega
 have e3:(BitVec.ofInt 32 ((c:Int)*16) ||| BitVec.ofInt 32 (d:Int)).toNat=16*c+d:=by
  rw[e1,BitVec.ofInt_natCast,BitVec.ofInt_natCast,BitVec.toNat_or,BitVec.toNat_ofNat,BitVec.toNat_ofNat,Nat.mod_eq_of_lt (by omega),Nat.mod_eq_of_lt (by omega),e2]
 show IntKind.i32.wrap (((BitVec.ofInt 32 ((c:Int)*16) ||| BitVec.ofInt 32 (d:Int)).toNat:Nat):Int)=_;rw[e3];simp[IntKind.wrap,IntKind.bits,IntKind.signed];omega
theorem ML:hexV (-1)=-1:=by decide
def MM(R:Nat)(s:ByteArray)(T:Nat)(E:Int->TypeId × Value)(g:Rs (Nat × Nat))(w:World)(e:Ending)(w':World):Prop:=(∀n j,g=.ok (n,j)->e=.returned (.tuple #[.int .i32 (n:Nat),.nilIface])/\Rd w' R s j T)/\(∀c p,g=.error (c,p)->∃v,e=.returned (.tuple #[.int .i32 0,v])/\dD w' v E c p/\∃j,Rd w' R s j T)/\w.grownBy w' (some R)
theorem abm(R:Nat)(s:ByteArray)(i T p:Nat)(E:Int->TypeId × Value)(w:World)(h:Rd w R s i T)(hi:i<=s.size)(hs:s.size<=1048576)(he:Es w E)(hR:Far R) :
  Calls prog 171 #[.pointer (some ⟨R,0,none⟩),.int .i64 p] w (MM R s T E (xE s.data.toList i p) w):=by
 have CN:=ae (fun k w (h1:Rd w R s k T) (h2:k<=s.size)=>nN R s k T w h1 h2 hs);have CX:=ae abe;have CV:=ae abk;have CW:Hd (∀w,Calls prog 124 #[.iface (E 2).1 (E 2).2,.int .i64 p] w fun e w'=>(∃v,e=.returned v/\FaultV w' v p (E 2).1 (E 2).2)/\w.grownBy w' none):=fun w=>uh p _ _ w
 have mP:=ae (fun w' (hg:w.grownBy w' (some R))=>(he.grow hR hg).te);have fA:Hd (∀w' v q,FaultV w' v q (E 2).1 (E 2).2->dD w' v E 2 q):=fun _ _ _ h=>h
 obtain⟨ty,hty⟩:=zN ((E 2).1);obtain⟨pv,hpv⟩:=zN ((E 2).2);rw[hty,hpv]at CW mP fA;have CH:=ae (fun k w' (hg:w.grownBy w' (some R)) (hr:Rd w' R s k T)=>xC R s k T ty pv w' hr (mP.o w' hg));have hl:s.data.toList.length=s.size:=by simp
 have MO:Hd (∀k i n,four s.data.toList (k+1) i n=if hexV (nx s.data.toList i)<0 then .error (2,i) else four s.data.toList k (i+1) (16*n+(hexV (nx s.data.toList i)).toNat)):=Ey _;have Ez:=ae IB;have EC:Hd (∀i,-1<=nx s.data.toList i/\nx s.data.toList i<256):=Ip _;have dC:Hd (∀k,k<=s.size->0<=hexV (nx s.data.toList k)->k<s.size):=fun k hk hb=>by
  apply Classical.byContradiction;intro hn;rw[jF _ _ (by omega),ML]at hb;omega
 obtain⟨F,hF⟩:=zN (four s.data.toList 4 i 0);have HF:=ae hF;obtain⟨G,hG⟩:=zN (xE s.data.toList i p);have IG:Hd (G=MK p F):=by show _=_;rw[<-hG,<-hF];rfl
 rw[hG];have H0:=ae h;clear h hF hG hty hpv he;go_enter func171,ntmps171;go_wp2;go_loopw [6,8] (fun vc vk wr=>∃k c j:Nat,vc=.int .i32 (c:Nat)/\vk=.int .i64 k/\k<=4/\c<16 ^ k/\four s.data.toList (4-k) j c=F/\Rd wr R s j T/\j<=s.size/\w.grownBy wr (some R)) (fun _ vk _=>4-(intOf vk).toNat)
 case atStart=>exact⟨0,0,i,rfl,rfl,by omega,by omega,HF.o,H0.o,hi,ax _ _⟩
 case round=>
  obtain⟨k,c,j,rfl,rfl,hk,hc,hf,hrd,hj,hg⟩:=hrel;have dJ:Hd (Rd _ R s j T):=hrd;have HG:Hd (w.grownBy _ (some R)):=hg
  by_cases hk4:k=4
  ·subst hk4;have hc4:c<65536:=by omega
   have jk:Hd (F=.ok (c,j)):=hf.symm;have aJ:Hd (G=if rQ c=true then .error (2,p) else .ok (c,j)):=by
    show _=_;rw[IG.o,jk.o];rfl
   have A8:=ae (CV.o c hc4);have dte:=mP.o _ hg;obtain⟨b,hb⟩:=zN (rQ c);rw[hb]at A8 aJ;clear hb hrd hg hf hc hk
   cases b with
   |true=>
    go_wp2_with (first|(go_at_call 197;refine(A8.o _).mono ?_;rintro e w' ⟨rfl,rfl⟩)|(go_at_call 124;refine(CW.o _).mono ?_;rintro e w3 ⟨⟨v,rfl,hv⟩,hg3⟩));refine bodyPost_ret (results_tmp2 (t:=4) (u:=5) rfl _ _ _) rfl ?_;rw[aJ.o];exact⟨nofun,fun c p hh=>(by cases hh;exact⟨v,rfl,fA.o _ _ _ hv,_,dJ.o.grow hg3⟩),aP HG.o hg3⟩
   |false=>
    go_wp2_with (go_at_call 197;refine(A8.o _).mono ?_;rintro e w' ⟨rfl,rfl⟩);refine bodyPost_ret (results_tmp2 (t:=4) (u:=5) rfl _ _ _) rfl ?_;rw[aJ.o];exact⟨fun n j hh=>(by cases hh;exact⟨rfl,dJ.o⟩),nofun,HG.o⟩
  ·have hk3:k<4:=by omega
   obtain⟨m,hm⟩:∃m,4-k=m+1:=⟨3-k,by omega⟩;have hm2:4-(k+1)=m:=by omega
   rw[hm,MO.o]at hf;have C1:Hd (Calls prog 67 #[.pointer (some ⟨R,0,none⟩)] _ fun e w'=>e=.returned (.int .i64 (nx s.data.toList j))/\World.grownBy _ w' none):=CN.o j _ hrd hj;have hxb:=Ez.o (nx s.data.toList j);have C2:=ae (CX.o _ (EC.o j));have TK:=ae (dC.o j hj);obtain⟨d,hd⟩:=zN (hexV (nx s.data.toList j));rw[hd]at C2 hf hxb TK;obtain⟨x,hx⟩:=zN (nx s.data.toList j);rw[hx]at C1 C2;obtain⟨hd1,hd2⟩:=hxb;have jk:=ae hf;have hc4:c<4096:=Nat.lt_of_lt_of_le hc (Nat.pow_le_pow_right (by decide) (show k<=3 by omega));have HC:=ae hc;clear hd hx hf hrd hg hm hk4 hk hc
   by_cases hd0:d<0
   ·have aJ:Hd (G=.error (2,j)):=by
     show _=_;have:=jk.o;rw[if_pos hd0]at this;rw[IG.o,<-this];rfl
    go_wp2_with (first|(go_at_call 67;refine C1.o.mono ?_;rintro e w2 ⟨rfl,hg2⟩)|(go_at_call 196;refine(C2.o _).mono ?_;rintro e w' ⟨rfl,rfl⟩)|(go_at_call 104;refine(CH.o j _ (aP HG.o hg2) (dJ.o.grow hg2)).mono ?_;rintro e w5 ⟨⟨v,rfl,hv⟩,hg5⟩));refine bodyPost_ret (results_tmp2 (t:=4) (u:=5) rfl _ _ _) rfl ?_;rw[aJ.o];exact⟨nofun,fun c p hh=>(by cases hh;exact⟨v,rfl,fA.o _ _ _ hv,_,(dJ.o.grow hg2).grow hg5⟩),aP (aP HG.o hg2) hg5⟩
   ·have hjl:=TK.o (by omega);obtain⟨d,rfl⟩:∃d':Nat,d=(d':Int):=⟨d.toNat,by omega⟩;have l9:Hd (four s.data.toList m (j+1) (16*c+d)=F):=by
     have:=jk.o;rw[if_neg hd0]at this;show _=_;simpa using this
    have hd3:=hd0;go_wp2_with (first|(go_at_call 67;refine C1.o.mono ?_;rintro e w2 ⟨rfl,hg2⟩;obtain⟨-,d1,-,df⟩:=(dJ.o.grow hg2).cells;have df1:=df 1)|(go_at_call 196;refine(C2.o _).mono ?_;rintro e w' ⟨rfl,rfl⟩));rw[abl c d hc4 (by omega)];have kV:Hd (Rd (w'.setCell ⟨R,1,none⟩ (.int .i64 ((j:Int)+1))) R s (j+1) T):=(dJ.o.grow hg2).set (j+1);refine⟨⟨k+1,16*c+d,j+1,rfl,by simp,by omega,?_,by rw[hm2];exact l9.o,kV.o,by omega,aT (aP HG.o hg2) 1 _⟩,?_⟩
    ·have:=HC.o;rw[Nat.pow_succ];omega
    ·simp[intOf];omega
def xG(c x1 x2 x3:Int):Nat :=
 if c<0 then 0
 else if c<128 then 1
 else if c<194\/244<c then 0
 else if decide ((if c=224 then 160 else if c=240 then 144 else 128)<=x1/\x1<=(if c=237 then 159 else if c=244 then 143 else 191))=false then 0
 else if c<224 then 2
 else if decide (128<=x2/\x2<=191)=false then 0
 else if c<240 then 3
 else if decide (128<=x3/\x3<=191)=false then 0
 else 4
theorem abn(l:List UInt8)(i:Nat):bi l i=xG (nx l i) (nx l (i+1)) (nx l (i+2)) (nx l (i+3)):=rfl
theorem abo(b0:Nat)(x1 x2 x3:Int)(h:b0<128):xG (b0:Int) x1 x2 x3=1:=by
 unfold xG;rw[if_neg (by omega),if_pos (by omega)]
theorem abp(b0:Nat)(x1 x2 x3:Int)(h:128<=b0)(h2:b0<194\/244<b0):xG (b0:Int) x1 x2 x3=0:=by
 unfold xG;rw[if_neg (by omega),if_neg (by omega),if_pos (by omega)]
theorem zi(b0:Nat)(x1 x2 x3:Int)(lo hi:Int)(h:194<=b0/\b0<=244)(hlo:(if(b0:Int)=224 then 160 else if(b0:Int)=240 then 144 else 128)=lo)(hhi:(if(b0:Int)=237 then 159 else if(b0:Int)=244 then 143 else 191)=hi) :
  xG (b0:Int) x1 x2 x3=if lo<=x1/\x1<=hi then(if b0<224 then 2 else if 128<=x2/\x2<=191 then(if b0<240 then 3 else if 128<=x3/\x3<=191 then 4 else 0) else 0) else 0:=by
 unfold xG;rw[if_neg (by omega),if_neg (by omega),if_neg (by omega),hlo,hhi]
 by_cases h1:lo<=x1/\x1<=hi
 ·rw[if_neg (by simp[h1]),if_pos h1]
  by_cases h2:b0<224
  ·rw[if_pos (by omega),if_pos h2]
  ·rw[if_neg (by omega),if_neg h2]
   by_cases h3:128<=x2/\x2<=191
   ·rw[if_neg (by simp[h3]),if_pos h3]
    by_cases h4:b0<240
    ·rw[if_pos (by omega),if_pos h4]
    ·rw[if_neg (by omega),if_neg h4]
     by_cases h5:128<=x3/\x3<=191
     ·rw[if_neg (by simp[h5]),if_pos h5]
     ·rw[if_pos (by simpa using h5),if_neg h5]
   ·rw[if_pos (by simpa using h3),if_neg h3]
 ·rw[if_pos (by simpa using h1),if_neg h1]
def Told(S:Nat)(q:Nat × Nat):Prop:=(S=0->q=(65533,1))/\(0<S->q.2=S/\¬(q.1=65533/\q.2=1))
theorem abq(n b0 b1 b2 b3 sz lo hi:Nat)(hsz:sz=2\/sz=3\/sz=4)(h:n<sz\/(b1<lo\/hi<b1)\/(3<=sz/\(b2<128\/191<b2))\/(4<=sz/\(b3<128\/191<b3))):Lib.slowN n b0 b1 b2 b3 sz lo hi=(65533,1):=by
 unfold Lib.slowN
 by_cases a1:n<sz
 ·rw[if_pos a1]
 rw[if_neg a1]
 by_cases a2:b1<lo\/hi<b1
 ·rw[if_pos a2]
 rw[if_neg a2,if_neg (show ¬sz<=2 by omega)]
 by_cases a3:b2<128\/191<b2
 ·rw[if_pos a3]
 rw[if_neg a3,if_neg (show ¬sz<=3 by omega),if_pos (by omega)]
theorem abr(n b0 b1 b2 b3 sz lo hi:Nat)(hsz:sz=2\/sz=3\/sz=4)(h:¬(n<sz\/(b1<lo\/hi<b1)\/(3<=sz/\(b2<128\/191<b2))\/(4<=sz/\(b3<128\/191<b3)))):(Lib.slowN n b0 b1 b2 b3 sz lo hi).2=sz:=by
 unfold Lib.slowN;rw[if_neg (by omega),if_neg (by omega)]
 by_cases a2:sz<=2
 ·rw[if_pos a2];show 2=sz;omega
 rw[if_neg a2,if_neg (by omega)]
 by_cases a3:sz<=3
 ·rw[if_pos a3];show 3=sz;omega
 rw[if_neg a3,if_neg (by omega)];show 4=sz;omega
theorem zk(n b0 b1 b2 b3 sz lo hi:Nat)(x1 x2 x3:Int)(hsz:(b0<224/\sz=2)\/(224<=b0/\b0<240/\sz=3)\/(240<=b0/\sz=4))(hlo:128<=lo)(hn:1<=n)
  (e1:x1=if 1<n then(b1:Int) else -1) (e2:x2=if 2<n then(b2:Int) else -1) (e3:x3=if 3<n then(b3:Int) else -1) :
  Told (if(lo:Int)<=x1/\x1<=(hi:Int) then(if b0<224 then 2 else if 128<=x2/\x2<=191 then(if b0<240 then 3 else if 128<=x3/\x3<=191 then 4 else 0) else 0) else 0) (Lib.slowN n b0 b1 b2 b3 sz lo hi):=by
 have f1:(1<n/\x1=b1)\/(n<=1/\x1=-1):=by
  by_cases a:1<n
  ·rw[if_pos a]at e1;exact Or.inl ⟨a,e1⟩
  ·rw[if_neg a]at e1;exact Or.inr ⟨by omega,e1⟩
 have f2:(2<n/\x2=b2)\/(n<=2/\x2=-1):=by
  by_cases a:2<n
  ·rw[if_pos a]at e2;exact Or.inl ⟨a,e2⟩
  ·rw[if_neg a]at e2;exact Or.inr ⟨by omega,e2⟩
 have f3:(3<n/\x3=b3)\/(n<=3/\x3=-1):=by
  by_cases a:3<n
  ·rw[if_pos a]at e3;exact Or.inl ⟨a,e3⟩
  ·rw[if_neg a]at e3;exact Or.inr ⟨by omega,e3⟩
 clear e1 e2 e3
 by_cases hb:n<sz\/(b1<lo\/hi<b1)\/(3<=sz/\(b2<128\/191<b2))\/(4<=sz/\(b3<128\/191<b3))
 ·rw[abq n b0 b1 b2 b3 sz lo hi (by omega) hb];refine⟨fun _=>rfl,fun hp=>?_⟩;exfalso
  by_cases a1:(lo:Int)<=x1/\x1<=(hi:Int)
  ·rw[if_pos a1]at hp
   by_cases a2:b0<224
   ·omega
   rw[if_neg a2]at hp
   by_cases a3:128<=x2/\x2<=191
   ·rw[if_pos a3]at hp
    by_cases a4:b0<240
    ·omega
    rw[if_neg a4]at hp
    by_cases a5:128<=x3/\x3<=191
    ·omega
    ·rw[if_neg a5]at hp;omega
   ·rw[if_neg a3]at hp;omega
  ·rw[if_neg a1]at hp;omega
 ·have hg:=abr n b0 b1 b2 b3 sz lo hi (by omega) hb;have hS:(if(lo:Int)<=x1/\x1<=(hi:Int) then(if b0<224 then 2 else if 128<=x2/\x2<=191 then(if b0<240 then 3 else if 128<=x3/\x3<=191 then 4 else 0) else 0) else 0)=sz:=by
   rw[if_pos (by omega)]
   by_cases a2:b0<224
   ·rw[if_pos a2];omega
   rw[if_neg a2,if_pos (by omega)]
   by_cases a4:b0<240
   ·rw[if_pos a4];omega
   rw[if_neg a4,if_pos (by omega)];omega
  rw[hS];exact⟨fun hz=>absurd hz (by omega),fun _=>⟨hg,fun hh=>by omega⟩⟩
theorem abt(b0:Nat)(h:128<=b0)(h2:b0<194\/244<b0):Lib.firstT b0=241:=by
 unfold Lib.firstT;rw[if_neg (by omega)]
 by_cases a:b0<194
 ·rw[if_pos a]
 ·rw[if_neg a,if_neg (by omega),if_neg (by omega),if_neg (by omega),if_neg (by omega),if_neg (by omega),if_neg (by omega),if_neg (by omega),if_neg (by omega)]
theorem abu(n b0 b1 b2 b3:Nat)(x1 x2 x3:Int)(hn:1<=n)(h0:b0<256)(h1:b1<256)(h2:b2<256)(h3:b3<256)
  (e1:x1=if 1<n then(b1:Int) else -1) (e2:x2=if 2<n then(b2:Int) else -1) (e3:x3=if 3<n then(b3:Int) else -1) :
  Told (xG (b0:Int) x1 x2 x3) (Lib.decodeN n b0 b1 b2 b3):=by
 by_cases ha:b0<128
 ·rw[abo b0 x1 x2 x3 ha,Lib.ascii_eq n b0 b1 b2 b3 (by unfold Lib.firstT;rw[if_pos ha])];exact⟨fun h=>(by cases h),fun _=>⟨rfl,fun hh=>by simp at hh;omega⟩⟩
 by_cases hb:b0<194\/244<b0
 ·rw[abp b0 x1 x2 x3 (by omega) hb,Lib.bad_eq n b0 b1 b2 b3 h0 (abt b0 (by omega) hb)];exact⟨fun _=>rfl,fun h=>absurd h (by decide)⟩
 have hr:194<=b0/\b0<=244:=by omega
 by_cases c1:b0<224
 ·rw[<-Lib.slow_C2 n b0 b1 b2 b3 hn h1 h2 h3 (by omega),zi b0 x1 x2 x3 128 191 hr (by rw[if_neg (by omega),if_neg (by omega)]) (by rw[if_neg (by omega),if_neg (by omega)])];exact zk n b0 b1 b2 b3 2 128 191 x1 x2 x3 (by omega) (by omega) hn e1 e2 e3
 by_cases c2:b0=224
 ·rw[<-Lib.slow_E0 n b0 b1 b2 b3 hn h1 h2 h3 c2,zi b0 x1 x2 x3 160 191 hr (by rw[if_pos (by omega)]) (by rw[if_neg (by omega),if_neg (by omega)])];exact zk n b0 b1 b2 b3 3 160 191 x1 x2 x3 (by omega) (by omega) hn e1 e2 e3
 by_cases c3:b0=237
 ·rw[<-Lib.slow_ED n b0 b1 b2 b3 hn h1 h2 h3 c3,zi b0 x1 x2 x3 128 159 hr (by rw[if_neg (by omega),if_neg (by omega)]) (by rw[if_pos (by omega)])];exact zk n b0 b1 b2 b3 3 128 159 x1 x2 x3 (by omega) (by omega) hn e1 e2 e3
 by_cases c4:b0<240
 ·rw[<-Lib.slow_E1 n b0 b1 b2 b3 hn h1 h2 h3 (by omega),zi b0 x1 x2 x3 128 191 hr (by rw[if_neg (by omega),if_neg (by omega)]) (by rw[if_neg (by omega),if_neg (by omega)])];exact zk n b0 b1 b2 b3 3 128 191 x1 x2 x3 (by omega) (by omega) hn e1 e2 e3
 by_cases c5:b0=240
 ·rw[<-Lib.slow_F0 n b0 b1 b2 b3 hn h1 h2 h3 c5,zi b0 x1 x2 x3 144 191 hr (by rw[if_neg (by omega),if_pos (by omega)]) (by rw[if_neg (by omega),if_neg (by omega)])];exact zk n b0 b1 b2 b3 4 144 191 x1 x2 x3 (by omega) (by omega) hn e1 e2 e3
 by_cases c6:b0=244
 ·rw[<-Lib.slow_F4 n b0 b1 b2 b3 hn h1 h2 h3 c6,zi b0 x1 x2 x3 128 143 hr (by rw[if_neg (by omega),if_neg (by omega)]) (by rw[if_neg (by omega),if_pos (by omega)])];exact zk n b0 b1 b2 b3 4 128 143 x1 x2 x3 (by omega) (by omega) hn e1 e2 e3
 ·rw[<-Lib.slow_F1 n b0 b1 b2 b3 hn h1 h2 h3 (by omega),zi b0 x1 x2 x3 128 191 hr (by rw[if_neg (by omega),if_neg (by omega)]) (by rw[if_neg (by omega),if_neg (by omega)])];exact zk n b0 b1 b2 b3 4 128 191 x1 x2 x3 (by omega) (by omega) hn e1 e2 e3
end Go.Proofs.YtbcfhgpfgdbjgaaGreatDoor
