import Derived.Lib.Bytealg
import Derived.Lib.TrimByte
import Derived.Lib.Small
namespace Go.Proofs.YtonfldbigenfhaaGreatDoor
set_option linter.unusedVariables false
structure Good {α:Type} (c:α->α->Int):Prop where
 rng:∀a b,c a b=-1\/c a b=0\/c a b=1
 anti:∀a b,c b a=- c a b
 trans:∀a b d,c a b<=0->c b d<=0->c a d<=0/\((c a b=0/\c b d=0) ↔ c a d=0)
theorem Good.self {α:Type} {c:α->α->Int} (h:Good c) (a:α):c a a=0:=by
 have:=h.anti a a;omega
theorem good_pull {α β:Type} {c:α->α->Int} (h:Good c) (f:β->α):Good (fun a b=>c (f a) (f b)) :=
 ⟨fun a b=>h.rng _ _,fun a b=>h.anti _ _,fun a b d=>h.trans _ _ _⟩
def lexC {α:Type} (c d:α->α->Int) (a b:α):Int:=if c a b=0 then d a b else c a b
theorem good_lex {α:Type} {c d:α->α->Int} (hc:Good c) (hd:Good d):Good (lexC c d):=by
 refine ⟨fun a b=>?_,fun a b=>?_,fun x y z=>?_⟩
 ·unfold lexC;split
  ·exact hd.rng a b
  ·exact hc.rng a b
 ·have h1:=hc.anti a b
  have h2:=hd.anti a b
  unfold lexC
  by_cases h:c a b=0
  ·rw [if_pos h,if_pos (by omega),h2]
  ·rw [if_neg h,if_neg (by omega),h1]
 ·have h1:=hc.trans x y z
  have h2:=hd.trans x y z
  have r1:=hc.rng x y
  have r2:=hc.rng y z
  have r3:=hc.rng x z
  have s3:=hd.rng x z
  unfold lexC
  intro p q
  split at p <;> split at q
  ·rename_i e1 e2
   have e3:c x z=0:=(h1 (by omega) (by omega)).2.1 ⟨e1,e2⟩
   rw [if_pos e1,if_pos e2,if_pos e3]
   exact h2 p q
  ·rename_i e1 e2
   have e3:=h1 (by omega) (by omega)
   have e4:c x z ≠ 0:=fun hh=>e2 (e3.2.2 hh).2
   rw [if_pos e1,if_neg e2,if_neg e4]
   refine ⟨e3.1,?_⟩
   constructor
   ·rintro ⟨_,h⟩;exact absurd h e2
   ·intro h;exact absurd h e4
  ·rename_i e1 e2
   have e3:=h1 (by omega) (by omega)
   have e4:c x z ≠ 0:=fun hh=>e1 (e3.2.2 hh).1
   rw [if_neg e1,if_pos e2,if_neg e4]
   refine ⟨e3.1,?_⟩
   constructor
   ·rintro ⟨h,_⟩;exact absurd h e1
   ·intro h;exact absurd h e4
  ·rename_i e1 e2
   have e3:=h1 (by omega) (by omega)
   have e4:c x z ≠ 0:=fun hh=>e1 (e3.2.2 hh).1
   rw [if_neg e1,if_neg e2,if_neg e4]
   refine ⟨e3.1,?_⟩
   constructor
   ·rintro ⟨h,_⟩;exact absurd h e1
   ·intro h;exact absurd h e4
def listC {α:Type} (c:α->α->Int):List α->List α->Int
 | [],[]=>0
 | [],_ :: _=>-1
 | _ :: _,[]=>1
 | a :: as,b :: bs=>if c a b=0 then listC c as bs else c a b
theorem good_list {α:Type} {c:α->α->Int} (hc:Good c):Good (listC c):=by
 refine ⟨fun a=>?_,fun a=>?_,fun x=>?_⟩
 ·induction a with
  | nil=>intro b;cases b <;> simp [listC]
  | cons a as ih =>
   intro b
   cases b with
   | nil=>simp [listC]
   | cons b bs =>
    simp only [listC];split
    ·exact ih bs
    ·exact hc.rng a b
 ·induction a with
  | nil=>intro b;cases b <;> simp [listC]
  | cons a as ih =>
   intro b
   cases b with
   | nil=>simp [listC]
   | cons b bs =>
    have h1:=hc.anti a b
    simp only [listC]
    by_cases h:c a b=0
    ·rw [if_pos h,if_pos (by omega),ih]
    ·rw [if_neg h,if_neg (by omega),h1]
 ·induction x with
  | nil =>
   intro y z p q
   cases y with
   | nil=>cases z <;> simp [listC] at q ⊢
   | cons y ys=>cases z with
    | nil=>simp [listC] at q
    | cons z zs=>simp [listC]
  | cons x xs ih =>
   intro y z
   cases y with
   | nil=>intro p;simp [listC] at p
   | cons y ys =>
    cases z with
    | nil=>intro p q;simp [listC] at q
    | cons z zs =>
     have h1:=hc.trans x y z
     have h2:=ih ys zs
     have r1:=hc.rng x y
     have r2:=hc.rng y z
     have r3:=hc.rng x z
     simp only [listC]
     intro p q
     split at p <;> split at q
     ·rename_i e1 e2
      have e3:c x z=0:=(h1 (by omega) (by omega)).2.1 ⟨e1,e2⟩
      rw [if_pos e1,if_pos e2,if_pos e3]
      exact h2 p q
     ·rename_i e1 e2
      have e3:=h1 (by omega) (by omega)
      have e4:c x z ≠ 0:=fun hh=>e2 (e3.2.2 hh).2
      rw [if_pos e1,if_neg e2,if_neg e4]
      refine ⟨e3.1,?_⟩
      constructor
      ·rintro ⟨_,h⟩;exact absurd h e2
      ·intro h;exact absurd h e4
     ·rename_i e1 e2
      have e3:=h1 (by omega) (by omega)
      have e4:c x z ≠ 0:=fun hh=>e1 (e3.2.2 hh).1
      rw [if_neg e1,if_pos e2,if_neg e4]
      refine ⟨e3.1,?_⟩
      constructor
      ·rintro ⟨h,_⟩;exact absurd h e1
      ·intro h;exact absurd h e4
     ·rename_i e1 e2
      have e3:=h1 (by omega) (by omega)
      have e4:c x z ≠ 0:=fun hh=>e1 (e3.2.2 hh).1
      rw [if_neg e1,if_neg e2,if_neg e4]
      refine ⟨e3.1,?_⟩
      constructor
      ·rintro ⟨h,_⟩;exact absurd h e1
      ·intro h;exact absurd h e4
theorem good_int:Good Lib.compareInt:=by
 refine ⟨fun a b=>?_,fun a b=>?_,fun x y z=>?_⟩
 ·unfold Lib.compareInt;split
  ·simp
  ·split <;> simp
 ·unfold Lib.compareInt;repeat' split
  all_goals omega
 ·unfold Lib.compareInt;repeat' split
  all_goals omega
def byteC (a b:UInt8):Int:=Lib.compareInt a.toNat b.toNat
theorem good_byte:Good byteC:=good_pull good_int (fun a:UInt8=>(a.toNat:Int))
theorem bytes_list:∀a b,Lib.compareBytes a b=listC byteC a b
 | [],[]=>rfl
 | [],_ :: _=>rfl
 | _ :: _,[]=>rfl
 | a :: as,b :: bs=>by
  have ih:=bytes_list as bs
  unfold Lib.compareBytes listC
  rw [ih]
  have eb:byteC a b=if (a.toNat:Int) < b.toNat then -1 else if (a.toNat:Int) > b.toNat then 1 else 0:=rfl
  rw [eb]
  by_cases h:a < b
  ·have h':((a.toNat:Int) < b.toNat):=by have:=UInt8.lt_iff_toNat_lt.1 h;omega
   simp [h,h']
  ·by_cases h2:b < a
   ·have h':((b.toNat:Int) < a.toNat):=by have:=UInt8.lt_iff_toNat_lt.1 h2;omega
    have h'':¬ ((a.toNat:Int) < b.toNat):=by omega
    simp [h,h2,h',h'']
   ·have h':¬ ((b.toNat:Int) < a.toNat):=by intro hh;exact h2 (UInt8.lt_iff_toNat_lt.2 (by omega))
    have h'':¬ ((a.toNat:Int) < b.toNat):=by intro hh;exact h (UInt8.lt_iff_toNat_lt.2 (by omega))
    simp [h,h2,h',h'']
theorem good_bytes:Good Lib.compareBytes:=by
 have e:Lib.compareBytes=listC byteC:=by funext a b;exact bytes_list a b
 rw [e];exact good_list good_byte
def isD (c:UInt8):Bool:=decide (48<=c.toNat) && decide (c.toNat<=57)
def isP (c:UInt8):Bool:=isD c || (decide (65<=c.toNat) && decide (c.toNat<=90)) || (decide (97<=c.toNat) && decide (c.toNat<=122)) || decide (c.toNat=45)
def numT (l:List UInt8):Bool:=!l.isEmpty && l.all isD
def bareT (l:List UInt8):List UInt8:=Lib.trimLeftB l 48
def kindT (l:List UInt8):Int:=if numT l then 0 else 1
def lenT (l:List UInt8):Int:=if numT l then (bareT l).length else 0
def bodyT (l:List UInt8):List UInt8:=if numT l then bareT l else l
def partC (a b:List UInt8):Int:=lexC (fun a b=>Lib.compareInt (kindT a) (kindT b)) (lexC (fun a b=>Lib.compareInt (lenT a) (lenT b)) (fun a b=>Lib.compareBytes (bodyT a) (bodyT b))) a b
theorem good_part:Good partC:=good_lex (good_pull good_int kindT) (good_lex (good_pull good_int lenT) (good_pull good_bytes bodyT))
def splitD:List UInt8->List (List UInt8)
 | []=>[[]]
 | c :: l=>if c=46 then [] :: splitD l else match splitD l with
  | p :: ps=>(c :: p) :: ps
  | []=>[[c]]
theorem splitD_cons (c:UInt8) (l:List UInt8):splitD (c :: l)=if c=46 then [] :: splitD l else match splitD l with
  | p :: ps=>(c :: p) :: ps
  | []=>[[c]]:=by rw [splitD]
theorem splitD_ne (l:List UInt8):splitD l ≠ []:=by
 cases l with
 | nil=>simp [splitD]
 | cons c l =>
  rw [splitD_cons];split
  ·simp
  ·split <;> simp
theorem splitD_free:∀(p:List UInt8),(∀c ∈ p,c ≠ 46)->splitD p=[p]
 | [],_=>rfl
 | c :: p,h=>by
  have ih:=splitD_free p (fun x hx=>h x (List.mem_cons_of_mem _ hx))
  rw [splitD_cons]
  rw [if_neg (h c (List.mem_cons_self ..)),ih]
theorem splitD_dot:∀(p r:List UInt8),(∀c ∈ p,c ≠ 46)->splitD (p++46 :: r)=p :: splitD r
 | [],r,_=>by simp [splitD]
 | c :: p,r,h=>by
  have ih:=splitD_dot p r (fun x hx=>h x (List.mem_cons_of_mem _ hx))
  rw [List.cons_append,splitD_cons]
  rw [if_neg (h c (List.mem_cons_self ..)),ih]
theorem splitD_app:∀(l r:List UInt8),splitD (l++46 :: r)=splitD l++splitD r
 | [],r=>by simp [splitD]
 | c :: l,r=>by
  have ih:=splitD_app l r
  rw [List.cons_append,splitD_cons,splitD_cons]
  by_cases h:c=46
  ·rw [if_pos h,if_pos h,ih,List.cons_append]
  ·rw [if_neg h,if_neg h,ih]
   obtain ⟨p,ps,e⟩:∃p ps,splitD l=p :: ps:=by
    cases e:splitD l with
    | nil=>exact absurd e (splitD_ne l)
    | cons p ps=>exact ⟨p,ps,rfl⟩
   rw [e];rfl
def preC (a b:List UInt8):Int :=
 lexC (fun a b:List UInt8=>Lib.compareInt (if a.isEmpty then 1 else 0) (if b.isEmpty then 1 else 0)) (fun a b=>listC partC (splitD a) (splitD b)) a b
theorem good_pre:Good preC:=good_lex (good_pull good_int (fun a:List UInt8=>if a.isEmpty then (1:Int) else 0)) (good_pull (good_list good_part) splitD)
structure V where
 major:Int
 minor:Int
 patch:Int
 pre:List UInt8
def verC (a b:V):Int:=lexC (fun a b=>Lib.compareInt a.major b.major) (lexC (fun a b=>Lib.compareInt a.minor b.minor) (lexC (fun a b=>Lib.compareInt a.patch b.patch) (fun a b=>preC a.pre b.pre))) a b
theorem good_ver:Good verC:=good_lex (good_pull good_int V.major) (good_lex (good_pull good_int V.minor) (good_lex (good_pull good_int V.patch) (good_pull good_pre V.pre)))
theorem cmp_lt {x y:Int} (h:x < y):Lib.compareInt x y=-1:=by unfold Lib.compareInt;rw [if_pos h]
theorem cmp_gt {x y:Int} (h:y < x):Lib.compareInt x y=1:=by unfold Lib.compareInt;rw [if_neg (by omega),if_pos h]
theorem cmp_eq (x:Int):Lib.compareInt x x=0:=good_int.self x
theorem cmp_zero {x y:Int}:Lib.compareInt x y=0 ↔ x=y:=by
 unfold Lib.compareInt;repeat' split
 all_goals omega
theorem cmp_le {x y:Int}:Lib.compareInt x y<=0 ↔ x<=y:=by
 unfold Lib.compareInt;repeat' split
 all_goals omega
theorem lex_le {α:Type} {c d:α->α->Int} {a b:α} (h1:c a b<=0) (h2:c a b=0->d a b<=0):lexC c d a b<=0:=by
 unfold lexC;split
 ·exact h2 ‹_›
 ·exact h1
theorem kind_nn (p:List UInt8):0<=kindT p:=by unfold kindT;split <;> decide
theorem len_nn (p:List UInt8):0<=lenT p:=by unfold lenT;split <;> omega
theorem kind0:kindT [48]=0:=by decide
theorem len0:lenT [48]=0:=by decide
theorem body0:bodyT [48]=[]:=by decide
theorem part_zero (p:List UInt8):partC [48] p<=0:=by
 unfold partC
 refine lex_le ?_ fun h=>lex_le ?_ fun h2=>?_
 ·show Lib.compareInt (kindT [48]) (kindT p)<=0
  rw [cmp_le,kind0];exact kind_nn p
 ·show Lib.compareInt (lenT [48]) (lenT p)<=0
  rw [cmp_le,len0];exact len_nn p
 ·show Lib.compareBytes (bodyT [48]) (bodyT p)<=0
  rw [body0]
  cases bodyT p <;> simp [Lib.compareBytes]
theorem pre_zero (l:List UInt8):preC [48] l<=0:=by
 unfold preC
 refine lex_le ?_ fun h=>?_
 ·show Lib.compareInt 0 _<=0
  rw [cmp_le];split <;> decide
 ·show listC partC (splitD [48]) (splitD l)<=0
  have e:splitD [48]=[[48]]:=by decide
  rw [e]
  cases h:splitD l with
  | nil=>exact absurd h (splitD_ne l)
  | cons q qs =>
   unfold listC;split
   ·cases qs <;> simp [listC]
   ·exact part_zero q
theorem listC_app {α:Type} {c:α->α->Int} (h:Good c) (x:α) (r:List α):∀l,listC c l (l++x :: r)=-1
 | []=>rfl
 | a :: l=>by rw [List.cons_append];unfold listC;rw [if_pos (h.self a)];exact listC_app h x r l
theorem list_between:∀(L K:List (List UInt8)),listC partC L K < 0->listC partC K (L++[[48]]) < 0->False
 | [],[],h,_=>by simp [listC] at h
 | [],k :: ks,_,h=>by
  have h1:=good_part.anti [48] k
  have h2:=part_zero k
  rw [List.nil_append] at h
  unfold listC at h
  split at h
  ·cases ks <;> simp [listC] at h
  ·omega
 | a :: L,[],h,_=>by simp [listC] at h
 | a :: L,k :: K,h,h'=>by
  have h1:=good_part.anti a k
  rw [List.cons_append] at h'
  unfold listC at h h'
  by_cases e:partC a k=0
  ·rw [if_pos e] at h
   rw [if_pos (by omega)] at h'
   exact list_between L K h h'
  ·rw [if_neg e] at h
   rw [if_neg (by omega)] at h'
   omega
def nextV (v:V):V:=if v.pre=[] then ⟨v.major,v.minor,if v.patch < 4611686018427387904 then v.patch+1 else v.patch,[48]⟩ else ⟨v.major,v.minor,v.patch,v.pre++[46,48]⟩
theorem verC_eq (a b:V):verC a b=if Lib.compareInt a.major b.major=0 then (if Lib.compareInt a.minor b.minor=0 then (if Lib.compareInt a.patch b.patch=0 then preC a.pre b.pre else Lib.compareInt a.patch b.patch) else Lib.compareInt a.minor b.minor) else Lib.compareInt a.major b.major:=rfl
theorem preC_eq (a b:List UInt8):preC a b=if Lib.compareInt (if a.isEmpty then 1 else 0) (if b.isEmpty then 1 else 0)=0 then listC partC (splitD a) (splitD b) else Lib.compareInt (if a.isEmpty then 1 else 0) (if b.isEmpty then 1 else 0):=rfl
theorem next_behind (v:V) (h:v.patch < 4611686018427387904):verC v (nextV v)=-1:=by
 unfold nextV
 by_cases e:v.pre=[]
 ·rw [if_pos e,if_pos h,verC_eq]
  simp only
  have h3:Lib.compareInt v.patch (v.patch+1)=-1:=cmp_lt (by omega)
  rw [if_pos (cmp_eq _),if_pos (cmp_eq _),if_neg (by omega),h3]
 ·rw [if_neg e,verC_eq]
  simp only
  rw [if_pos (cmp_eq _),if_pos (cmp_eq _),if_pos (cmp_eq _),preC_eq]
  have e1:v.pre.isEmpty=false:=by simpa using e
  have e2:(v.pre++[46,48]).isEmpty=false:=by simp
  rw [e1,e2,if_pos (cmp_eq _),splitD_app]
  exact listC_app good_part [48] [] _
theorem pre_last (l:List UInt8):0<=preC [] l:=by
 rw [preC_eq]
 cases l with
 | nil=>decide
 | cons c l=>exact (by decide:(0:Int)<=Lib.compareInt 1 0)
theorem none_between (v w:V) (h:v.patch < 4611686018427387904) (hx:verC v w < 0) (hy:verC w (nextV v) < 0):False:=by
 unfold nextV at hy
 by_cases e:v.pre=[]
 ·rw [if_pos e,if_pos h,verC_eq] at hy
  rw [verC_eq] at hx
  simp only at hy
  have a1:=good_int.anti v.major w.major
  have a2:=good_int.anti v.minor w.minor
  by_cases c1:Lib.compareInt v.major w.major=0
  ·rw [if_pos c1] at hx
   rw [if_pos (by omega)] at hy
   by_cases c2:Lib.compareInt v.minor w.minor=0
   ·rw [if_pos c2] at hx
    rw [if_pos (by omega)] at hy
    have p0:=pre_last w.pre
    rw [e] at hx
    have p1:=pre_zero w.pre
    have p2:=good_pre.anti [48] w.pre
    by_cases c3:Lib.compareInt v.patch w.patch=0
    ·rw [if_pos c3] at hx;omega
    ·rw [if_neg c3] at hx
     have l1:v.patch<=w.patch:=cmp_le.1 (by omega)
     have l2:v.patch ≠ w.patch:=fun hh=>c3 (cmp_zero.2 hh)
     by_cases c4:Lib.compareInt w.patch (v.patch+1)=0
     ·rw [if_pos c4] at hy;omega
     ·rw [if_neg c4] at hy
      have l3:w.patch<=v.patch+1:=cmp_le.1 (by omega)
      have l4:w.patch ≠ v.patch+1:=fun hh=>c4 (cmp_zero.2 hh)
      omega
   ·rw [if_neg c2] at hx
    rw [if_neg (by omega)] at hy
    omega
  ·rw [if_neg c1] at hx
   rw [if_neg (by omega)] at hy
   omega
 ·rw [if_neg e,verC_eq] at hy
  rw [verC_eq] at hx
  simp only at hy
  have a1:=good_int.anti v.major w.major
  have a2:=good_int.anti v.minor w.minor
  have a3:=good_int.anti v.patch w.patch
  by_cases c1:Lib.compareInt v.major w.major=0
  ·rw [if_pos c1] at hx
   rw [if_pos (by omega)] at hy
   by_cases c2:Lib.compareInt v.minor w.minor=0
   ·rw [if_pos c2] at hx
    rw [if_pos (by omega)] at hy
    by_cases c3:Lib.compareInt v.patch w.patch=0
    ·rw [if_pos c3] at hx
     rw [if_pos (by omega)] at hy
     have e1:v.pre.isEmpty=false:=by simpa using e
     have e2:(v.pre++[46,48]).isEmpty=false:=by simp
     rw [preC_eq,e1] at hx
     rw [preC_eq,e2] at hy
     cases hw:w.pre.isEmpty with
     | true =>
      rw [hw] at hy
      have hc:Lib.compareInt (if true=true then 1 else 0) (if false=true then 1 else 0)=1:=by decide
      rw [hc] at hy
      simp at hy
     | false =>
      rw [hw] at hx hy
      rw [if_pos (cmp_eq _)] at hx hy
      rw [splitD_app] at hy
      exact list_between _ _ hx hy
    ·rw [if_neg c3] at hx
     rw [if_neg (by omega)] at hy
     omega
   ·rw [if_neg c2] at hx
    rw [if_neg (by omega)] at hy
    omega
  ·rw [if_neg c1] at hx
   rw [if_neg (by omega)] at hy
   omega
theorem partC_eq (a b:List UInt8):partC a b=if Lib.compareInt (kindT a) (kindT b)=0 then (if Lib.compareInt (lenT a) (lenT b)=0 then Lib.compareBytes (bodyT a) (bodyT b) else Lib.compareInt (lenT a) (lenT b)) else Lib.compareInt (kindT a) (kindT b):=rfl
theorem partC_nn {a b:List UInt8} (ha:numT a=true) (hb:numT b=true):partC a b=if ((bareT a).length:Int)=(bareT b).length then Lib.compareBytes (bareT a) (bareT b) else Lib.compareInt (bareT a).length (bareT b).length:=by
 rw [partC_eq];unfold kindT lenT bodyT
 simp only [ha,hb,if_true]
 rw [if_pos (cmp_eq _)]
 by_cases h:((bareT a).length:Int)=(bareT b).length
 ·rw [if_pos (cmp_zero.2 h),if_pos h]
 ·rw [if_neg (fun hh=>h (cmp_zero.1 hh)),if_neg h]
theorem partC_nw {a b:List UInt8} (ha:numT a=true) (hb:numT b=false):partC a b=-1:=by
 rw [partC_eq];unfold kindT
 simp [ha,hb,Lib.compareInt]
theorem partC_wn {a b:List UInt8} (ha:numT a=false) (hb:numT b=true):partC a b=1:=by
 rw [partC_eq];unfold kindT
 simp [ha,hb,Lib.compareInt]
theorem partC_ww {a b:List UInt8} (ha:numT a=false) (hb:numT b=false):partC a b=Lib.compareBytes a b:=by
 rw [partC_eq];unfold kindT lenT bodyT
 simp [ha,hb,Lib.compareInt]
theorem ix_cases:∀(l:List UInt8),(Lib.indexByte l 46=-1/\∀c ∈ l,c ≠ 46)\/∃k:Nat,Lib.indexByte l 46=k/\k < l.length/\(∀c ∈ l.take k,c ≠ 46)/\l=l.take k++46 :: l.drop (k+1)
 | []=>Or.inl ⟨rfl,by simp⟩
 | b :: l=>by
  unfold Lib.indexByte
  by_cases hb:b=46
  ·subst hb
   right
   exact ⟨0,by simp,by simp,by simp,by simp⟩
  ·have hb':(b == (46:UInt8))=false:=by simpa using hb
   rw [hb']
   rcases ix_cases l with ⟨h1,h2⟩ | ⟨k,h1,h2,h3,h4⟩
   ·left
    refine ⟨by rw [h1];rfl,?_⟩
    intro c hc
    rcases List.mem_cons.1 hc with rfl | hc
    ·exact hb
    ·exact h2 c hc
   ·right
    refine ⟨k+1,?_,Nat.succ_lt_succ h2,?_,?_⟩
    ·rw [h1]
     have:((k:Int) == -1)=false:=by simp
     rw [this]
     simp
    ·intro c hc
     rw [List.take_succ_cons] at hc
     rcases List.mem_cons.1 hc with rfl | hc
     ·exact hb
     ·exact h3 c hc
    ·rw [List.take_succ_cons,List.drop_succ_cons,List.cons_append,<-h4]
def cut1 (l:List UInt8):List UInt8:=if Lib.indexByte l 46=-1 then l else l.take (Lib.indexByte l 46).toNat
def cut2 (l:List UInt8):List UInt8:=if Lib.indexByte l 46=-1 then [] else l.drop ((Lib.indexByte l 46).toNat+1)
def cut3 (l:List UInt8):Bool:=!decide (Lib.indexByte l 46=-1)
theorem cut_no {l:List UInt8} (h:cut3 l=false):splitD l=[cut1 l]:=by
 have h':Lib.indexByte l 46=-1:=by simpa [cut3] using h
 rcases ix_cases l with ⟨h1,h2⟩ | ⟨k,h1,h2,h3,h4⟩
 ·unfold cut1;rw [if_pos h1];exact splitD_free l h2
 ·omega
theorem cut_yes {l:List UInt8} (h:cut3 l=true):splitD l=cut1 l :: splitD (cut2 l)/\(cut2 l).length < l.length:=by
 have h':¬ Lib.indexByte l 46=-1:=by simpa [cut3] using h
 rcases ix_cases l with ⟨h1,h2⟩ | ⟨k,h1,h2,h3,h4⟩
 ·exact absurd h1 h'
 ·unfold cut1 cut2
  rw [if_neg h',if_neg h',h1,Int.toNat_natCast]
  refine ⟨?_,by simp;omega⟩
  conv=>lhs;rw [h4]
  exact splitD_dot _ _ h3
theorem cut1_len (l:List UInt8):(cut1 l).length<=l.length:=by
 unfold cut1;split
 ·exact Nat.le_refl _
 ·simp;omega
theorem cut2_len (l:List UInt8):(cut2 l).length<=l.length:=by
 unfold cut2;split
 ·simp
 ·simp
theorem list_step (a b:List UInt8):listC partC (splitD a) (splitD b) =
  if partC (cut1 a) (cut1 b)=0 then (if cut3 a=true then (if cut3 b=true then listC partC (splitD (cut2 a)) (splitD (cut2 b)) else 1) else (if cut3 b=true then -1 else 0)) else partC (cut1 a) (cut1 b):=by
 cases ha:cut3 a with
 | true =>
  rw [(cut_yes ha).1]
  cases hb:cut3 b with
  | true=>rw [(cut_yes hb).1];simp [listC]
  | false =>
   rw [cut_no hb]
   cases hs:splitD (cut2 a) with
   | nil=>exact absurd hs (splitD_ne _)
   | cons x xs=>simp [listC]
 | false =>
  rw [cut_no ha]
  cases hb:cut3 b with
  | true =>
   rw [(cut_yes hb).1]
   cases hs:splitD (cut2 b) with
   | nil=>exact absurd hs (splitD_ne _)
   | cons x xs=>simp [listC]
  | false=>rw [cut_no hb];simp [listC]
theorem pre_empty (a b:List UInt8) (h:a=[]\/b=[]):preC a b=Lib.compareInt b.length a.length:=by
 rw [preC_eq]
 rcases h with rfl | rfl
 ·cases b with
  | nil=>decide
  | cons c b =>
   have:Lib.compareInt ((c :: b).length:Nat) (([]:List UInt8).length:Nat)=1:=cmp_gt (by simp)
   rw [this];simp [Lib.compareInt]
 ·cases a with
  | nil=>decide
  | cons c a =>
   have:Lib.compareInt (([]:List UInt8).length:Nat) ((c :: a).length:Nat)=-1:=cmp_lt (by simp)
   rw [this];simp [Lib.compareInt]
theorem pre_full (a b:List UInt8) (ha:a ≠ []) (hb:b ≠ []):preC a b=listC partC (splitD a) (splitD b):=by
 rw [preC_eq]
 have h1:a.isEmpty=false:=by simpa using ha
 have h2:b.isEmpty=false:=by simpa using hb
 rw [h1,h2,if_pos (cmp_eq _)]
def bareR:List UInt8->List UInt8
 | c :: d :: l=>if c=48 then bareR (d :: l) else c :: d :: l
 | l=>l
theorem bareR_eq:∀(l:List UInt8),l ≠ []->bareR l=if bareT l=[] then [48] else bareT l
 | [],h=>absurd rfl h
 | [c],_=>by
  unfold bareR bareT Lib.trimLeftB
  by_cases h:c=48
  ·subst h;simp
  ·have:(c == (48:UInt8))=false:=by simpa using h
   simp [List.dropWhile,this]
 | c :: d :: l,_=>by
  unfold bareR
  by_cases h:c=48
  ·subst h
   rw [if_pos rfl,bareR_eq (d :: l) (by simp)]
   have e:bareT (48 :: d :: l)=bareT (d :: l):=by unfold bareT Lib.trimLeftB;simp [List.dropWhile]
   rw [e]
  ·rw [if_neg h]
   have h':(c == (48:UInt8))=false:=by simpa using h
   have e:bareT (c :: d :: l)=c :: d :: l:=by unfold bareT Lib.trimLeftB;simp [List.dropWhile,h']
   rw [e];simp
theorem bareT_head (l:List UInt8) (c:UInt8) (r:List UInt8) (h:bareT l=c :: r):c ≠ 48:=by
 unfold bareT Lib.trimLeftB at h
 intro hc
 subst hc
 have:=List.head?_dropWhile_not (p:=fun x:UInt8=>x == 48) (l:=l)
 rw [h] at this
 simp at this
theorem bareT_digits (l:List UInt8) (h:l.all isD=true):(bareT l).all isD=true:=by
 rw [List.all_eq_true] at h ⊢
 intro c hc
 exact h c ((List.dropWhile_sublist _).mem hc)
theorem isD_ge {c:UInt8} (h:isD c=true):48<=c.toNat/\c.toNat<=57:=by
 unfold isD at h;simpa using h
theorem partC_nnR {a b:List UInt8} (ha:numT a=true) (hb:numT b=true):partC a b=if ((bareR a).length:Int)=(bareR b).length then Lib.compareBytes (bareR a) (bareR b) else Lib.compareInt (bareR a).length (bareR b).length:=by
 have ha1:a ≠ []/\a.all isD=true:=by simpa [numT] using ha
 have hb1:b ≠ []/\b.all isD=true:=by simpa [numT] using hb
 rw [partC_nn ha hb,bareR_eq a ha1.1,bareR_eq b hb1.1]
 cases h1:bareT a with
 | nil =>
  cases h2:bareT b with
  | nil=>decide
  | cons d r =>
   have hd:=bareT_head b d r h2
   have hd2:=isD_ge (List.all_eq_true.1 (bareT_digits b hb1.2) d (by rw [h2];simp))
   have hlt:(48:UInt8) < d:=by
    rw [UInt8.lt_iff_toNat_lt]
    have:d.toNat ≠ 48:=fun hh=>hd (UInt8.toNat_inj.1 hh)
    have e:(48:UInt8).toNat=48:=rfl
    omega
   have n0:(if ([]:List UInt8)=[] then [48] else ([]:List UInt8))=[48]:=if_pos rfl
   have n1:(if d :: r=[] then [48] else d :: r)=d :: r:=if_neg (by simp)
   rw [n0,n1]
   have l0:(([]:List UInt8).length:Int)=0:=rfl
   have l1:(([48]:List UInt8).length:Int)=1:=rfl
   have hl:((d :: r).length:Int)=r.length+1:=by simp
   rw [l0,l1,hl,if_neg (by omega),cmp_lt (show (0:Int) < r.length+1 by omega)]
   by_cases hr:(1:Int)=r.length+1
   ·rw [if_pos hr];simp [Lib.compareBytes,hlt]
   ·rw [if_neg hr,cmp_lt]
    omega
 | cons d r =>
  cases h2:bareT b with
  | nil =>
   have hd:=bareT_head a d r h1
   have hd2:=isD_ge (List.all_eq_true.1 (bareT_digits a ha1.2) d (by rw [h1];simp))
   have hlt:(48:UInt8) < d:=by
    rw [UInt8.lt_iff_toNat_lt]
    have:d.toNat ≠ 48:=fun hh=>hd (UInt8.toNat_inj.1 hh)
    have e:(48:UInt8).toNat=48:=rfl
    omega
   have hge:¬ d < (48:UInt8):=by
    rw [UInt8.lt_iff_toNat_lt]
    have e:(48:UInt8).toNat=48:=rfl
    omega
   have n0:(if ([]:List UInt8)=[] then [48] else ([]:List UInt8))=[48]:=if_pos rfl
   have n1:(if d :: r=[] then [48] else d :: r)=d :: r:=if_neg (by simp)
   rw [n0,n1]
   have l0:(([]:List UInt8).length:Int)=0:=rfl
   have l1:(([48]:List UInt8).length:Int)=1:=rfl
   have hl:((d :: r).length:Int)=r.length+1:=by simp
   rw [l0,l1,hl,if_neg (by omega),cmp_gt (show (0:Int) < r.length+1 by omega)]
   by_cases hr:(r.length:Int)+1=1
   ·rw [if_pos hr];simp [Lib.compareBytes,hlt,hge]
   ·rw [if_neg hr,cmp_gt]
    omega
  | cons e s=>simp
theorem listC_end (L M:List (List UInt8)) (i:Nat) (h1:¬ (i < L.length/\i < M.length)) (h2:i<=L.length) (h3:i<=M.length) (h:listC partC L M=listC partC (L.drop i) (M.drop i)) :
  listC partC L M=Lib.compareInt L.length M.length:=by
 rw [h]
 by_cases hL:i=L.length
 ·by_cases hM:i=M.length
  ·rw [List.drop_of_length_le (by omega),List.drop_of_length_le (by omega)]
   rw [show L.length=M.length by omega,cmp_eq];rfl
  ·rw [List.drop_of_length_le (show L.length<=i by omega),List.drop_eq_getElem_cons (show i < M.length by omega)]
   rw [cmp_lt (by omega)];rfl
 ·have hM:i=M.length:=by omega
  rw [List.drop_of_length_le (show M.length<=i by omega),List.drop_eq_getElem_cons (show i < L.length by omega)]
  rw [cmp_gt (by omega)];rfl
def runN (p:UInt8->Bool) (l:List UInt8) (i:Nat):Nat:=((l.drop i).takeWhile p).length
def subT (l:List UInt8) (i k:Nat):List UInt8:=(l.drop i).take k
theorem tw_len (p:UInt8->Bool):∀(l:List UInt8),(l.takeWhile p).length<=l.length
 | []=>by simp
 | c :: l=>by
  have ih:=tw_len p l
  rw [List.takeWhile_cons];split <;> simp;omega
theorem tw_at (p:UInt8->Bool):∀(l:List UInt8) (k:Nat),k < (l.takeWhile p).length->∃h:k < l.length,p l[k]=true
 | [],k,h=>by simp at h
 | c :: l,k,h=>by
  rw [List.takeWhile_cons] at h
  split at h
  ·cases k with
   | zero=>exact ⟨by simp,by simpa⟩
   | succ k =>
    obtain ⟨h1,h2⟩:=tw_at p l k (by simpa using h)
    exact ⟨by simp;omega,by simpa using h2⟩
  ·simp at h
theorem tw_stop (p:UInt8->Bool):∀(l:List UInt8) (h:(l.takeWhile p).length < l.length),p l[(l.takeWhile p).length]=false
 | [],h=>by simp at h
 | c :: l,h=>by
  cases hc:p c with
  | true =>
   have e:(c :: l).takeWhile p=c :: l.takeWhile p:=by rw [List.takeWhile_cons,if_pos hc]
   have h':(l.takeWhile p).length < l.length:=by rw [e] at h;simpa using h
   have:=tw_stop p l h'
   simp only [e,List.length_cons,List.getElem_cons_succ]
   exact this
  | false =>
   have e:(c :: l).takeWhile p=[]:=by rw [List.takeWhile_cons,if_neg (by simp [hc])]
   simp only [e,List.length_nil,List.getElem_cons_zero]
   exact hc
theorem tw_take (p:UInt8->Bool):∀(l:List UInt8),l.take (l.takeWhile p).length=l.takeWhile p
 | []=>by simp
 | c :: l=>by
  have ih:=tw_take p l
  rw [List.takeWhile_cons];split <;> simp [ih]
theorem runN_le (p:UInt8->Bool) (l:List UInt8) (i:Nat) (h:i<=l.length):i+runN p l i<=l.length:=by
 have:=tw_len p (l.drop i)
 unfold runN;simp at this ⊢;omega
theorem runN_at (p:UInt8->Bool) (l:List UInt8) (i k:Nat) (h:k < runN p l i):∃h:i+k < l.length,p l[i+k]=true:=by
 obtain ⟨h1,h2⟩:=tw_at p (l.drop i) k h
 simp only [List.length_drop] at h1
 exact ⟨by omega,by simpa using h2⟩
theorem runN_stop (p:UInt8->Bool) (l:List UInt8) (i:Nat) (h:i+runN p l i < l.length):p l[i+runN p l i]=false:=by
 have h':((l.drop i).takeWhile p).length < (l.drop i).length:=by unfold runN at h;simp at h ⊢;omega
 have:=tw_stop p (l.drop i) h'
 simpa [runN] using this
theorem subT_run (p:UInt8->Bool) (l:List UInt8) (i:Nat):subT l i (runN p l i)=(l.drop i).takeWhile p:=tw_take p (l.drop i)
theorem runN_eq (p:UInt8->Bool) (l:List UInt8) (i k:Nat) (h1:k<=runN p l i) (h2:∀h:i+k < l.length,p l[i+k]=false):runN p l i=k:=by
 rcases Nat.lt_or_ge k (runN p l i) with h | h
 ·obtain ⟨h3,h4⟩:=runN_at p l i k h
  rw [h2 h3] at h4;exact absurd h4 (by simp)
 ·omega
def valF (n:Int) (c:UInt8):Int:=10 * n+((c.toNat:Int) - 48)
def valN (l:List UInt8):Int:=l.foldl valF 0
theorem valN_snoc (l:List UInt8) (c:UInt8):valN (l++[c])=valF (valN l) c:=by unfold valN;rw [List.foldl_append];rfl
theorem fold_ge:∀(l:List UInt8) (n:Int),0<=n->l.all isD=true->n<=l.foldl valF n
 | [],n,_,_=>Int.le_refl n
 | c :: l,n,h,hd=>by
  simp only [List.all_cons,Bool.and_eq_true] at hd
  have h1:=isD_ge hd.1
  have h2:n<=valF n c:=by unfold valF;omega
  exact Int.le_trans h2 (fold_ge l _ (by omega) hd.2)
theorem val_nn (l:List UInt8) (hd:l.all isD=true):0<=valN l:=fold_ge l 0 (by omega) hd
theorem val_prefix (a b:List UInt8) (hd:(a++b).all isD=true):valN a<=valN (a++b):=by
 rw [List.all_append,Bool.and_eq_true] at hd
 unfold valN;rw [List.foldl_append]
 exact fold_ge b _ (val_nn a hd.1) hd.2
def rdNum (l:List UInt8) (i:Nat):Int × Int × Nat :=
 if runN isD l i=0 then (2,0,i)
 else if 1 < runN isD l i/\l[i]?=some 48 then (2,0,i)
 else if valN (subT l i (runN isD l i)) > 999999999 then (3,0,i)
 else (0,valN (subT l i (runN isD l i)),i+runN isD l i)
def badZ (strict:Bool) (p:List UInt8):Bool:=strict && (p.all isD && (decide (1 < p.length) && decide (p[0]?=some 48)))
def rdParts (strict:Bool) (l:List UInt8) (i:Nat):Int × Nat :=
 if runN isP l i=0 then (2,i)
 else if badZ strict (subT l i (runN isP l i))=true then (2,i)
 else if h:l[i+runN isP l i]?=some 46 then rdParts strict l (i+runN isP l i+1)
 else (0,i+runN isP l i)
termination_by l.length - i
decreasing_by
 have:=(List.getElem?_eq_some_iff.1 h).1
 omega
theorem rdParts_eq (strict:Bool) (l:List UInt8) (i:Nat):rdParts strict l i =
 if runN isP l i=0 then (2,i)
 else if badZ strict (subT l i (runN isP l i))=true then (2,i)
 else if l[i+runN isP l i]?=some 46 then rdParts strict l (i+runN isP l i+1)
 else (0,i+runN isP l i):=by
 rw [rdParts]
 split
 ·rfl
 ·split
  ·rfl
  ·split <;> rfl
def okPart (strict:Bool) (p:List UInt8):Bool:=!p.isEmpty && p.all isP && !badZ strict p
def okParts (strict:Bool) (l:List UInt8):Bool:=l.isEmpty || (splitD l).all (okPart strict)
end Go.Proofs.YtonfldbigenfhaaGreatDoor
