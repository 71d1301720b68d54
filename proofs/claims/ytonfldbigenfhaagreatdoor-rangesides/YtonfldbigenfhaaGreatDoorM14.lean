import Derived.Test.YtonfldbigenfhaaGreatDoorM13
import Derived.Test.YtonfldbigenfhaaGreatDoorM04
import Derived.Deep.RegionHeld3
namespace Go.Proofs.YtonfldbigenfhaaGreatDoor
set_option linter.unusedVariables false
structure Pa where
 n:Nat
 a:Int
 b:Int
 c:Int
 pre:List UInt8
structure Te where
 sign:Int
 p:Pa
structure PaOk (p:Pa):Prop where
 n3:p.n<=3
 a0:0<=p.a/\p.a<=999999999
 b0:0<=p.b/\p.b<=999999999
 c0:0<=p.c/\p.c<=999999999
 z1:p.n < 1->p.a=0
 z2:p.n < 2->p.b=0
 z3:p.n < 3->p.c=0/\p.pre=[]
 ok:okParts true p.pre=true
def lowV:V:=⟨0,0,0,[48]⟩
def nilV:V:=⟨0,0,0,[]⟩
def paV (p:Pa):V:=⟨p.a,p.b,p.c,p.pre⟩
def firstV (p:Pa):V:=⟨p.a,p.b,p.c,if p.n < 3 then [48] else p.pre⟩
def namedB (p:Pa) (v:V):Bool:=if p.n=3 then decide (verC (paV p) v=0) else (decide (p.n < 1) || decide (v.major=p.a)) && (decide (p.n < 2) || decide (v.minor=p.b))
def placeB (p:Pa) (v:V):Int:=if (namedB p v || decide (p.n=0))=true then 0 else verC v (paV p)
def fromB (p:Pa) (v:V):Bool:=decide (p.n=0) || decide (verC (firstV p) v<=0)
def leadsB (p:Pa) (v:V):Bool :=
 if p.n=0 then true else if v.major ≠ p.a then false else if 0 < p.a\/p.n=1 then true else if v.minor ≠ p.b then false else (decide (0 < p.b) || decide (p.n=2)) || decide (v.patch=p.c)
def admB (t:Te) (v:V):Bool :=
 if t.sign=0 then namedB t.p v else if t.sign=1 then decide (0<=placeB t.p v) else if t.sign=2 then decide (placeB t.p v<=0) else if t.sign=3 then decide (0 < placeB t.p v)
 else if t.sign=4 then decide (placeB t.p v < 0) else if t.sign=5 then fromB t.p v && leadsB t.p v
 else if t.sign=6 then (fromB t.p v && (decide (t.p.n < 1) || decide (v.major=t.p.a))) && (decide (t.p.n < 2) || decide (v.minor=t.p.b)) else fromB t.p v
def behindV (v:V) (k:Nat):V:=if k=1 then ⟨v.major+1,0,0,[48]⟩ else if k=2 then ⟨v.major,v.minor+1,0,[48]⟩ else ⟨v.major,v.minor,v.patch+1,[48]⟩
def alikeG (p:Pa) (k:Nat):Sg:=if k=0 then ⟨firstV p,nilV,true⟩ else ⟨firstV p,behindV (firstV p) k,false⟩
def namedG (p:Pa):Sg:=if p.n=3 then ⟨firstV p,nextV (firstV p),false⟩ else alikeG p p.n
def leadN (p:Pa):Nat:=if p.a ≠ 0 then 1 else if p.b ≠ 0 then 2 else if p.c ≠ 0 then 3 else p.n
def signG (s:Int) (p:Pa):Sg :=
 if s=0 then namedG p else if s=1 then ⟨firstV p,nilV,true⟩ else if s=2 then ⟨lowV,(namedG p).to_,(namedG p).op⟩
 else if s=3 then (if (namedG p).op=true then ⟨lowV,lowV,false⟩ else ⟨(namedG p).to_,nilV,true⟩) else if s=4 then ⟨lowV,firstV p,false⟩
 else if s=5 then alikeG p (leadN p) else alikeG p (min p.n 2)
def betweenG (p q:Pa):Sg:=⟨firstV p,(namedG q).to_,(namedG q).op⟩
theorem lt_iff (x y:V):verC x y < 0 ↔ x.major < y.major\/(x.major=y.major/\(x.minor < y.minor\/(x.minor=y.minor/\(x.patch < y.patch\/(x.patch=y.patch/\preC x.pre y.pre < 0))))):=by
 rw [verC_eq]
 have c1:∀a b:Int,Lib.compareInt a b=0 ↔ a=b:=fun a b=>cmp_zero
 have c2:∀a b:Int,Lib.compareInt a b < 0 ↔ a < b:=fun a b=>by
  unfold Lib.compareInt
  repeat' split
  all_goals omega
 split
 ·rename_i h;rw [c1] at h
  split
  ·rename_i h2;rw [c1] at h2
   split
   ·rename_i h3;rw [c1] at h3;omega
   ·rename_i h3;rw [c1] at h3;rw [c2];omega
  ·rename_i h2;rw [c1] at h2;rw [c2];omega
 ·rename_i h;rw [c1] at h;rw [c2];omega
theorem le_iff (x y:V):verC x y<=0 ↔ ¬ verC y x < 0:=by have:=v_anti x y;omega
theorem pre_low (l:List UInt8):¬ preC l [48] < 0:=by
 have h1:=pre_zero l
 have h2:=good_pre.anti [48] l
 omega
structure VOk (v:V):Prop where
 n1:0<=v.major
 n2:0<=v.minor
 n3:0<=v.patch
 ok:okParts true v.pre=true
theorem next_iff (f v:V) (h:f.patch < 4611686018427387904):verC v (nextV f) < 0 ↔ verC v f<=0:=by
 constructor
 ·intro hn
  by_cases hc:verC v f<=0
  ·exact hc
  ·exact (none_between f v h (by have:=v_anti v f;omega) hn).elim
 ·intro hc
  exact v_le_lt hc (by have:=next_behind f h;omega)
theorem low_lt (v:V) (a b c:Int):verC v ⟨a,b,c,[48]⟩ < 0 ↔ v.major < a\/(v.major=a/\(v.minor < b\/(v.minor=b/\v.patch < c))):=by
 rw [lt_iff]
 have:=pre_low v.pre
 simp only []
 omega
theorem has_iff (s:Sg) (v:V):hasG s v=true ↔ ¬ verC v s.fr < 0/\(s.op=true\/verC v s.to_ < 0):=by
 unfold hasG
 rw [Bool.and_eq_true,Bool.or_eq_true,decide_eq_true_eq,decide_eq_true_eq,le_iff]
theorem low_all (v:V) (hv:VOk v):¬ verC v lowV < 0:=by
 unfold lowV
 rw [low_lt]
 have:=hv.n1;have:=hv.n2;have:=hv.n3
 omega
theorem named_ok (p:Pa) (hp:PaOk p) (v:V) (hv:VOk v):hasG (namedG p) v=namedB p v:=by
 obtain ⟨n,a,b,c,pre⟩:=p
 obtain ⟨n3,a0,b0,c0,z1,z2,z3,ok⟩:=hp
 simp only at n3 a0 b0 c0 z1 z2 z3 ok
 have v1:=hv.n1
 have v2:=hv.n2
 have v3:=hv.n3
 have hn:n=0\/n=1\/n=2\/n=3:=by omega
 rw [Bool.eq_iff_iff,has_iff]
 rcases hn with rfl | rfl | rfl | rfl
 ·simp [namedG,alikeG,namedB,firstV,low_lt,z1,z2,z3]
  omega
 ·simp [namedG,alikeG,namedB,firstV,behindV,low_lt,z2,z3]
  omega
 ·simp [namedG,alikeG,namedB,firstV,behindV,low_lt,z3]
  omega
 ·have hG:namedG ⟨3,a,b,c,pre⟩=⟨⟨a,b,c,pre⟩,nextV ⟨a,b,c,pre⟩,false⟩:=rfl
  have hB:namedB ⟨3,a,b,c,pre⟩ v=decide (verC (⟨a,b,c,pre⟩:V) v=0):=rfl
  rw [hG,hB,decide_eq_true_eq]
  simp only []
  rw [next_iff _ _ (by simp only [];omega)]
  have:=v_anti (⟨a,b,c,pre⟩:V) v
  constructor
  ·rintro ⟨h1,h2⟩
   rcases h2 with h2 | h2
   ·cases h2
   ·omega
  ·intro h
   exact ⟨by omega,Or.inr (by omega)⟩
theorem place_ok (p:Pa) (hp:PaOk p) (v:V) (hv:VOk v):(placeB p v < 0 ↔ verC v (firstV p) < 0)/\(0 < placeB p v ↔ (namedG p).op=false/\¬ verC v (namedG p).to_ < 0):=by
 obtain ⟨n,a,b,c,pre⟩:=p
 obtain ⟨n3,a0,b0,c0,z1,z2,z3,ok⟩:=hp
 simp only at n3 a0 b0 c0 z1 z2 z3 ok
 have v1:=hv.n1
 have v2:=hv.n2
 have v3:=hv.n3
 have hn:n=0\/n=1\/n=2\/n=3:=by omega
 rcases hn with rfl | rfl | rfl | rfl
 ·simp [namedG,alikeG,placeB,firstV,low_lt,z1,z2,z3]
  omega
 ·have hc:=(z3 (by omega)).1
  have hp:=(z3 (by omega)).2
  have hb:=z2 (by omega)
  subst hc hp hb
  have l1:=lt_iff v ⟨a,0,0,[]⟩
  have l2:=lt_iff ⟨a,0,0,[]⟩ v
  have l3:=v_anti v ⟨a,0,0,[]⟩
  simp only at l1 l2
  have k1:=low_lt v a 0 0
  have k2:=low_lt v (a+1) 0 0
  have hG:namedG ⟨1,a,0,0,[]⟩=⟨⟨a,0,0,[48]⟩,⟨a+1,0,0,[48]⟩,false⟩:=rfl
  have hF:firstV ⟨1,a,0,0,[]⟩=⟨a,0,0,[48]⟩:=rfl
  have hP:placeB ⟨1,a,0,0,[]⟩ v=if v.major=a then 0 else verC v ⟨a,0,0,[]⟩:=by
   unfold placeB namedB paV
   by_cases hm:v.major=a <;> simp [hm]
  by_cases hm:v.major=a
  ·rw [if_pos hm] at hP
   simp only [hG,hF,hP,eq_self,true_and];omega
  ·rw [if_neg hm] at hP
   simp only [hG,hF,hP,eq_self,true_and];omega
 ·have hc:=(z3 (by omega)).1
  have hp:=(z3 (by omega)).2
  subst hc hp
  have l1:=lt_iff v ⟨a,b,0,[]⟩
  have l2:=lt_iff ⟨a,b,0,[]⟩ v
  have l3:=v_anti v ⟨a,b,0,[]⟩
  simp only at l1 l2
  have k1:=low_lt v a b 0
  have k2:=low_lt v a (b+1) 0
  have hG:namedG ⟨2,a,b,0,[]⟩=⟨⟨a,b,0,[48]⟩,⟨a,b+1,0,[48]⟩,false⟩:=rfl
  have hF:firstV ⟨2,a,b,0,[]⟩=⟨a,b,0,[48]⟩:=rfl
  have hP:placeB ⟨2,a,b,0,[]⟩ v=if v.major=a/\v.minor=b then 0 else verC v ⟨a,b,0,[]⟩:=by
   unfold placeB namedB paV
   by_cases hm:v.major=a <;> by_cases hm2:v.minor=b <;> simp [hm,hm2]
  by_cases hm:v.major=a/\v.minor=b
  ·rw [if_pos hm] at hP
   simp only [hG,hF,hP,eq_self,true_and];omega
  ·rw [if_neg hm] at hP
   simp only [hG,hF,hP,eq_self,true_and];omega
 ·have l3:=v_anti (⟨a,b,c,pre⟩:V) v
  have hG:namedG ⟨3,a,b,c,pre⟩=⟨⟨a,b,c,pre⟩,nextV ⟨a,b,c,pre⟩,false⟩:=rfl
  have hF:firstV ⟨3,a,b,c,pre⟩=⟨a,b,c,pre⟩:=rfl
  have hP:placeB ⟨3,a,b,c,pre⟩ v=if verC (⟨a,b,c,pre⟩:V) v=0 then 0 else verC v ⟨a,b,c,pre⟩:=by
   unfold placeB namedB paV
   by_cases hm:verC (⟨a,b,c,pre⟩:V) v=0 <;> simp [hm]
  have hx:=next_iff ⟨a,b,c,pre⟩ v (by simp only [];omega)
  by_cases h0:verC (⟨a,b,c,pre⟩:V) v=0
  ·rw [if_pos h0] at hP
   simp only [hG,hF,hP,hx,eq_self,true_and];omega
  ·rw [if_neg h0] at hP
   simp only [hG,hF,hP,hx,eq_self,true_and];omega
theorem alike_ok (p:Pa) (hp:PaOk p) (k:Nat) (hk:k<=3) (v:V) (hv:VOk v) (h1:k=1->True) (hz:(k < 2->p.b=0\/True)) :
  hasG (alikeG p k) v=true ↔ ¬ verC v (firstV p) < 0/\(k=0\/(k=1/\v.major < p.a+1)\/(k=2/\(v.major < p.a\/(v.major=p.a/\v.minor < p.b+1)))\/(k=3/\(v.major < p.a\/(v.major=p.a/\(v.minor < p.b\/(v.minor=p.b/\v.patch < p.c+1)))))):=by
 rw [has_iff]
 have v1:=hv.n1
 have v2:=hv.n2
 have v3:=hv.n3
 have hn:k=0\/k=1\/k=2\/k=3:=by omega
 rcases hn with rfl | rfl | rfl | rfl
 ·simp [alikeG]
 ·have e:alikeG p 1=⟨firstV p,⟨p.a+1,0,0,[48]⟩,false⟩:=rfl
  have k1:=low_lt v (p.a+1) 0 0
  rw [e];simp only []
  simp
  omega
 ·have e:alikeG p 2=⟨firstV p,⟨p.a,p.b+1,0,[48]⟩,false⟩:=rfl
  have k1:=low_lt v p.a (p.b+1) 0
  rw [e];simp only []
  simp
  omega
 ·have e:alikeG p 3=⟨firstV p,⟨p.a,p.b,p.c+1,[48]⟩,false⟩:=rfl
  have k1:=low_lt v p.a p.b (p.c+1)
  rw [e];simp only []
  simp
  omega
theorem first_nums (p:Pa) (v:V) (h:¬ verC v (firstV p) < 0):p.a < v.major\/(p.a=v.major/\(p.b < v.minor\/(p.b=v.minor/\p.c<=v.patch))):=by
 have l1:=lt_iff v (firstV p)
 have e1:(firstV p).major=p.a:=rfl
 have e2:(firstV p).minor=p.b:=rfl
 have e3:(firstV p).patch=p.c:=rfl
 rw [e1,e2,e3] at l1
 omega
theorem from_ok (p:Pa) (hp:PaOk p) (v:V) (hv:VOk v):fromB p v=true ↔ ¬ verC v (firstV p) < 0:=by
 unfold fromB
 rw [Bool.or_eq_true,decide_eq_true_eq,decide_eq_true_eq,le_iff]
 constructor
 ·rintro (h | h)
  ·have e:firstV p=⟨0,0,0,[48]⟩:=by
    unfold firstV
    rw [if_pos (by omega),hp.z1 (by omega),hp.z2 (by omega),(hp.z3 (by omega)).1]
   rw [e]
   exact low_all v hv
  ·exact h
 ·exact Or.inr
theorem sign_ok (s:Int) (hs:0<=s/\s<=6) (p:Pa) (hp:PaOk p) (v:V) (hv:VOk v):hasG (signG s p) v=admB ⟨s,p⟩ v:=by
 have hl:=low_all v hv
 have hpl:=place_ok p hp v hv
 have hss:s=0\/s=1\/s=2\/s=3\/s=4\/s=5\/s=6:=by omega
 rcases hss with rfl | rfl | rfl | rfl | rfl | rfl | rfl
 ·exact named_ok p hp v hv
 ·rw [Bool.eq_iff_iff,has_iff]
  show (¬ verC v (firstV p) < 0/\(true=true\/_)) ↔ decide (0<=placeB p v)=true
  rw [decide_eq_true_eq]
  simp only [true_or,and_true]
  omega
 ·rw [Bool.eq_iff_iff,has_iff]
  show (¬ verC v lowV < 0/\((namedG p).op=true\/verC v (namedG p).to_ < 0)) ↔ decide (placeB p v<=0)=true
  rw [decide_eq_true_eq]
  cases hop:(namedG p).op with
  | true =>
   rw [hop] at hpl
   simp only [Bool.true_eq_false,false_and,iff_false] at hpl
   simp only [true_or,and_true]
   exact ⟨fun _=>by omega,fun _=>hl⟩
  | false =>
   rw [hop] at hpl
   simp only [eq_self,true_and] at hpl
   simp only [Bool.false_eq_true,false_or]
   omega
 ·show hasG (if (namedG p).op=true then ⟨lowV,lowV,false⟩ else ⟨(namedG p).to_,nilV,true⟩) v=decide (0 < placeB p v)
  rw [Bool.eq_iff_iff,decide_eq_true_eq]
  cases hop:(namedG p).op with
  | true =>
   rw [hop] at hpl
   simp only [Bool.true_eq_false,false_and,iff_false] at hpl
   rw [if_pos rfl,has_iff]
   simp only [Bool.false_eq_true,false_or]
   omega
  | false =>
   rw [hop] at hpl
   simp only [eq_self,true_and] at hpl
   rw [if_neg (by decide),has_iff]
   simp only [true_or,and_true]
   omega
 ·rw [Bool.eq_iff_iff,has_iff]
  show (¬ verC v lowV < 0/\(false=true\/verC v (firstV p) < 0)) ↔ decide (placeB p v < 0)=true
  rw [decide_eq_true_eq]
  simp only [Bool.false_eq_true,false_or]
  omega
 ·show hasG (alikeG p (leadN p)) v=(fromB p v && leadsB p v)
  have n3:=hp.n3
  have a0:=hp.a0
  have b0:=hp.b0
  have c0:=hp.c0
  have z1:=hp.z1
  have z2:=hp.z2
  have z3:=hp.z3
  rw [Bool.eq_iff_iff,Bool.and_eq_true,from_ok p hp v hv,alike_ok p hp (leadN p) (by unfold leadN;split;omega;split;omega;split;omega;exact n3) v hv (fun _=>trivial) (fun _=>Or.inr trivial)]
  refine and_congr_right fun hf=>?_
  have hn:=first_nums p v hf
  unfold leadN leadsB
  by_cases h0:p.n=0
  ·have e1:=z1 (by omega)
   have e2:=z2 (by omega)
   have e3:=(z3 (by omega)).1
   simp [h0,e1,e2,e3]
  ·rw [if_neg h0]
   by_cases ha:p.a=0
   ·by_cases hb:p.b=0
    ·by_cases hc:p.c=0
     ·simp only [ha,hb,hc,ne_eq,not_true_eq_false,if_false]
      by_cases hm:v.major=0
      ·by_cases h1:p.n=1
       ·simp [hm,h1] <;> omega
       ·by_cases hm2:v.minor=0
        ·by_cases h2:p.n=2
         ·simp [hm,hm2,h2] <;> omega
         ·simp [hm,hm2,h1,h2] <;> omega
        ·simp [hm,hm2,h1] <;> omega
      ·simp [hm] <;> omega
     ·simp only [ha,hb,hc,ne_eq,not_true_eq_false,if_false,not_false_eq_true,if_true]
      by_cases hm:v.major=0
      ·by_cases hm2:v.minor=0
       ·have h3:p.n=3:=by omega
        simp [hm,hm2,h3] <;> omega
       ·have h3:p.n=3:=by omega
        simp [hm,hm2,h3] <;> omega
      ·simp [hm] <;> omega
    ·simp only [ha,hb,ne_eq,not_true_eq_false,if_false,not_false_eq_true,if_true]
     have h3:¬ p.n=1:=by omega
     by_cases hm:v.major=0
     ·by_cases hm2:v.minor=p.b
      ·simp [hm,hm2,h3] <;> omega
      ·simp [hm,hm2,h3] <;> omega
     ·simp [hm] <;> omega
   ·simp only [ha,ne_eq,not_false_eq_true,if_true]
    by_cases hm:v.major=p.a
    ·simp [hm] <;> omega
    ·simp [hm] <;> omega
 ·show hasG (alikeG p (min p.n 2)) v=((fromB p v && (decide (p.n < 1) || decide (v.major=p.a))) && (decide (p.n < 2) || decide (v.minor=p.b)))
  have n3:=hp.n3
  have z1:=hp.z1
  have z2:=hp.z2
  rw [Bool.eq_iff_iff,Bool.and_eq_true,Bool.and_eq_true,and_assoc,from_ok p hp v hv,alike_ok p hp (min p.n 2) (by omega) v hv (fun _=>trivial) (fun _=>Or.inr trivial)]
  refine and_congr_right fun hf=>?_
  have hn:=first_nums p v hf
  simp only [Bool.or_eq_true,decide_eq_true_eq]
  omega
theorem between_ok (p q:Pa) (hp:PaOk p) (hq:PaOk q) (v:V) (hv:VOk v):hasG (betweenG p q) v=(admB ⟨7,p⟩ v && admB ⟨2,q⟩ v):=by
 have h2:=sign_ok 2 (by decide) q hq v hv
 rw [<-h2]
 show _=(fromB p v && _)
 rw [Bool.eq_iff_iff,Bool.and_eq_true,from_ok p hp v hv,has_iff,has_iff]
 show (¬ verC v (firstV p) < 0/\_) ↔ (¬ verC v (firstV p) < 0/\(¬ verC v lowV < 0/\((namedG q).op=true\/verC v (namedG q).to_ < 0)))
 have hl:=low_all v hv
 constructor
 ·rintro ⟨h1,h2⟩
  exact ⟨h1,hl,h2⟩
 ·rintro ⟨h1,_,h2⟩
  exact ⟨h1,h2⟩
open Go.RowKit
structure G2 (b v:Nat) (w w':World):Prop where
 os:w'.os=w.os
 tape:w'.tape=w.tape
 output:w'.output=w.output
 size:w.heap.size<=w'.heap.size
 block:∀k,k < w.heap.size->k ≠ b->k ≠ v->w'.heap[k]?=w.heap[k]?
theorem G2.refl (b v:Nat) (w:World):G2 b v w w:=⟨rfl,rfl,rfl,Nat.le_refl _,fun _ _ _ _=>rfl⟩
theorem G2.step {b v:Nat} {w w1 w2:World} (h:G2 b v w w1) (hg:w1.grownBy w2 (some b)):G2 b v w w2 :=
 ⟨hg.os.trans h.os,hg.tape.trans h.tape,hg.output.trans h.output,Nat.le_trans h.size hg.size,fun k hk h1 h2=>(hg.block k (Nat.lt_of_lt_of_le hk h.size) (by simpa using h1)).trans (h.block k hk h1 h2)⟩
theorem G2.drew {b v:Nat} {w w1:World} (h:G2 b v w w1) (n:Nat):G2 b v w (w1.drewN n):=⟨h.os,h.tape,h.output,h.size,h.block⟩
theorem G2.set {b v:Nat} {w w1:World} (h:G2 b v w w1) (o:Nat) (x:Value):G2 b v w (w1.setCell ⟨v,o,none⟩ x) :=
 ⟨h.os,h.tape,h.output,by simpa [World.setCell] using h.size,fun k hk h1 h2=>by rw [<-h.block k hk h1 h2];exact heap_setCell_other w1 _ k x (fun e=>h2 e)⟩
def VB (v:Nat) (x1 x2 x3:Int) (w:World):Prop:=w.heap[v]?=some (.cells #[.int .i64 x1,.int .i64 x2,.int .i64 x3,.string ⟨#[]⟩,.string ⟨#[]⟩] 35 (0,0))
theorem VB.cell {v:Nat} {x1 x2 x3:Int} {w:World} (h:VB v x1 x2 x3 w):w.cell? ⟨v,0,none⟩=some (.int .i64 x1)/\w.cell? ⟨v,1,none⟩=some (.int .i64 x2)/\w.cell? ⟨v,2,none⟩=some (.int .i64 x3) :=
 ⟨by rw [Lib.cell_of_heap h];rfl,by rw [Lib.cell_of_heap h];rfl,by rw [Lib.cell_of_heap h];rfl⟩
theorem VB.f {v:Nat} {x1 x2 x3:Int} {w:World} (h:VB v x1 x2 x3 w) (o:Nat):w.frozen? ⟨v,o,none⟩=false:=Lib.frozen_of_heap h o
theorem VB.grow {b v:Nat} {x1 x2 x3:Int} {w w':World} (h:VB v x1 x2 x3 w) (hg:w.grownBy w' (some b)) (hn:v ≠ b):VB v x1 x2 x3 w':=by
 unfold VB at h ⊢
 rw [hg.block v ((Array.getElem?_eq_some_iff.1 h).1) (by simpa using hn)];exact h
theorem VB.drew {v:Nat} {x1 x2 x3:Int} {w:World} (h:VB v x1 x2 x3 w) (n:Nat):VB v x1 x2 x3 (w.drewN n):=h
theorem VB.set0 {v:Nat} {x1 x2 x3:Int} {w:World} (h:VB v x1 x2 x3 w) (y:Int):VB v y x2 x3 (w.setCell ⟨v,0,none⟩ (.int .i64 y)):=by
 unfold VB at h ⊢;simp [World.setCell,Array.getElem?_modify,h]
theorem VB.set1 {v:Nat} {x1 x2 x3:Int} {w:World} (h:VB v x1 x2 x3 w) (y:Int):VB v x1 y x3 (w.setCell ⟨v,1,none⟩ (.int .i64 y)):=by
 unfold VB at h ⊢;simp [World.setCell,Array.getElem?_modify,h]
theorem VB.set2 {v:Nat} {x1 x2 x3:Int} {w:World} (h:VB v x1 x2 x3 w) (y:Int):VB v x1 x2 y (w.setCell ⟨v,2,none⟩ (.int .i64 y)):=by
 unfold VB at h ⊢;simp [World.setCell,Array.getElem?_modify,h]
theorem RS.other {b v:Nat} {s:ByteArray} {i:Nat} {w:World} (h:RS b s i w) (hn:b ≠ v) (o:Nat) (x:Value):RS b s i (w.setCell ⟨v,o,none⟩ x):=by
 obtain ⟨t,h⟩:=h
 exact ⟨t,by rw [<-h];exact heap_setCell_other w _ b x hn⟩
def rest3 (l:List UInt8) (j:Nat) (x1 x2 x3:Int):Int × Nat × Int × Int × Int:=(0,j,x1,x2,x3)
def rest2 (l:List UInt8) (j:Nat) (x1 x2:Int):Int × Nat × Int × Int × Int :=
 if l[j]?=some 46 then (if (rdNum l (j+1)).1=0 then rest3 l (rdNum l (j+1)).2.2 x1 x2 (rdNum l (j+1)).2.1 else ((rdNum l (j+1)).1,(rdNum l (j+1)).2.2,0,0,0)) else (2,j,0,0,0)
def rest1 (l:List UInt8) (j:Nat) (x1:Int):Int × Nat × Int × Int × Int :=
 if l[j]?=some 46 then (if (rdNum l (j+1)).1=0 then rest2 l (rdNum l (j+1)).2.2 x1 (rdNum l (j+1)).2.1 else ((rdNum l (j+1)).1,(rdNum l (j+1)).2.2,0,0,0)) else (2,j,0,0,0)
theorem nums_rest (l:List UInt8):rdNums l=if (rdNum l 0).1=0 then rest1 l (rdNum l 0).2.2 (rdNum l 0).2.1 else ((rdNum l 0).1,(rdNum l 0).2.2,0,0,0):=rfl
theorem num_le (l:List UInt8) (i:Nat) (hi:i<=l.length):(rdNum l i).2.2<=l.length:=by
 have:=runN_le isD l i hi
 unfold rdNum
 repeat' split
 all_goals first | exact hi | (simp only;omega)
end Go.Proofs.YtonfldbigenfhaaGreatDoor
namespace Go.Proofs.YtonfldbigenfhaaGreatDoor
open Go.RowKit Go.Shelf
set_option linter.unusedVariables false
def partsR (st:Bool) (l:List UInt8) (i:Nat):List UInt8:=if (rdParts st l i).1=0 then subT l i ((rdParts st l i).2 - i) else []
set_option maxHeartbeats 1600000 in
theorem partsP (b:Nat) (s:ByteArray) (i:Nat) (w:World) (hi:i<=s.size) (h:RS b s i w) (hs:s.size<=281474976710656) :
  Calls Tryz.prog 160 #[.pointer (some ⟨b,0,none⟩),.int .i64 0] w fun e w'=>e=.returned (.tuple #[.string ⟨(partsR true s.data.toList i).toArray⟩,.int .i64 (rdParts true s.data.toList i).1])/\RS b s (rdParts true s.data.toList i).2 w'/\w.grownBy w' (some b):=by
 have hsl:s.data.toList.length=s.size:=by simp
 have CS:Hid (Calls Tryz.prog 96 #[.pointer (some ⟨b,0,none⟩),.int .i64 0] w fun e w'=>e=.returned (.int .i64 (rdParts true s.data.toList i).1)/\RS b s (rdParts true s.data.toList i).2 w'/\w.grownBy w' (some b)):=skipP b s i w hi h (by omega)
 have d1:=h.c1
 have hpt:=parts_take true s.data.toList _ i rfl (by rw [hsl];exact hi)
 obtain ⟨P,hP⟩:∃P,P=partsR true s.data.toList i:=⟨_,rfl⟩
 unfold partsR at hP
 have hP0:partsR true s.data.toList i=P:=hP.symm
 rw [hP0]
 obtain ⟨E,Q,hEQ⟩:∃E Q,rdParts true s.data.toList i=(E,Q):=⟨_,_,rfl⟩
 rw [hEQ] at CS hpt hP
 rw [hEQ]
 simp only at hpt hP
 have HP:Hid (P=if E=0 then subT s.data.toList i (Q - i) else []):=hP
 have HPT:Hid (E=0->i < Q/\Q<=s.size):=fun h=>by have:=hpt h;rw [hsl] at this;exact ⟨this.1,this.2.1⟩
 have HS:Hid (s.size<=281474976710656/\s.data.toList.length=s.size):=⟨hs,hsl⟩
 clear hP0 hEQ hpt hP hi h hs hsl
 cases hz:(E == 0) with
 | false =>
  have HZ:Hid (P=[]):=by show P=[];rw [HP.out,if_neg (by simpa using hz)]
  go_enter Tryz.func160,Tryz.ntmps160
  go_wp2_with (go_at_call 96;refine CS.out.mono ?_)
  rintro e w1 rfl hr1 hg1
  have HF:Hid (RS b s Q w1/\w.grownBy w1 (some b)):=⟨hr1,hg1⟩
  clear hr1 hg1
  go_wp2
  refine bodyPost_ret (results_tmp2 rfl _ _ _) rfl ⟨?_,HF.out.1,HF.out.2⟩
  rw [HZ.out];rfl
 | true =>
  have hE:E=0:=by simpa using hz
  have hq:=HPT.out hE
  obtain ⟨X,hX⟩:∃X:ByteArray,X=⟨P.toArray⟩:=⟨_,rfl⟩
  have hPe:P=subT s.data.toList i (Q - i):=by rw [HP.out,if_pos hE]
  have sl:∀wx,(Instr.slice 9 (.string s) (some (.int .i64 (i:Int))) (some (.int .i64 (Q:Int))) none).run Tryz.prog wx=.ok (.string X) wx:=fun wx=>by rw [hX,hPe];exact run_sub s i Q (by omega) hq.2 wx
  have CC:Hid (∀w,Calls Tryz.prog 105 #[.string X] w fun e w'=>e=.returned (.string X)/\w.grownBy w' none):=fun w=>clone_any X w (by
   rw [hX];show P.toArray.size<=_
   have:=sub_len s.data.toList i (Q - i) (by have:=HS.out.2;omega)
   rw [<-hPe] at this
   have h2:=HS.out.1
   simp;omega)
  have HX:Hid (X=⟨P.toArray⟩):=hX
  subst hE
  clear hX hPe hq hz HPT
  go_enter Tryz.func160,Tryz.ntmps160
  go_wp2_with (go_at_call 96;refine CS.out.mono ?_)
  rintro e w1 rfl hr1 hg1
  have HR1:Hid (RS b s Q w1):=hr1
  have HG1:Hid (w.grownBy w1 (some b)):=hg1
  have f0:=hr1.c0
  have f1:=hr1.c1
  clear hr1 hg1
  go_wp2
  go_region_held3 (fun w'=>w'.cell? ⟨b,0,none⟩=some (.string s)/\w'.cell? ⟨b,1,none⟩=some (.int .i64 (Q:Int))) ((first | go_keep | (refine ⟨?_,?_⟩ <;> (refine World.grownBy.cell (by assumption) ?_ (by simp);assumption)))) (first | (go_at_call 105;refine (CC.out _).mono ?_;rintro e w2 ⟨rfl,hg2⟩))
  have HF:Hid (RS b s Q w2/\w.grownBy w2 (some b)):=⟨HR1.out.grow (gb_undrew hg2),gb_trans HG1.out (gb_weak (gb_undrew hg2) _)⟩
  clear hg2
  go_wp2
  refine bodyPost_ret (results_tmp2 rfl _ _ _) rfl ⟨?_,HF.out.1,HF.out.2⟩
  rw [<-HX.out];rfl
set_option maxHeartbeats 1600000 in
theorem partsB (b:Nat) (s:ByteArray) (i:Nat) (w:World) (hi:i<=s.size) (h:RS b s i w) (hs:s.size<=281474976710656) :
  Calls Tryz.prog 160 #[.pointer (some ⟨b,0,none⟩),.int .i64 1] w fun e w'=>e=.returned (.tuple #[.string ⟨(partsR false s.data.toList i).toArray⟩,.int .i64 (rdParts false s.data.toList i).1])/\RS b s (rdParts false s.data.toList i).2 w'/\w.grownBy w' (some b):=by
 have hsl:s.data.toList.length=s.size:=by simp
 have CS:Hid (Calls Tryz.prog 96 #[.pointer (some ⟨b,0,none⟩),.int .i64 1] w fun e w'=>e=.returned (.int .i64 (rdParts false s.data.toList i).1)/\RS b s (rdParts false s.data.toList i).2 w'/\w.grownBy w' (some b)):=skipB b s i w hi h (by omega)
 have d1:=h.c1
 have hpt:=parts_take false s.data.toList _ i rfl (by rw [hsl];exact hi)
 obtain ⟨P,hP⟩:∃P,P=partsR false s.data.toList i:=⟨_,rfl⟩
 unfold partsR at hP
 have hP0:partsR false s.data.toList i=P:=hP.symm
 rw [hP0]
 obtain ⟨E,Q,hEQ⟩:∃E Q,rdParts false s.data.toList i=(E,Q):=⟨_,_,rfl⟩
 rw [hEQ] at CS hpt hP
 rw [hEQ]
 simp only at hpt hP
 have HP:Hid (P=if E=0 then subT s.data.toList i (Q - i) else []):=hP
 have HPT:Hid (E=0->i < Q/\Q<=s.size):=fun h=>by have:=hpt h;rw [hsl] at this;exact ⟨this.1,this.2.1⟩
 have HS:Hid (s.size<=281474976710656/\s.data.toList.length=s.size):=⟨hs,hsl⟩
 clear hP0 hEQ hpt hP hi h hs hsl
 cases hz:(E == 0) with
 | false =>
  have HZ:Hid (P=[]):=by show P=[];rw [HP.out,if_neg (by simpa using hz)]
  go_enter Tryz.func160,Tryz.ntmps160
  go_wp2_with (go_at_call 96;refine CS.out.mono ?_)
  rintro e w1 rfl hr1 hg1
  have HF:Hid (RS b s Q w1/\w.grownBy w1 (some b)):=⟨hr1,hg1⟩
  clear hr1 hg1
  go_wp2
  refine bodyPost_ret (results_tmp2 rfl _ _ _) rfl ⟨?_,HF.out.1,HF.out.2⟩
  rw [HZ.out];rfl
 | true =>
  have hE:E=0:=by simpa using hz
  have hq:=HPT.out hE
  obtain ⟨X,hX⟩:∃X:ByteArray,X=⟨P.toArray⟩:=⟨_,rfl⟩
  have hPe:P=subT s.data.toList i (Q - i):=by rw [HP.out,if_pos hE]
  have sl:∀wx,(Instr.slice 9 (.string s) (some (.int .i64 (i:Int))) (some (.int .i64 (Q:Int))) none).run Tryz.prog wx=.ok (.string X) wx:=fun wx=>by rw [hX,hPe];exact run_sub s i Q (by omega) hq.2 wx
  have CC:Hid (∀w,Calls Tryz.prog 105 #[.string X] w fun e w'=>e=.returned (.string X)/\w.grownBy w' none):=fun w=>clone_any X w (by
   rw [hX];show P.toArray.size<=_
   have:=sub_len s.data.toList i (Q - i) (by have:=HS.out.2;omega)
   rw [<-hPe] at this
   have h2:=HS.out.1
   simp;omega)
  have HX:Hid (X=⟨P.toArray⟩):=hX
  subst hE
  clear hX hPe hq hz HPT
  go_enter Tryz.func160,Tryz.ntmps160
  go_wp2_with (go_at_call 96;refine CS.out.mono ?_)
  rintro e w1 rfl hr1 hg1
  have HR1:Hid (RS b s Q w1):=hr1
  have HG1:Hid (w.grownBy w1 (some b)):=hg1
  have f0:=hr1.c0
  have f1:=hr1.c1
  clear hr1 hg1
  go_wp2
  go_region_held3 (fun w'=>w'.cell? ⟨b,0,none⟩=some (.string s)/\w'.cell? ⟨b,1,none⟩=some (.int .i64 (Q:Int))) ((first | go_keep | (refine ⟨?_,?_⟩ <;> (refine World.grownBy.cell (by assumption) ?_ (by simp);assumption)))) (first | (go_at_call 105;refine (CC.out _).mono ?_;rintro e w2 ⟨rfl,hg2⟩))
  have HF:Hid (RS b s Q w2/\w.grownBy w2 (some b)):=⟨HR1.out.grow (gb_undrew hg2),gb_trans HG1.out (gb_weak (gb_undrew hg2) _)⟩
  clear hg2
  go_wp2
  refine bodyPost_ret (results_tmp2 rfl _ _ _) rfl ⟨?_,HF.out.1,HF.out.2⟩
  rw [<-HX.out];rfl
end Go.Proofs.YtonfldbigenfhaaGreatDoor
