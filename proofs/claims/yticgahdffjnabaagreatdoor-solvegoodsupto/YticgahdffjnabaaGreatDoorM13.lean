import Derived.Test.YticgahdffjnabaaGreatDoorM12
import Derived.Test.YticgahdffjnabaaGreatDoorM07
import Derived.Test.YticgahdffjnabaaGreatDoorM02
set_option linter.unusedVariables false
set_option maxHeartbeats 3200000
namespace Go.Proofs.YticgahdffjnabaaGreatDoor
structure Pa where
 n:Nat
 a:Int
 b:Int
 c:Int
 pre:List UInt8
structure Te where
 sign:Int
 p:Pa
structure PaOk (p:Pa):Prop where
 n3:p.n<=3
 a0:0<=p.a/\p.a<=999999999
 b0:0<=p.b/\p.b<=999999999
 c0:0<=p.c/\p.c<=999999999
 z1:p.n < 1->p.a=0
 z2:p.n < 2->p.b=0
 z3:p.n < 3->p.c=0/\p.pre=[]
 ok:okParts true p.pre=true
def lowV:V:=⟨0,0,0,[48]⟩
def nilV:V:=⟨0,0,0,[]⟩
def paV (p:Pa):V:=⟨p.a,p.b,p.c,p.pre⟩
def firstV (p:Pa):V:=⟨p.a,p.b,p.c,if p.n < 3 then [48] else p.pre⟩
def namedB (p:Pa) (v:V):Bool:=if p.n=3 then decide (verC (paV p) v=0) else (decide (p.n < 1) || decide (v.major=p.a)) && (decide (p.n < 2) || decide (v.minor=p.b))
def placeB (p:Pa) (v:V):Int:=if (namedB p v || decide (p.n=0))=true then 0 else verC v (paV p)
def fromB (p:Pa) (v:V):Bool:=decide (p.n=0) || decide (verC (firstV p) v<=0)
def leadsB (p:Pa) (v:V):Bool :=
 if p.n=0 then true else if v.major ≠ p.a then false else if 0 < p.a\/p.n=1 then true else if v.minor ≠ p.b then false else (decide (0 < p.b) || decide (p.n=2)) || decide (v.patch=p.c)
def admB (t:Te) (v:V):Bool :=
 if t.sign=0 then namedB t.p v else if t.sign=1 then decide (0<=placeB t.p v) else if t.sign=2 then decide (placeB t.p v<=0) else if t.sign=3 then decide (0 < placeB t.p v)
 else if t.sign=4 then decide (placeB t.p v < 0) else if t.sign=5 then fromB t.p v && leadsB t.p v
 else if t.sign=6 then (fromB t.p v && (decide (t.p.n < 1) || decide (v.major=t.p.a))) && (decide (t.p.n < 2) || decide (v.minor=t.p.b)) else fromB t.p v
def behindV (v:V) (k:Nat):V:=if k=1 then ⟨v.major+1,0,0,[48]⟩ else if k=2 then ⟨v.major,v.minor+1,0,[48]⟩ else ⟨v.major,v.minor,v.patch+1,[48]⟩
def alikeG (p:Pa) (k:Nat):Sg:=if k=0 then ⟨firstV p,nilV,true⟩ else ⟨firstV p,behindV (firstV p) k,false⟩
def namedG (p:Pa):Sg:=if p.n=3 then ⟨firstV p,nextV (firstV p),false⟩ else alikeG p p.n
def leadN (p:Pa):Nat:=if p.a ≠ 0 then 1 else if p.b ≠ 0 then 2 else if p.c ≠ 0 then 3 else p.n
def signG (s:Int) (p:Pa):Sg :=
 if s=0 then namedG p else if s=1 then ⟨firstV p,nilV,true⟩ else if s=2 then ⟨lowV,(namedG p).to_,(namedG p).op⟩
 else if s=3 then (if (namedG p).op=true then ⟨lowV,lowV,false⟩ else ⟨(namedG p).to_,nilV,true⟩) else if s=4 then ⟨lowV,firstV p,false⟩
 else if s=5 then alikeG p (leadN p) else alikeG p (min p.n 2)
def betweenG (p q:Pa):Sg:=⟨firstV p,(namedG q).to_,(namedG q).op⟩
theorem lt_iff (x y:V):verC x y < 0 ↔ x.major < y.major\/(x.major=y.major/\(x.minor < y.minor\/(x.minor=y.minor/\(x.patch < y.patch\/(x.patch=y.patch/\preC x.pre y.pre < 0))))):=by
 rw [verC_eq];have c1:∀a b:Int,Lib.compareInt a b=0 ↔ a=b:=fun a b=>cmp_zero
 have c2:∀a b:Int,Lib.compareInt a b < 0 ↔ a < b:=fun a b=>by
  unfold Lib.compareInt
  repeat' split
  all_goals omega
 split
 ·rename_i h;rw [c1] at h;split
  ·rename_i h2;rw [c1] at h2;split
   ·rename_i h3;rw [c1] at h3;omega
   ·rename_i h3;rw [c1] at h3;rw [c2];omega
  ·rename_i h2;rw [c1] at h2;rw [c2];omega
 ·rename_i h;rw [c1] at h;rw [c2];omega
theorem le_iff (x y:V):verC x y<=0 ↔ ¬ verC y x < 0:=by have:=v_anti x y;omega
theorem pre_low (l:List UInt8):¬ preC l [48] < 0:=by
 have h1:=pre_zero l;have h2:=good_pre.anti [48] l;omega
structure VOk (v:V):Prop where
 n1:0<=v.major
 n2:0<=v.minor
 n3:0<=v.patch
 ok:okParts true v.pre=true
theorem next_iff (f v:V) (h:f.patch < 4611686018427387904):verC v (nextV f) < 0 ↔ verC v f<=0:=by
 constructor
 ·intro hn
  by_cases hc:verC v f<=0
  ·exact hc
  ·exact (none_between f v h (by have:=v_anti v f;omega) hn).elim
 ·intro hc;exact v_le_lt hc (by have:=next_behind f h;omega)
theorem low_lt (v:V) (a b c:Int):verC v ⟨a,b,c,[48]⟩ < 0 ↔ v.major < a\/(v.major=a/\(v.minor < b\/(v.minor=b/\v.patch < c))):=by
 rw [lt_iff];have:=pre_low v.pre;simp only [];omega
theorem has_iff (s:Sg) (v:V):hasG s v=true ↔ ¬ verC v s.fr < 0/\(s.op=true\/verC v s.to_ < 0):=by
 unfold hasG;rw [Bool.and_eq_true,Bool.or_eq_true,decide_eq_true_eq,decide_eq_true_eq,le_iff]
theorem low_all (v:V) (hv:VOk v):¬ verC v lowV < 0:=by
 unfold lowV;rw [low_lt];have:=hv.n1;have:=hv.n2;have:=hv.n3;omega
theorem named_ok (p:Pa) (hp:PaOk p) (v:V) (hv:VOk v):hasG (namedG p) v=namedB p v:=by
 obtain ⟨n,a,b,c,pre⟩:=p;obtain ⟨n3,a0,b0,c0,z1,z2,z3,ok⟩:=hp;simp only at n3 a0 b0 c0 z1 z2 z3 ok;have v1:=hv.n1;have v2:=hv.n2;have v3:=hv.n3;have hn:n=0\/n=1\/n=2\/n=3:=by omega
 rw [Bool.eq_iff_iff,has_iff]
 rcases hn with rfl | rfl | rfl | rfl
 ·simp [namedG,alikeG,namedB,firstV,low_lt,z1,z2,z3];omega
 ·simp [namedG,alikeG,namedB,firstV,behindV,low_lt,z2,z3];omega
 ·simp [namedG,alikeG,namedB,firstV,behindV,low_lt,z3];omega
 ·have hG:namedG ⟨3,a,b,c,pre⟩=⟨⟨a,b,c,pre⟩,nextV ⟨a,b,c,pre⟩,false⟩:=rfl;have hB:namedB ⟨3,a,b,c,pre⟩ v=decide (verC (⟨a,b,c,pre⟩:V) v=0):=rfl;rw [hG,hB,decide_eq_true_eq];simp only [];rw [next_iff _ _ (by simp only [];omega)];have:=v_anti (⟨a,b,c,pre⟩:V) v;constructor
  ·rintro ⟨h1,h2⟩
   rcases h2 with h2 | h2
   ·cases h2
   ·omega
  ·intro h;exact ⟨by omega,Or.inr (by omega)⟩
theorem place_ok (p:Pa) (hp:PaOk p) (v:V) (hv:VOk v):(placeB p v < 0 ↔ verC v (firstV p) < 0)/\(0 < placeB p v ↔ (namedG p).op=false/\¬ verC v (namedG p).to_ < 0):=by
 obtain ⟨n,a,b,c,pre⟩:=p;obtain ⟨n3,a0,b0,c0,z1,z2,z3,ok⟩:=hp;simp only at n3 a0 b0 c0 z1 z2 z3 ok;have v1:=hv.n1;have v2:=hv.n2;have v3:=hv.n3;have hn:n=0\/n=1\/n=2\/n=3:=by omega
 rcases hn with rfl | rfl | rfl | rfl
 ·simp [namedG,alikeG,placeB,firstV,low_lt,z1,z2,z3];omega
 ·have hc:=(z3 (by omega)).1;have hp:=(z3 (by omega)).2;have hb:=z2 (by omega);subst hc hp hb;have l1:=lt_iff v ⟨a,0,0,[]⟩;have l2:=lt_iff ⟨a,0,0,[]⟩ v;have l3:=v_anti v ⟨a,0,0,[]⟩;simp only at l1 l2;have k1:=low_lt v a 0 0;have k2:=low_lt v (a+1) 0 0;have hG:namedG ⟨1,a,0,0,[]⟩=⟨⟨a,0,0,[48]⟩,⟨a+1,0,0,[48]⟩,false⟩:=rfl;have hF:firstV ⟨1,a,0,0,[]⟩=⟨a,0,0,[48]⟩:=rfl;have hP:placeB ⟨1,a,0,0,[]⟩ v=if v.major=a then 0 else verC v ⟨a,0,0,[]⟩:=by
   unfold placeB namedB paV
   by_cases hm:v.major=a <;> simp [hm]
  by_cases hm:v.major=a
  ·rw [if_pos hm] at hP;simp only [hG,hF,hP,eq_self,true_and];omega
  ·rw [if_neg hm] at hP;simp only [hG,hF,hP,eq_self,true_and];omega
 ·have hc:=(z3 (by omega)).1;have hp:=(z3 (by omega)).2;subst hc hp;have l1:=lt_iff v ⟨a,b,0,[]⟩;have l2:=lt_iff ⟨a,b,0,[]⟩ v;have l3:=v_anti v ⟨a,b,0,[]⟩;simp only at l1 l2;have k1:=low_lt v a b 0;have k2:=low_lt v a (b+1) 0;have hG:namedG ⟨2,a,b,0,[]⟩=⟨⟨a,b,0,[48]⟩,⟨a,b+1,0,[48]⟩,false⟩:=rfl;have hF:firstV ⟨2,a,b,0,[]⟩=⟨a,b,0,[48]⟩:=rfl;have hP:placeB ⟨2,a,b,0,[]⟩ v=if v.major=a/\v.minor=b then 0 else verC v ⟨a,b,0,[]⟩:=by
   unfold placeB namedB paV
   by_cases hm:v.major=a <;> by_cases hm2:v.minor=b <;> simp [hm,hm2]
  by_cases hm:v.major=a/\v.minor=b
  ·rw [if_pos hm] at hP;simp only [hG,hF,hP,eq_self,true_and];omega
  ·rw [if_neg hm] at hP;simp only [hG,hF,hP,eq_self,true_and];omega
 ·have l3:=v_anti (⟨a,b,c,pre⟩:V) v;have hG:namedG ⟨3,a,b,c,pre⟩=⟨⟨a,b,c,pre⟩,nextV ⟨a,b,c,pre⟩,false⟩:=rfl;have hF:firstV ⟨3,a,b,c,pre⟩=⟨a,b,c,pre⟩:=rfl;have hP:placeB ⟨3,a,b,c,pre⟩ v=if verC (⟨a,b,c,pre⟩:V) v=0 then 0 else verC v ⟨a,b,c,pre⟩:=by
   unfold placeB namedB paV
   by_cases hm:verC (⟨a,b,c,pre⟩:V) v=0 <;> simp [hm]
  have hx:=next_iff ⟨a,b,c,pre⟩ v (by simp only [];omega)
  by_cases h0:verC (⟨a,b,c,pre⟩:V) v=0
  ·rw [if_pos h0] at hP;simp only [hG,hF,hP,hx,eq_self,true_and];omega
  ·rw [if_neg h0] at hP;simp only [hG,hF,hP,hx,eq_self,true_and];omega
theorem alike_ok (p:Pa) (hp:PaOk p) (k:Nat) (hk:k<=3) (v:V) (hv:VOk v) (h1:k=1->True) (hz:(k < 2->p.b=0\/True)) :
  hasG (alikeG p k) v=true ↔ ¬ verC v (firstV p) < 0/\(k=0\/(k=1/\v.major < p.a+1)\/(k=2/\(v.major < p.a\/(v.major=p.a/\v.minor < p.b+1)))\/(k=3/\(v.major < p.a\/(v.major=p.a/\(v.minor < p.b\/(v.minor=p.b/\v.patch < p.c+1)))))):=by
 rw [has_iff];have v1:=hv.n1;have v2:=hv.n2;have v3:=hv.n3;have hn:k=0\/k=1\/k=2\/k=3:=by omega
 rcases hn with rfl | rfl | rfl | rfl
 ·simp [alikeG]
 ·have e:alikeG p 1=⟨firstV p,⟨p.a+1,0,0,[48]⟩,false⟩:=rfl;have k1:=low_lt v (p.a+1) 0 0;rw [e];simp only [];simp;omega
 ·have e:alikeG p 2=⟨firstV p,⟨p.a,p.b+1,0,[48]⟩,false⟩:=rfl;have k1:=low_lt v p.a (p.b+1) 0;rw [e];simp only [];simp;omega
 ·have e:alikeG p 3=⟨firstV p,⟨p.a,p.b,p.c+1,[48]⟩,false⟩:=rfl;have k1:=low_lt v p.a p.b (p.c+1);rw [e];simp only [];simp;omega
theorem first_nums (p:Pa) (v:V) (h:¬ verC v (firstV p) < 0):p.a < v.major\/(p.a=v.major/\(p.b < v.minor\/(p.b=v.minor/\p.c<=v.patch))):=by
 have l1:=lt_iff v (firstV p);have e1:(firstV p).major=p.a:=rfl;have e2:(firstV p).minor=p.b:=rfl;have e3:(firstV p).patch=p.c:=rfl;rw [e1,e2,e3] at l1;omega
theorem from_ok (p:Pa) (hp:PaOk p) (v:V) (hv:VOk v):fromB p v=true ↔ ¬ verC v (firstV p) < 0:=by
 unfold fromB;rw [Bool.or_eq_true,decide_eq_true_eq,decide_eq_true_eq,le_iff];constructor
 ·rintro (h | h)
  ·have e:firstV p=⟨0,0,0,[48]⟩:=by
    unfold firstV;rw [if_pos (by omega),hp.z1 (by omega),hp.z2 (by omega),(hp.z3 (by omega)).1]
   rw [e];exact low_all v hv
  ·exact h
 ·exact Or.inr
theorem sign_ok (s:Int) (hs:0<=s/\s<=6) (p:Pa) (hp:PaOk p) (v:V) (hv:VOk v):hasG (signG s p) v=admB ⟨s,p⟩ v:=by
 have hl:=low_all v hv;have hpl:=place_ok p hp v hv;have hss:s=0\/s=1\/s=2\/s=3\/s=4\/s=5\/s=6:=by omega
 rcases hss with rfl | rfl | rfl | rfl | rfl | rfl | rfl
 ·exact named_ok p hp v hv
 ·rw [Bool.eq_iff_iff,has_iff];show (¬ verC v (firstV p) < 0/\(true=true\/_)) ↔ decide (0<=placeB p v)=true;rw [decide_eq_true_eq];simp only [true_or,and_true];omega
 ·rw [Bool.eq_iff_iff,has_iff];show (¬ verC v lowV < 0/\((namedG p).op=true\/verC v (namedG p).to_ < 0)) ↔ decide (placeB p v<=0)=true;rw [decide_eq_true_eq]
  cases hop:(namedG p).op with
  | true =>
   rw [hop] at hpl;simp only [Bool.true_eq_false,false_and,iff_false] at hpl;simp only [true_or,and_true];exact ⟨fun _=>by omega,fun _=>hl⟩
  | false =>
   rw [hop] at hpl;simp only [eq_self,true_and] at hpl;simp only [Bool.false_eq_true,false_or];omega
 ·show hasG (if (namedG p).op=true then ⟨lowV,lowV,false⟩ else ⟨(namedG p).to_,nilV,true⟩) v=decide (0 < placeB p v);rw [Bool.eq_iff_iff,decide_eq_true_eq]
  cases hop:(namedG p).op with
  | true =>
   rw [hop] at hpl;simp only [Bool.true_eq_false,false_and,iff_false] at hpl;rw [if_pos rfl,has_iff];simp only [Bool.false_eq_true,false_or];omega
  | false =>
   rw [hop] at hpl;simp only [eq_self,true_and] at hpl;rw [if_neg (by decide),has_iff];simp only [true_or,and_true];omega
 ·rw [Bool.eq_iff_iff,has_iff];show (¬ verC v lowV < 0/\(false=true\/verC v (firstV p) < 0)) ↔ decide (placeB p v < 0)=true;rw [decide_eq_true_eq];simp only [Bool.false_eq_true,false_or];omega
 ·show hasG (alikeG p (leadN p)) v=(fromB p v && leadsB p v);have n3:=hp.n3;have a0:=hp.a0;have b0:=hp.b0;have c0:=hp.c0;have z1:=hp.z1;have z2:=hp.z2;have z3:=hp.z3;rw [Bool.eq_iff_iff,Bool.and_eq_true,from_ok p hp v hv,alike_ok p hp (leadN p) (by unfold leadN;split;omega;split;omega;split;omega;exact n3) v hv (fun _=>trivial) (fun _=>Or.inr trivial)];refine and_congr_right fun hf=>?_
  have hn:=first_nums p v hf;unfold leadN leadsB
  by_cases h0:p.n=0
  ·have e1:=z1 (by omega);have e2:=z2 (by omega);have e3:=(z3 (by omega)).1;simp [h0,e1,e2,e3]
  ·rw [if_neg h0]
   by_cases ha:p.a=0
   ·by_cases hb:p.b=0
    ·by_cases hc:p.c=0
     ·simp only [ha,hb,hc,ne_eq,not_true_eq_false,if_false]
      by_cases hm:v.major=0
      ·by_cases h1:p.n=1
       ·simp [hm,h1] <;> omega
       ·by_cases hm2:v.minor=0
        ·by_cases h2:p.n=2
         ·simp [hm,hm2,h2] <;> omega
         ·simp [hm,hm2,h1,h2] <;> omega
        ·simp [hm,hm2,h1] <;> omega
      ·simp [hm] <;> omega
     ·simp only [ha,hb,hc,ne_eq,not_true_eq_false,if_false,not_false_eq_true,if_true]
      by_cases hm:v.major=0
      ·by_cases hm2:v.minor=0
       ·have h3:p.n=3:=by omega
        simp [hm,hm2,h3] <;> omega
       ·have h3:p.n=3:=by omega
        simp [hm,hm2,h3] <;> omega
      ·simp [hm] <;> omega
    ·simp only [ha,hb,ne_eq,not_true_eq_false,if_false,not_false_eq_true,if_true];have h3:¬ p.n=1:=by omega
     by_cases hm:v.major=0
     ·by_cases hm2:v.minor=p.b
      ·simp [hm,hm2,h3] <;> omega
      ·simp [hm,hm2,h3] <;> omega
     ·simp [hm] <;> omega
   ·simp only [ha,ne_eq,not_false_eq_true,if_true]
    by_cases hm:v.major=p.a
    ·simp [hm] <;> omega
    ·simp [hm] <;> omega
 ·show hasG (alikeG p (min p.n 2)) v=((fromB p v && (decide (p.n < 1) || decide (v.major=p.a))) && (decide (p.n < 2) || decide (v.minor=p.b)));have n3:=hp.n3;have z1:=hp.z1;have z2:=hp.z2;rw [Bool.eq_iff_iff,Bool.and_eq_true,Bool.and_eq_true,and_assoc,from_ok p hp v hv,alike_ok p hp (min p.n 2) (by omega) v hv (fun _=>trivial) (fun _=>Or.inr trivial)];refine and_congr_right fun hf=>?_
  have hn:=first_nums p v hf;simp only [Bool.or_eq_true,decide_eq_true_eq];omega
theorem between_ok (p q:Pa) (hp:PaOk p) (hq:PaOk q) (v:V) (hv:VOk v):hasG (betweenG p q) v=(admB ⟨7,p⟩ v && admB ⟨2,q⟩ v):=by
 have h2:=sign_ok 2 (by decide) q hq v hv;rw [<-h2];show _=(fromB p v && _);rw [Bool.eq_iff_iff,Bool.and_eq_true,from_ok p hp v hv,has_iff,has_iff];show (¬ verC v (firstV p) < 0/\_) ↔ (¬ verC v (firstV p) < 0/\(¬ verC v lowV < 0/\((namedG q).op=true\/verC v (namedG q).to_ < 0)));have hl:=low_all v hv;constructor
 ·rintro ⟨h1,h2⟩;exact ⟨h1,hl,h2⟩
 ·rintro ⟨h1,_,h2⟩;exact ⟨h1,h2⟩
open Go.RowKit
theorem val_take (T:List UInt8) (m:Nat) (hm:m < T.length):valN (T.take (m+1))=10 * valN (T.take m)+((T[m].toNat:Int) - 48):=by
 rw [List.take_succ_eq_append_getElem hm,valN_snoc];rfl
theorem num_any (b:Nat) (s:ByteArray) (i:Nat) (w:World) (hi:i<=s.size) (h:RS b s i w) (hs:s.size < 2 ^ 62) :
  Calls Tryz.prog 67 #[.pointer (some ⟨b,0,none⟩)] w fun e w'=>e=.returned (.tuple #[.int .i64 (rdNum s.data.toList i).2.1,.int .i64 (rdNum s.data.toList i).1])/\RS b s (rdNum s.data.toList i).2.2 w'/\w.grownBy w' (some b):=by
 obtain ⟨E,V,Q,hEQ⟩:∃E V Q,rdNum s.data.toList i=(E,V,Q):=⟨_,_,_,rfl⟩;rw [hEQ];have hsl:s.data.toList.length=s.size:=by simp
 have CR:Hd (Calls Tryz.prog 87 #[.pointer (some ⟨b,0,none⟩),.func (.func 88) #[] #[]] w fun e w'=>e=.returned (.string ⟨(subT s.data.toList i (runN isD s.data.toList i)).toArray⟩)/\RS b s (i+runN isD s.data.toList i) w'/\w.grownBy w' (some b)):=run_digits b s i w hi h hs;have d1:=h.c1;have hle:i+runN isD s.data.toList i<=s.size:=by have:=runN_le isD s.data.toList i (by rw [hsl];exact hi);rw [hsl] at this;exact this
 have hln:=sub_len s.data.toList i (runN isD s.data.toList i) (by rw [hsl];exact hle);have hall:=sub_all isD s.data.toList i;have hT0:∀k,0 < k->i+k<=s.data.toList.length->(subT s.data.toList i k)[0]?=s.data.toList[i]?:=by
  intro k hk hik;unfold subT;rw [List.getElem?_take_of_lt hk,List.getElem?_drop];rfl
 unfold rdNum at hEQ;obtain ⟨k,hk⟩:=nm (runN isD s.data.toList i);rw [hk] at CR hEQ hle hln hall;have hT0k:=hT0 k;obtain ⟨T,hT⟩:=nm (subT s.data.toList i k);rw [hT] at CR hEQ hln hall hT0k;obtain ⟨X,hX⟩:∃X:ByteArray,X=⟨T.toArray⟩:=⟨_,rfl⟩;rw [<-hX] at CR;have HXd:Hd (X.data.toList=T):=by show X.data.toList=T;rw [hX]
 have hXs:X.size=k:=by rw [hX];show T.toArray.size=k;simpa using hln
 have HEQ:Hd ((if k=0 then (2,0,i) else if 1 < k/\s.data.toList[i]?=some 48 then (2,0,i) else if valN T > 999999999 then (3,0,i) else (0,valN T,i+k))=(E,V,Q)):=hEQ;have HALL:Hd (T.all isD=true/\T.length=k/\(0 < k->T[0]?=s.data.toList[i]?)):=⟨hall,hln,fun h=>hT0k h (by rw [hsl];exact hle)⟩;clear hk hT hX hEQ hln hall hT0 hT0k h hsl hi
 by_cases hk0:k=0
 ·have e1:=emp_t2 (hXs.trans hk0);have HZ:Hd (E=2/\V=0/\Q=i+k):=by
   have:=HEQ.o;rw [if_pos hk0] at this;exact ⟨(congrArg Prod.fst this).symm,(congrArg (·.2.1) this).symm,by rw [hk0];exact (congrArg (·.2.2) this).symm⟩
  clear hk0 hXs hle;go_enter Tryz.func67,Tryz.ntmps67;go_wp2_with (go_at_call 87;refine CR.o.mono ?_);rintro e w1 ⟨rfl,hr1,hg1⟩;have HF:Hd (RS b s Q w1/\w.grownBy w1 (some b)):=⟨by rw [HZ.o.2.2];exact hr1,hg1⟩;clear hr1 hg1;go_wp2;refine bodyPost_ret (results_tmp2 rfl _ _ _) rfl ⟨?_,HF.o.1,HF.o.2⟩;rw [HZ.o.1,HZ.o.2.1];rfl
 ·have e1:=emp_f2 (fun h=>hk0 (hXs.symm.trans h));obtain ⟨z,hz⟩:=nm ((decide (1 < X.data.toList.length) && decide (X.data.toList[0]?=some 48)));have CZ:Hd (∀w,Calls Tryz.prog 89 #[.string X] w fun e w'=>e=.returned (.bool z)/\w'=w):=fun w=>by rw [<-hz];exact needless_any X w
  have HZz:Hd (z=decide (1 < k/\s.data.toList[i]?=some 48)):=by
   show z=_;rw [<-hz,HXd.o,HALL.o.2.1,HALL.o.2.2 (by omega)];rw [Bool.eq_iff_iff];simp
  have HK:Hd (¬ k=0):=hk0;clear hz hk0;go_enter Tryz.func67,Tryz.ntmps67;go_wp2_with (go_at_call 87;refine CR.o.mono ?_);rintro e w1 ⟨rfl,hr1,hg1⟩;have HR1:Hd (RS b s (i+k) w1):=hr1;have HG1:Hd (w.grownBy w1 (some b)):=hg1;have f1:=hr1.c1;have f2:=hr1.f1;clear hr1 hg1
  cases z with
  | true =>
   have HZ:Hd (E=2/\V=0/\Q=i):=by
    have:=HEQ.o;rw [if_neg HK.o,if_pos (of_decide_eq_true HZz.o.symm)] at this;exact ⟨(congrArg Prod.fst this).symm,(congrArg (·.2.1) this).symm,(congrArg (·.2.2) this).symm⟩
   go_wp2_with (first | (go_at_call 89;refine (CZ.o _).mono ?_;rintro e w' ⟨rfl,rfl⟩));refine bodyPost_ret (results_tmp2 rfl _ _ _) rfl ⟨?_,by rw [HZ.o.2.2];exact HR1.o.set i,gb_set HG1.o _ _⟩;rw [HZ.o.1,HZ.o.2.1];rfl
  | false =>
   have HV:Hd ((if valN T > 999999999 then (3,0,i) else (0,valN T,i+k))=(E,V,Q)):=by
    have:=HEQ.o;rw [if_neg HK.o,if_neg (of_decide_eq_false HZz.o.symm)] at this;exact this
   have kw:=Lib.run_convert_string_bytes (P:=Tryz.prog) w1 9 155 5 X Tryz.underlying9 Tryz.underlying155 Tryz.underlying5;obtain ⟨W,hW⟩:=nm (Lib.bytesWorld w1 5 X);have HC:Hd (∀j,(hj:j < X.size)->W.cell? ⟨w1.heap.size,j,none⟩=some (.int .u8 (X[j].toNat:Int))):=by
    show ∀j,(hj:j < X.size)->W.cell? ⟨w1.heap.size,j,none⟩=some (.int .u8 (X[j].toNat:Int));intro j hj;rw [<-hW,Lib.bytesWorld_cell w1 _ X j hj];have:X.data.toList.getD j 0=X[j]:=by
     rw [List.getD_eq_getElem?_getD,get_data X j hj];rfl
    rw [this]
   have hgW:w1.grownBy W none:=by rw [<-hW];exact gb_bytes w1 _ X
   rw [hW] at kw;have HRW:Hd (RS b s (i+k) W):=HR1.o.grow hgW;have HGW:Hd (w.grownBy W (some b)):=gb_trans HG1.o (gb_weak hgW _);have g1:=HRW.o.c1;have g2:=HRW.o.f1;clear hW hgW f1 f2;go_wp2_with (first | (go_at_call 89;refine (CZ.o _).mono ?_;rintro e w' ⟨rfl,rfl⟩));have HXk:Hd (X.size=k):=hXs;have hks:k < 2 ^ 62:=by omega
   clear hXs hle
   go_loop [6,26] (fun vn vi=>∃m:Nat,m<=k/\vi=.int .i64 m/\vn=.int .i64 (valN (T.take m))/\valN (T.take m)<=999999999) (fun _ vi=>k - (intOf vi).toNat)
   case atStart=>exact ⟨0,Nat.zero_le _,rfl,rfl,by show (0:Int)<=_;omega⟩
   case round =>
    obtain ⟨m,hm,rfl,rfl,hvm⟩:=hrel
    by_cases hlt:m < k
    ·have hmT:m < T.length:=by rw [HALL.o.2.1];exact hlt
     have hmX:m < X.size:=by rw [HXk.o];exact hlt
     have hXT:X[m]=T[m]:=by
      have:=get_data X m hmX;rw [HXd.o,List.getElem?_eq_getElem hmT] at this;exact (Option.some.inj this).symm
     have cm:=HC.o m hmX;have hdg:=isD_ge (List.all_eq_true.1 HALL.o.1 T[m] (List.getElem_mem hmT));have hvt:=val_take T m hmT;have hv0:0<=valN (T.take m):=val_nn _ (List.all_eq_true.2 (fun c hc=>List.all_eq_true.1 HALL.o.1 c (List.mem_of_mem_take hc)));have hpre:valN (T.take (m+1))<=valN T:=by
      have:=val_prefix (T.take (m+1)) (T.drop (m+1)) (by rw [List.take_append_drop];exact HALL.o.1);rw [List.take_append_drop] at this;exact this
     rw [hXT] at cm;obtain ⟨c,hc⟩:∃c:Int,c=(T[m].toNat:Int):=⟨_,rfl⟩;rw [<-hc] at cm hvt;obtain ⟨v,hv⟩:∃v,v=valN (T.take m):=⟨_,rfl⟩;rw [<-hv] at hvt hv0 hvm;rw [<-hv];have hc0:48<=c/\c<=57:=by omega
     have r1:IntKind.i64.wrap (10 * v)=10 * v:=by rw [IntKind.wrap_i64];omega
     have r2:IntKind.u8.wrap (c - 48)=c - 48:=by rw [IntKind.wrap_u8];omega
     have r3:IntKind.i64.wrap (c - 48)=c - 48:=by rw [IntKind.wrap_i64];omega
     have r4:IntKind.i64.wrap (10 * v+(c - 48))=10 * v+(c - 48):=by rw [IntKind.wrap_i64];omega
     have HVT:Hd (valN (T.take (m+1))=10 * v+(c - 48)/\valN (T.take (m+1))<=valN T):=⟨hvt,hpre⟩;clear hc hv hXT hdg hvt hpre hmT hmX
     by_cases hbig:999999999 < 10 * v+(c - 48)
     ·have HZ:Hd (E=3/\V=0/\Q=i):=by
       have h1:=HVT.o;have:=HV.o;rw [if_pos (by omega)] at this;exact ⟨(congrArg Prod.fst this).symm,(congrArg (·.2.1) this).symm,(congrArg (·.2.2) this).symm⟩
      go_wp2;refine bodyPost_ret (results_tmp2 rfl _ _ _) rfl ⟨?_,by rw [HZ.o.2.2];exact HRW.o.set i,gb_set HGW.o _ _⟩;rw [HZ.o.1,HZ.o.2.1];rfl
     ·go_wp2
      go_round
      case rel=>exact ⟨m+1,by omega,by go_num,by rw [HVT.o.1],by rw [HVT.o.1];omega⟩
      case measure=>simp [intOf];omega
    ·have hmk:m=k:=by omega
     have HTk:Hd (T.take m=T):=by show T.take m=T;rw [hmk];exact List.take_of_length_le (by rw [HALL.o.2.1];exact Nat.le_refl _)
     have HZ:Hd (E=0/\V=valN (T.take m)/\Q=i+k):=by
      have:=HV.o;rw [HTk.o] at hvm ⊢;rw [if_neg (by omega)] at this;exact ⟨(congrArg Prod.fst this).symm,(congrArg (·.2.1) this).symm,(congrArg (·.2.2) this).symm⟩
     clear hmk hm hvm;go_wp2;refine bodyPost_ret (results_tmp2 rfl _ _ _) rfl ⟨?_,by rw [HZ.o.2.2];exact HRW.o,HGW.o⟩;rw [HZ.o.1,HZ.o.2.1];rfl
open Go.RowKit
structure G2 (b v:Nat) (w w':World):Prop where
 os:w'.os=w.os
 tape:w'.tape=w.tape
 output:w'.output=w.output
 size:w.heap.size<=w'.heap.size
 block:∀k,k < w.heap.size->k ≠ b->k ≠ v->w'.heap[k]?=w.heap[k]?
theorem G2.refl (b v:Nat) (w:World):G2 b v w w:=⟨rfl,rfl,rfl,Nat.le_refl _,fun _ _ _ _=>rfl⟩
theorem G2.step {b v:Nat} {w w1 w2:World} (h:G2 b v w w1) (hg:w1.grownBy w2 (some b)):G2 b v w w2 :=
 ⟨hg.os.trans h.os,hg.tape.trans h.tape,hg.output.trans h.output,Nat.le_trans h.size hg.size,fun k hk h1 h2=>(hg.block k (Nat.lt_of_lt_of_le hk h.size) (by simpa using h1)).trans (h.block k hk h1 h2)⟩
theorem G2.drew {b v:Nat} {w w1:World} (h:G2 b v w w1) (n:Nat):G2 b v w (w1.drewN n):=⟨h.os,h.tape,h.output,h.size,h.block⟩
theorem G2.set {b v:Nat} {w w1:World} (h:G2 b v w w1) (o:Nat) (x:Value):G2 b v w (w1.setCell ⟨v,o,none⟩ x) :=
 ⟨h.os,h.tape,h.output,by simpa [World.setCell] using h.size,fun k hk h1 h2=>by rw [<-h.block k hk h1 h2];exact heap_setCell_other w1 _ k x (fun e=>h2 e)⟩
def VB (v:Nat) (x1 x2 x3:Int) (w:World):Prop:=w.heap[v]?=some (.cells #[.int .i64 x1,.int .i64 x2,.int .i64 x3,.string ⟨#[]⟩,.string ⟨#[]⟩] 69 (0,0))
theorem VB.cell {v:Nat} {x1 x2 x3:Int} {w:World} (h:VB v x1 x2 x3 w):w.cell? ⟨v,0,none⟩=some (.int .i64 x1)/\w.cell? ⟨v,1,none⟩=some (.int .i64 x2)/\w.cell? ⟨v,2,none⟩=some (.int .i64 x3) :=
 ⟨by rw [cOH h];rfl,by rw [cOH h];rfl,by rw [cOH h];rfl⟩
theorem VB.f {v:Nat} {x1 x2 x3:Int} {w:World} (h:VB v x1 x2 x3 w) (o:Nat):w.frozen? ⟨v,o,none⟩=false:=Lib.frozen_of_heap h o
theorem VB.grow {b v:Nat} {x1 x2 x3:Int} {w w':World} (h:VB v x1 x2 x3 w) (hg:w.grownBy w' (some b)) (hn:v ≠ b):VB v x1 x2 x3 w':=by
 unfold VB at h ⊢;rw [hg.block v ((hqL h)) (by simpa using hn)];exact h
theorem VB.drew {v:Nat} {x1 x2 x3:Int} {w:World} (h:VB v x1 x2 x3 w) (n:Nat):VB v x1 x2 x3 (w.drewN n):=h
theorem VB.set0 {v:Nat} {x1 x2 x3:Int} {w:World} (h:VB v x1 x2 x3 w) (y:Int):VB v y x2 x3 (w.setCell ⟨v,0,none⟩ (.int .i64 y)):=by
 unfold VB at h ⊢;simp [World.setCell,Array.getElem?_modify,h]
theorem VB.set1 {v:Nat} {x1 x2 x3:Int} {w:World} (h:VB v x1 x2 x3 w) (y:Int):VB v x1 y x3 (w.setCell ⟨v,1,none⟩ (.int .i64 y)):=by
 unfold VB at h ⊢;simp [World.setCell,Array.getElem?_modify,h]
theorem VB.set2 {v:Nat} {x1 x2 x3:Int} {w:World} (h:VB v x1 x2 x3 w) (y:Int):VB v x1 x2 y (w.setCell ⟨v,2,none⟩ (.int .i64 y)):=by
 unfold VB at h ⊢;simp [World.setCell,Array.getElem?_modify,h]
theorem RS.other {b v:Nat} {s:ByteArray} {i:Nat} {w:World} (h:RS b s i w) (hn:b ≠ v) (o:Nat) (x:Value):RS b s i (w.setCell ⟨v,o,none⟩ x):=by
 obtain ⟨t,h⟩:=h;exact ⟨t,by rw [<-h];exact heap_setCell_other w _ b x hn⟩
def rest3 (l:List UInt8) (j:Nat) (x1 x2 x3:Int):Int × Nat × Int × Int × Int:=(0,j,x1,x2,x3)
def rest2 (l:List UInt8) (j:Nat) (x1 x2:Int):Int × Nat × Int × Int × Int :=
 if l[j]?=some 46 then (if (rdNum l (j+1)).1=0 then rest3 l (rdNum l (j+1)).2.2 x1 x2 (rdNum l (j+1)).2.1 else ((rdNum l (j+1)).1,(rdNum l (j+1)).2.2,0,0,0)) else (2,j,0,0,0)
def rest1 (l:List UInt8) (j:Nat) (x1:Int):Int × Nat × Int × Int × Int :=
 if l[j]?=some 46 then (if (rdNum l (j+1)).1=0 then rest2 l (rdNum l (j+1)).2.2 x1 (rdNum l (j+1)).2.1 else ((rdNum l (j+1)).1,(rdNum l (j+1)).2.2,0,0,0)) else (2,j,0,0,0)
theorem nums_rest (l:List UInt8):rdNums l=if (rdNum l 0).1=0 then rest1 l (rdNum l 0).2.2 (rdNum l 0).2.1 else ((rdNum l 0).1,(rdNum l 0).2.2,0,0,0):=rfl
theorem num_le (l:List UInt8) (i:Nat) (hi:i<=l.length):(rdNum l i).2.2<=l.length:=by
 have:=runN_le isD l i hi;unfold rdNum
 repeat' split
 all_goals first | exact hi | (simp only;omega)
theorem ip0 (v:Nat) (w:World):(Instr.index 137 (.agg #[.pointer (some ⟨v,0,none⟩),.pointer (some ⟨v,1,none⟩),.pointer (some ⟨v,2,none⟩)]) (.int .i64 0)).run Tryz.prog w=.ok (.pointer (some ⟨v,0,none⟩)) w:=by kernel_rfl
theorem ip1 (v:Nat) (w:World):(Instr.index 137 (.agg #[.pointer (some ⟨v,0,none⟩),.pointer (some ⟨v,1,none⟩),.pointer (some ⟨v,2,none⟩)]) (.int .i64 1)).run Tryz.prog w=.ok (.pointer (some ⟨v,1,none⟩)) w:=by kernel_rfl
theorem ip2 (v:Nat) (w:World):(Instr.index 137 (.agg #[.pointer (some ⟨v,0,none⟩),.pointer (some ⟨v,1,none⟩),.pointer (some ⟨v,2,none⟩)]) (.int .i64 2)).run Tryz.prog w=.ok (.pointer (some ⟨v,2,none⟩)) w:=by kernel_rfl
set_option maxRecDepth 100000 in
theorem numbers_any (b v:Nat) (s:ByteArray) (w:World) (h:RS b s 0 w) (hv:VB v 0 0 0 w) (hbv:b ≠ v) (hs:s.size < 2 ^ 62) :
  Calls Tryz.prog 49 #[.pointer (some ⟨b,0,none⟩),.pointer (some ⟨v,0,none⟩)] w fun e w'=>e=.returned (.int .i64 (rdNums s.data.toList).1)/\RS b s (rdNums s.data.toList).2.1 w'/\(∃y1 y2 y3,VB v y1 y2 y3 w'/\((rdNums s.data.toList).1=0->(y1,y2,y3)=(rdNums s.data.toList).2.2))/\G2 b v w w':=by
 obtain ⟨l,hl⟩:∃l,l=s.data.toList:=⟨_,rfl⟩;have hll:l.length=s.size:=by rw [hl];simp
 have HLL:Hd (l.length=s.size):=hll;obtain ⟨R,hR⟩:=nm (rdNums l);rw [<-hl,hR];have HNR:=nums_rest l;rw [hR] at HNR;have HR:Hd (R=if (rdNum l 0).1=0 then rest1 l (rdNum l 0).2.2 (rdNum l 0).2.1 else ((rdNum l 0).1,(rdNum l 0).2.2,0,0,0)):=HNR;have CN:Hd (∀i w,i<=s.size->RS b s i w->Calls Tryz.prog 67 #[.pointer (some ⟨b,0,none⟩)] w fun e w'=>e=.returned (.tuple #[.int .i64 (rdNum l i).2.1,.int .i64 (rdNum l i).1])/\RS b s (rdNum l i).2.2 w'/\w.grownBy w' (some b)):=fun i w hi h=>by rw [hl];exact num_any b s i w hi h hs
 have TY:Hd (∀i w,l[i]?=some 46->RS b s i w->Calls Tryz.prog 66 #[.pointer (some ⟨b,0,none⟩),.string ⟨#[46]⟩] w fun e w'=>e=.returned (.bool true)/\RS b s (i+1) w'/\w.grownBy w' (some b)):=fun i w hc h=>take_yes b s i 46 w (by rw [<-hl];exact hc) h hs
 have TN:Hd (∀i w,i<=s.size->¬ l[i]?=some 46->RS b s i w->Calls Tryz.prog 66 #[.pointer (some ⟨b,0,none⟩),.string ⟨#[46]⟩] w fun e w'=>e=.returned (.bool false)/\RS b s i w'/\w.grownBy w' (some b)):=fun i w hi hc h=>take_no b s i 46 w hi (by rw [<-hl];exact hc) h hs
 have HI:Hd (RS b s 0 w/\VB v 0 0 0 w):=⟨h,hv⟩;have HBV:Hd (b ≠ v):=hbv;have HNL:Hd (∀i,i<=s.size->(rdNum l i).2.2<=s.size):=fun i hi=>by have:=num_le l i (by rw [hll];exact hi);rw [hll] at this;exact this
 clear hl hll hR HNR h hv hbv hs;go_enter Tryz.func49,Tryz.ntmps49;go_wp2;go_quiet (fail);go_wp2;go_loopw [18] (fun vi wr=>∃(k j:Nat) (x1 x2 x3:Int),vi=.int .i64 k/\j<=s.size/\RS b s j wr/\VB v x1 x2 x3 wr/\G2 b v w wr/\((k=0/\j=0/\x2=0/\x3=0)\/(k=1/\R=rest1 l j x1/\x3=0)\/(k=2/\R=rest2 l j x1 x2)\/(k=3/\R=rest3 l j x1 x2 x3))) (fun vi _=>3 - (intOf vi).toNat)
 case atStart=>exact ⟨0,0,0,0,0,rfl,Nat.zero_le _,HI.o.1.drew _,HI.o.2.drew _,(G2.refl b v w).drew _,Or.inl ⟨rfl,rfl,rfl,rfl⟩⟩
 case round =>
  obtain ⟨k,j,x1,x2,x3,rfl,hj,hrs,hvb,hg2,hcase⟩:=hrel;have HJ:Hd (j<=s.size):=hj;have HRS:Hd (RS b s j wr):=hrs;have HVB:Hd (VB v x1 x2 x3 wr):=hvb;have HG:Hd (G2 b v w wr):=hg2;clear hj hrs hvb hg2
  rcases hcase with ⟨rfl,rfl,hx2,hx3⟩ | ⟨rfl,hrk,hx3⟩ | ⟨rfl,hrk⟩ | ⟨rfl,hrk⟩
  ·have ix:=ip0 v wr;have HX3:Hd (x3=0):=hx3;have HRk:Hd (R=if (rdNum l 0).1=0 then rest1 l (rdNum l 0).2.2 (rdNum l 0).2.1 else ((rdNum l 0).1,(rdNum l 0).2.2,0,0,0)):=HR.o;have HJn:Hd (0<=s.size):=HJ.o;have HRSn:Hd (RS b s 0 wr):=HRS.o;have HVn:Hd (VB v x1 x2 x3 wr):=HVB.o;have HGn:Hd (G2 b v w wr):=HG.o;clear hx2 hx3 HR;have CNJ:Hd (Calls Tryz.prog 67 #[.pointer (some ⟨b,0,none⟩)] wr fun e w'=>e=.returned (.tuple #[.int .i64 (rdNum l (0)).2.1,.int .i64 (rdNum l (0)).1])/\RS b s (rdNum l (0)).2.2 w'/\wr.grownBy w' (some b)):=CN.o (0) wr HJn.o HRSn.o;have HLq:Hd ((rdNum l (0)).2.2<=s.size):=HNL.o (0) HJn.o;obtain ⟨E,hE⟩:=nm ((rdNum l (0)).1);obtain ⟨V,hV⟩:=nm ((rdNum l (0)).2.1);obtain ⟨Q,hQ⟩:=nm ((rdNum l (0)).2.2);rw [hE,hV,hQ] at CNJ;rw [hQ] at HLq;rw [hE,hV,hQ] at HRk;clear hE hV hQ;go_wp2_with (go_at_call 67;refine CNJ.o.mono ?_)
   rintro e wq ⟨rfl,hrq,hgq⟩;have HVq:Hd (VB v x1 x2 x3 wq):=HVn.o.grow hgq (Ne.symm HBV.o);have HGq:Hd (G2 b v w wq):=HGn.o.step hgq;have HRq:Hd (RS b s Q wq):=hrq;clear hrq hgq;have cc:=HVq.o.cell.1;have ff:=HVq.o.f 0
   cases hz:(E == 0) with
   | false =>
    have HZ:Hd (R=(E,Q,0,0,0)):=by show R=_;rw [HRk.o,if_neg (by simpa using hz)]
    go_wp2;go_ret;refine ⟨ret_int (by rw [HZ.o]),by rw [HZ.o];exact HRq.o.other HBV.o _ _,⟨_,_,_,HVq.o.set0 _,fun hh=>?_⟩,HGq.o.set _ _⟩;rw [HZ.o] at hh;exact absurd hh (by simpa using hz)
   | true =>
    have HZ:Hd (R=rest1 l Q V):=by show R=_;rw [HRk.o,if_pos (by simpa using hz)]
    go_wp2;go_roundw
    case rel=>exact ⟨1,Q,V,x2,x3,rfl,HLq.o,HRq.o.other HBV.o _ _,HVq.o.set0 _,HGq.o.set _ _,Or.inr (Or.inl ⟨rfl,HZ.o,HX3.o⟩)⟩
    case measure=>simp [intOf]
  ·have ix:=ip1 v wr;have HX3:Hd (x3=0):=hx3;have HRr:Hd (R=rest1 l j x1):=hrk;clear hrk hx3
   cases hc:decide (l[j]?=some 46) with
   | false =>
    have hc':=of_decide_eq_false hc;have HZ:Hd (R=(2,j,0,0,0)):=by show R=_;rw [HRr.o];unfold rest1;rw [if_neg hc']
    have CT:Hd (Calls Tryz.prog 66 #[.pointer (some ⟨b,0,none⟩),.string ⟨#[46]⟩] wr fun e w'=>e=.returned (.bool false)/\RS b s j w'/\wr.grownBy w' (some b)):=TN.o j wr HJ.o hc' HRS.o;clear hc hc';go_wp2_with (go_at_call 66;refine CT.o.mono ?_);rintro e wt ⟨rfl,hrt,hgt⟩;have HF:Hd (RS b s j wt/\G2 b v w wt):=⟨hrt,HG.o.step hgt⟩;have HVt:Hd (VB v x1 x2 x3 wt):=HVB.o.grow hgt (Ne.symm HBV.o);clear hrt hgt;go_wp2;go_ret;refine ⟨ret_int (by rw [HZ.o]),by rw [HZ.o];exact HF.o.1,⟨_,_,_,HVt.o,fun hh=>?_⟩,HF.o.2⟩;rw [HZ.o] at hh;exact absurd hh (by show ¬ (2:Int)=0;decide)
   | true =>
    have hc':=of_decide_eq_true hc;have HRk:Hd (R=if (rdNum l (j+1)).1=0 then rest2 l (rdNum l (j+1)).2.2 x1 (rdNum l (j+1)).2.1 else ((rdNum l (j+1)).1,(rdNum l (j+1)).2.2,0,0,0)):=by show R=_;rw [HRr.o];unfold rest1;rw [if_pos hc']
    have CT:Hd (Calls Tryz.prog 66 #[.pointer (some ⟨b,0,none⟩),.string ⟨#[46]⟩] wr fun e w'=>e=.returned (.bool true)/\RS b s (j+1) w'/\wr.grownBy w' (some b)):=TY.o j wr hc' HRS.o;have HJn:Hd (j+1<=s.size):=by have:=(List.getElem?_eq_some_iff.1 hc').1;rw [HLL.o] at this;exact this
    clear hc hc';go_wp2_with (go_at_call 66;refine CT.o.mono ?_);rintro e wt ⟨rfl,hrt,hgt⟩;have HRSn:Hd (RS b s (j+1) wt):=hrt;have HVn:Hd (VB v x1 x2 x3 wt):=HVB.o.grow hgt (Ne.symm HBV.o);have HGn:Hd (G2 b v w wt):=HG.o.step hgt;clear hrt hgt;have CNJ:Hd (Calls Tryz.prog 67 #[.pointer (some ⟨b,0,none⟩)] wt fun e w'=>e=.returned (.tuple #[.int .i64 (rdNum l (j+1)).2.1,.int .i64 (rdNum l (j+1)).1])/\RS b s (rdNum l (j+1)).2.2 w'/\wt.grownBy w' (some b)):=CN.o (j+1) wt HJn.o HRSn.o;have HLq:Hd ((rdNum l (j+1)).2.2<=s.size):=HNL.o (j+1) HJn.o;obtain ⟨E,hE⟩:=nm ((rdNum l (j+1)).1);obtain ⟨V,hV⟩:=nm ((rdNum l (j+1)).2.1);obtain ⟨Q,hQ⟩:=nm ((rdNum l (j+1)).2.2);rw [hE,hV,hQ] at CNJ;rw [hQ] at HLq;rw [hE,hV,hQ] at HRk;clear hE hV hQ;go_wp2_with (go_at_call 67;refine CNJ.o.mono ?_);rintro e wq ⟨rfl,hrq,hgq⟩;have HVq:Hd (VB v x1 x2 x3 wq):=HVn.o.grow hgq (Ne.symm HBV.o)
    have HGq:Hd (G2 b v w wq):=HGn.o.step hgq;have HRq:Hd (RS b s Q wq):=hrq;clear hrq hgq;have cc:=HVq.o.cell.2.1;have ff:=HVq.o.f 1
    cases hz:(E == 0) with
    | false =>
     have HZ:Hd (R=(E,Q,0,0,0)):=by show R=_;rw [HRk.o,if_neg (by simpa using hz)]
     go_wp2;go_ret;refine ⟨ret_int (by rw [HZ.o]),by rw [HZ.o];exact HRq.o.other HBV.o _ _,⟨_,_,_,HVq.o.set1 _,fun hh=>?_⟩,HGq.o.set _ _⟩;rw [HZ.o] at hh;exact absurd hh (by simpa using hz)
    | true =>
     have HZ:Hd (R=rest2 l Q x1 V):=by show R=_;rw [HRk.o,if_pos (by simpa using hz)]
     go_wp2;go_roundw
     case rel=>exact ⟨2,Q,x1,V,x3,rfl,HLq.o,HRq.o.other HBV.o _ _,HVq.o.set1 _,HGq.o.set _ _,Or.inr (Or.inr (Or.inl ⟨rfl,HZ.o⟩))⟩
     case measure=>simp [intOf]
  ·have ix:=ip2 v wr;have HRr:Hd (R=rest2 l j x1 x2):=hrk;clear hrk
   cases hc:decide (l[j]?=some 46) with
   | false =>
    have hc':=of_decide_eq_false hc;have HZ:Hd (R=(2,j,0,0,0)):=by show R=_;rw [HRr.o];unfold rest2;rw [if_neg hc']
    have CT:Hd (Calls Tryz.prog 66 #[.pointer (some ⟨b,0,none⟩),.string ⟨#[46]⟩] wr fun e w'=>e=.returned (.bool false)/\RS b s j w'/\wr.grownBy w' (some b)):=TN.o j wr HJ.o hc' HRS.o;clear hc hc';go_wp2_with (go_at_call 66;refine CT.o.mono ?_);rintro e wt ⟨rfl,hrt,hgt⟩;have HF:Hd (RS b s j wt/\G2 b v w wt):=⟨hrt,HG.o.step hgt⟩;have HVt:Hd (VB v x1 x2 x3 wt):=HVB.o.grow hgt (Ne.symm HBV.o);clear hrt hgt;go_wp2;go_ret;refine ⟨ret_int (by rw [HZ.o]),by rw [HZ.o];exact HF.o.1,⟨_,_,_,HVt.o,fun hh=>?_⟩,HF.o.2⟩;rw [HZ.o] at hh;exact absurd hh (by show ¬ (2:Int)=0;decide)
   | true =>
    have hc':=of_decide_eq_true hc;have HRk:Hd (R=if (rdNum l (j+1)).1=0 then rest3 l (rdNum l (j+1)).2.2 x1 x2 (rdNum l (j+1)).2.1 else ((rdNum l (j+1)).1,(rdNum l (j+1)).2.2,0,0,0)):=by show R=_;rw [HRr.o];unfold rest2;rw [if_pos hc']
    have CT:Hd (Calls Tryz.prog 66 #[.pointer (some ⟨b,0,none⟩),.string ⟨#[46]⟩] wr fun e w'=>e=.returned (.bool true)/\RS b s (j+1) w'/\wr.grownBy w' (some b)):=TY.o j wr hc' HRS.o;have HJn:Hd (j+1<=s.size):=by have:=(List.getElem?_eq_some_iff.1 hc').1;rw [HLL.o] at this;exact this
    clear hc hc';go_wp2_with (go_at_call 66;refine CT.o.mono ?_);rintro e wt ⟨rfl,hrt,hgt⟩;have HRSn:Hd (RS b s (j+1) wt):=hrt;have HVn:Hd (VB v x1 x2 x3 wt):=HVB.o.grow hgt (Ne.symm HBV.o);have HGn:Hd (G2 b v w wt):=HG.o.step hgt;clear hrt hgt;have CNJ:Hd (Calls Tryz.prog 67 #[.pointer (some ⟨b,0,none⟩)] wt fun e w'=>e=.returned (.tuple #[.int .i64 (rdNum l (j+1)).2.1,.int .i64 (rdNum l (j+1)).1])/\RS b s (rdNum l (j+1)).2.2 w'/\wt.grownBy w' (some b)):=CN.o (j+1) wt HJn.o HRSn.o;have HLq:Hd ((rdNum l (j+1)).2.2<=s.size):=HNL.o (j+1) HJn.o;obtain ⟨E,hE⟩:=nm ((rdNum l (j+1)).1);obtain ⟨V,hV⟩:=nm ((rdNum l (j+1)).2.1);obtain ⟨Q,hQ⟩:=nm ((rdNum l (j+1)).2.2);rw [hE,hV,hQ] at CNJ;rw [hQ] at HLq;rw [hE,hV,hQ] at HRk;clear hE hV hQ;go_wp2_with (go_at_call 67;refine CNJ.o.mono ?_);rintro e wq ⟨rfl,hrq,hgq⟩;have HVq:Hd (VB v x1 x2 x3 wq):=HVn.o.grow hgq (Ne.symm HBV.o)
    have HGq:Hd (G2 b v w wq):=HGn.o.step hgq;have HRq:Hd (RS b s Q wq):=hrq;clear hrq hgq;have cc:=HVq.o.cell.2.2;have ff:=HVq.o.f 2
    cases hz:(E == 0) with
    | false =>
     have HZ:Hd (R=(E,Q,0,0,0)):=by show R=_;rw [HRk.o,if_neg (by simpa using hz)]
     go_wp2;go_ret;refine ⟨ret_int (by rw [HZ.o]),by rw [HZ.o];exact HRq.o.other HBV.o _ _,⟨_,_,_,HVq.o.set2 _,fun hh=>?_⟩,HGq.o.set _ _⟩;rw [HZ.o] at hh;exact absurd hh (by simpa using hz)
    | true =>
     have HZ:Hd (R=rest3 l Q x1 x2 V):=by show R=_;rw [HRk.o,if_pos (by simpa using hz)]
     go_wp2;go_roundw
     case rel=>exact ⟨3,Q,x1,x2,V,rfl,HLq.o,HRq.o.other HBV.o _ _,HVq.o.set2 _,HGq.o.set _ _,Or.inr (Or.inr (Or.inr ⟨rfl,HZ.o⟩))⟩
     case measure=>simp [intOf]
  ·have HZ:Hd (R=(0,j,x1,x2,x3)):=hrk;clear hrk;go_wp2;go_ret;refine ⟨ret_int (by rw [HZ.o]),by rw [HZ.o];exact HRS.o,⟨_,_,_,HVB.o,fun _=>by rw [HZ.o]⟩,HG.o⟩
end Go.Proofs.YticgahdffjnabaaGreatDoor
