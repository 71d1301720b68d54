import Derived.Test.YtonfldbigenfhaaGreatDoorM06
import Derived.Test.YtonfldbigenfhaaGreatDoorM19
import Derived.Test.YtonfldbigenfhaaGreatDoorM14
import Derived.Test.YtonfldbigenfhaaGreatDoorM15
import Derived.Test.YtonfldbigenfhaaGreatDoorM04
namespace Go.Proofs.YtonfldbigenfhaaGreatDoor
open Go.RowKit
set_option linter.unusedVariables false
theorem rowR2 (w:World) (o1 o2:Obj):((w.alloc o1).alloc o2).heap[w.heap.size+1]?=some o2:=by
 have:=heap_alloc_new (w.alloc o1) o2
 simpa using this
theorem row23 (w:World) (o1 o2 o3:Obj):(((w.alloc o1).alloc o2).alloc o3).heap[w.heap.size+1]?=some o2:=by
 rw [Lib.alloc_old _ _ _ (by simp)];exact rowR2 w o1 o2
theorem add_dot0 (a:ByteArray) (wx:World) (h:a.size < 2 ^ 62):(Op.stringOp .add a ⟨#[46,48]⟩).run Tryz.prog wx=.ok (.string ⟨(a.data.toList++[46,48]).toArray⟩) wx:=by
 have e:a=⟨a.data.toList.toArray⟩:=by cases a;simp
 rw [e,run_string_add_sum wx _ _ (by
  show a.data.toList.toArray.size+2<=_
  have:a.data.toList.toArray.size=a.size:=by simp
  rw [this];omega)]
 rw [show (⟨#[46,48]⟩:ByteArray)=⟨[46,48].toArray⟩ from rfl,ByteArray.mk_append_mk]
set_option maxHeartbeats 800000 in
theorem next_f (a1 a2 a3:Int) (a4 a5:ByteArray) (w:World) (h4:a4.size ≠ 0) (hs:a4.size < 2 ^ 62) :
  Calls Tryz.prog 158 #[.agg #[.int .i64 a1,.int .i64 a2,.int .i64 a3,.string a4,.string a5]] w fun e w'=>e=.returned (.agg #[.int .i64 a1,.int .i64 a2,.int .i64 a3,.string ⟨(a4.data.toList++[46,48]).toArray⟩,.string ⟨#[]⟩])/\w.grownBy w' none:=by
 have c1:=emp_f h4
 obtain ⟨X,hX⟩:∃X:ByteArray,X=⟨(a4.data.toList++[46,48]).toArray⟩:=⟨_,rfl⟩
 have ad:∀wx,(Op.stringOp .add a4 ⟨#[46,48]⟩).run Tryz.prog wx=.ok (.string X) wx:=fun wx=>by rw [hX];exact add_dot0 a4 wx hs
 rw [<-hX]
 clear hX h4
 go_enter Tryz.func158,Tryz.ntmps158
 go_wp2
 exact bodyPost_ret (results_cell_row rfl _ _ (w.heap.size+1) 35 _ (0,0) _ rfl (row23 w _ _ _) Tryz.underlying35 rfl (by kernel_rfl)) rfl ⟨rfl,gb_alloc (gb_alloc (gb_alloc (gb_refl w none) _) _) _⟩
set_option maxHeartbeats 800000 in
theorem next_s (a1 a2 a3:Int) (a4 a5:ByteArray) (w:World) (h4:a4.size=0) (h3:a3 < 4611686018427387904) (h0:-9223372036854775808<=a3) :
  Calls Tryz.prog 158 #[.agg #[.int .i64 a1,.int .i64 a2,.int .i64 a3,.string a4,.string a5]] w fun e w'=>e=.returned (.agg #[.int .i64 a1,.int .i64 a2,.int .i64 (a3+1),.string ⟨#[48]⟩,.string ⟨#[]⟩])/\w.grownBy w' none:=by
 have c1:=emp_t h4
 have wr:IntKind.i64.wrap (a3+1)=a3+1:=by rw [IntKind.wrap_i64];omega
 clear h4
 go_enter Tryz.func158,Tryz.ntmps158
 go_wp2
 exact bodyPost_ret (results_cell_row rfl _ _ (w.heap.size+1) 35 _ (0,0) _ rfl (row23 w _ _ _) Tryz.underlying35 rfl (by kernel_rfl)) rfl ⟨rfl,gb_alloc (gb_alloc (gb_alloc (gb_refl w none) _) _) _⟩
set_option maxHeartbeats 800000 in
theorem next_g (a1 a2 a3:Int) (a4 a5:ByteArray) (w:World) (h4:a4.size=0) (h3:¬ a3 < 4611686018427387904) :
  Calls Tryz.prog 158 #[.agg #[.int .i64 a1,.int .i64 a2,.int .i64 a3,.string a4,.string a5]] w fun e w'=>e=.returned (.agg #[.int .i64 a1,.int .i64 a2,.int .i64 a3,.string ⟨#[48]⟩,.string ⟨#[]⟩])/\w.grownBy w' none:=by
 have c1:=emp_t h4
 clear h4
 go_enter Tryz.func158,Tryz.ntmps158
 go_wp2
 exact bodyPost_ret (results_cell_row rfl _ _ (w.heap.size+1) 35 _ (0,0) _ rfl (row23 w _ _ _) Tryz.underlying35 rfl (by kernel_rfl)) rfl ⟨rfl,gb_alloc (gb_alloc (gb_alloc (gb_refl w none) _) _) _⟩
set_option maxHeartbeats 800000 in
theorem rnext_f (a1 a2 a3:Int) (a4 a5:ByteArray) (w:World) (h4:a4.size ≠ 0) (hs:a4.size < 2 ^ 62) :
  Calls Tryz.prog 66 #[.agg #[.int .i64 a1,.int .i64 a2,.int .i64 a3,.string a4,.string a5]] w fun e w'=>e=.returned (.agg #[.int .i64 a1,.int .i64 a2,.int .i64 a3,.string ⟨(a4.data.toList++[46,48]).toArray⟩,.string ⟨#[]⟩])/\w.grownBy w' none:=by
 have c1:=emp_f h4
 obtain ⟨X,hX⟩:∃X:ByteArray,X=⟨(a4.data.toList++[46,48]).toArray⟩:=⟨_,rfl⟩
 have ad:∀wx,(Op.stringOp .add a4 ⟨#[46,48]⟩).run Tryz.prog wx=.ok (.string X) wx:=fun wx=>by rw [hX];exact add_dot0 a4 wx hs
 rw [<-hX]
 clear hX h4
 go_enter Tryz.func66,Tryz.ntmps66
 go_wp2
 exact bodyPost_ret (results_cell_row rfl _ _ (w.heap.size+1) 39 _ (0,0) _ rfl (rowR2 w _ _) Tryz.underlying39 rfl (by kernel_rfl)) rfl ⟨rfl,gb_alloc (gb_alloc (gb_refl w none) _) _⟩
set_option maxHeartbeats 800000 in
theorem rnext_s (a1 a2 a3:Int) (a4 a5:ByteArray) (w:World) (h4:a4.size=0) (h3:a3 < 4611686018427387904) (h0:-9223372036854775808<=a3) :
  Calls Tryz.prog 66 #[.agg #[.int .i64 a1,.int .i64 a2,.int .i64 a3,.string a4,.string a5]] w fun e w'=>e=.returned (.agg #[.int .i64 a1,.int .i64 a2,.int .i64 (a3+1),.string ⟨#[48]⟩,.string ⟨#[]⟩])/\w.grownBy w' none:=by
 have c1:=emp_t h4
 have wr:IntKind.i64.wrap (a3+1)=a3+1:=by rw [IntKind.wrap_i64];omega
 clear h4
 go_enter Tryz.func66,Tryz.ntmps66
 go_wp2
 exact bodyPost_ret (results_cell_row rfl _ _ (w.heap.size+1) 39 _ (0,0) _ rfl (rowR2 w _ _) Tryz.underlying39 rfl (by kernel_rfl)) rfl ⟨rfl,gb_alloc (gb_alloc (gb_refl w none) _) _⟩
set_option maxHeartbeats 800000 in
theorem rnext_g (a1 a2 a3:Int) (a4 a5:ByteArray) (w:World) (h4:a4.size=0) (h3:¬ a3 < 4611686018427387904) :
  Calls Tryz.prog 66 #[.agg #[.int .i64 a1,.int .i64 a2,.int .i64 a3,.string a4,.string a5]] w fun e w'=>e=.returned (.agg #[.int .i64 a1,.int .i64 a2,.int .i64 a3,.string ⟨#[48]⟩,.string ⟨#[]⟩])/\w.grownBy w' none:=by
 have c1:=emp_t h4
 clear h4
 go_enter Tryz.func66,Tryz.ntmps66
 go_wp2
 exact bodyPost_ret (results_cell_row rfl _ _ (w.heap.size+1) 39 _ (0,0) _ rfl (rowR2 w _ _) Tryz.underlying39 rfl (by kernel_rfl)) rfl ⟨rfl,gb_alloc (gb_alloc (gb_refl w none) _) _⟩
open Go.RowKit
theorem next_both (a1 a2 a3:Int) (a4 a5:ByteArray) (hs:a4.size < 2 ^ 62) (h0:-9223372036854775808<=a3) :
  ∃(n3:Int) (n4:ByteArray),n4.size<=a4.size+2/\(nextV ⟨a1,a2,a3,a4.data.toList⟩=⟨a1,a2,n3,n4.data.toList⟩) ∧
   (∀w,Calls Tryz.prog 158 #[.agg #[.int .i64 a1,.int .i64 a2,.int .i64 a3,.string a4,.string a5]] w fun e w'=>e=.returned (.agg #[.int .i64 a1,.int .i64 a2,.int .i64 n3,.string n4,.string ⟨#[]⟩])/\w.grownBy w' none) ∧
   (∀w,Calls Tryz.prog 66 #[.agg #[.int .i64 a1,.int .i64 a2,.int .i64 a3,.string a4,.string a5]] w fun e w'=>e=.returned (.agg #[.int .i64 a1,.int .i64 a2,.int .i64 n3,.string n4,.string ⟨#[]⟩])/\w.grownBy w' none):=by
 by_cases h4:a4.size=0
 ·have e:a4.data.toList=[]:=List.length_eq_zero_iff.1 (by simpa using h4)
  by_cases h3:a3 < 4611686018427387904
  ·refine ⟨a3+1,⟨#[48]⟩,by show 1<=_;omega,?_,fun w=>next_s a1 a2 a3 a4 a5 w h4 h3 h0,fun w=>rnext_s a1 a2 a3 a4 a5 w h4 h3 h0⟩
   unfold nextV;rw [if_pos e,if_pos h3]
  ·refine ⟨a3,⟨#[48]⟩,by show 1<=_;omega,?_,fun w=>next_g a1 a2 a3 a4 a5 w h4 h3,fun w=>rnext_g a1 a2 a3 a4 a5 w h4 h3⟩
   unfold nextV;rw [if_pos e,if_neg h3]
 ·refine ⟨a3,⟨(a4.data.toList++[46,48]).toArray⟩,?_,?_,fun w=>next_f a1 a2 a3 a4 a5 w h4 hs,fun w=>rnext_f a1 a2 a3 a4 a5 w h4 hs⟩
  ·show (a4.data.toList++[46,48]).toArray.size<=_
   simp
  ·unfold nextV
   rw [if_neg (fun e=>h4 (by have e':a4.data.toList=[]:=e;show a4.data.size=0;rw [<-Array.length_toList,e'];rfl))]
open Go.RowKit
def paVal (p:Pa):Value:=.agg #[.int .i64 p.a,.int .i64 p.b,.int .i64 p.c,.string ⟨(firstV p).pre.toArray⟩,.string ⟨#[]⟩,.int .i64 (p.n:Int)]
def sgV (g:Sg):Value:=.agg #[.int .i64 g.fr.major,.int .i64 g.fr.minor,.int .i64 g.fr.patch,.string ⟨g.fr.pre.toArray⟩,.string ⟨#[]⟩,.int .i64 g.to_.major,.int .i64 g.to_.minor,.int .i64 g.to_.patch,.string ⟨g.to_.pre.toArray⟩,.string ⟨#[]⟩,.bool g.op]
def Ans (f:Nat) (args:Array Value) (v:Value):Prop:=∀w,Calls Tryz.prog f args w fun e w'=>e=.returned v/\w.grownBy w' none
theorem cAlike (p:Pa) (hp:PaOk p) (k:Nat) (hk:k<=3):Ans 129 #[paVal p,.int .i64 (k:Int)] (sgV (alikeG p k)):=by
 intro w
 have hc:k=0\/k=1\/k=2\/k=3:=by omega
 rcases hc with rfl | rfl | rfl | rfl
 ·exact alike0_any p.a p.b p.c p.n ⟨(firstV p).pre.toArray⟩ w hp.a0 hp.b0 hp.c0
 ·exact alike1_any p.a p.b p.c p.n ⟨(firstV p).pre.toArray⟩ w hp.a0 hp.b0 hp.c0
 ·exact alike2_any p.a p.b p.c p.n ⟨(firstV p).pre.toArray⟩ w hp.a0 hp.b0 hp.c0
 ·exact alike3_any p.a p.b p.c p.n ⟨(firstV p).pre.toArray⟩ w hp.a0 hp.b0 hp.c0
theorem cLeading (p:Pa) (hp:PaOk p):Ans 130 #[paVal p] (.int .i64 (leadN p:Int)):=by
 intro w
 unfold paVal leadN
 by_cases h1:p.a=0
 ·by_cases h2:p.b=0
  ·by_cases h3:p.c=0
   ·rw [h1,h2,h3]
    exact leading3_any p.n ⟨(firstV p).pre.toArray⟩ w
   ·rw [if_neg (not_not_intro h1),if_neg (not_not_intro h2),if_pos h3,h1,h2]
    exact leading2_any p.c p.n ⟨(firstV p).pre.toArray⟩ w h3
  ·rw [if_neg (not_not_intro h1),if_pos h2,h1]
   exact leading1_any p.b p.c p.n ⟨(firstV p).pre.toArray⟩ w h2
 ·rw [if_pos h1]
  exact leading0_any p.a p.b p.c p.n ⟨(firstV p).pre.toArray⟩ w h1
theorem lead_le (p:Pa) (hp:PaOk p):leadN p<=3:=by
 have:=hp.n3
 unfold leadN
 repeat' split
 all_goals omega
theorem cNamed (p:Pa) (hp:PaOk p) (hl:p.pre.length < 1000):Ans 127 #[paVal p] (sgV (namedG p)):=by
 intro w
 by_cases h3:p.n=3
 ·obtain ⟨n3,n4,hn,he,h1,h2⟩:=next_both p.a p.b p.c ⟨(firstV p).pre.toArray⟩ ⟨#[]⟩ (by
   show (firstV p).pre.toArray.size < _
   unfold firstV
   rw [if_neg (by omega)]
   simp;omega) (by have:=hp.c0;omega)
  have hG:namedG p=⟨firstV p,nextV (firstV p),false⟩:=by unfold namedG;rw [if_pos h3]
  have hV:nextV (firstV p)=⟨p.a,p.b,n3,n4.data.toList⟩:=by
   rw [<-he];rfl
  have:=named3_any p.a p.b p.c n3 ⟨(firstV p).pre.toArray⟩ n4 w h1
  unfold paVal
  rw [h3,hG,hV]
  unfold sgV
  have e4:(⟨n4.data.toList.toArray⟩:ByteArray)=n4:=by cases n4;simp
  rw [e4]
  exact this
 ·have hn:=hp.n3
  have hG:namedG p=alikeG p p.n:=by unfold namedG;rw [if_neg h3]
  rw [hG]
  exact namedl_any p.a p.b p.c p.n _ _ _ _ _ _ ⟨(firstV p).pre.toArray⟩ _ _ _ _ _ w (by simp;omega) (fun w=>cAlike p hp p.n hn w)
def signF (s:Int):Nat:=if s=1 then 123 else if s=2 then 124 else if s=3 then 125 else if s=4 then 126 else if s=5 then 128 else if s=6 then 131 else 127
theorem cSign (s:Int) (hs:-1<=s/\s<=6) (p:Pa) (hp:PaOk p) (hl:p.pre.length < 1000):Ans (signF s) #[paVal p] (sgV (signG (if s < 0 then 0 else s) p)):=by
 intro w
 have hN:=cNamed p hp hl
 have hss:s=-1\/s=0\/s=1\/s=2\/s=3\/s=4\/s=5\/s=6:=by omega
 rcases hss with rfl | rfl | rfl | rfl | rfl | rfl | rfl | rfl
 ·exact hN w
 ·exact hN w
 ·exact signs1_any p.a p.b p.c p.n ⟨(firstV p).pre.toArray⟩ w
 ·exact upTo_any p.a p.b p.c p.n _ _ _ _ _ _ ⟨(firstV p).pre.toArray⟩ _ _ _ _ _ w hN
 ·show Calls _ _ _ _ fun e w'=>e=.returned (sgV (if (namedG p).op=true then ⟨lowV,lowV,false⟩ else ⟨(namedG p).to_,nilV,true⟩))/\_
  cases ho:(namedG p).op with
  | true =>
   have hN':∀w,Calls Tryz.prog 127 #[paVal p] w fun e w'=>e=.returned (.agg #[.int .i64 (namedG p).fr.major,.int .i64 (namedG p).fr.minor,.int .i64 (namedG p).fr.patch,.string ⟨(namedG p).fr.pre.toArray⟩,.string ⟨#[]⟩,.int .i64 (namedG p).to_.major,.int .i64 (namedG p).to_.minor,.int .i64 (namedG p).to_.patch,.string ⟨(namedG p).to_.pre.toArray⟩,.string ⟨#[]⟩,.bool true])/\w.grownBy w' none:=fun w=>by
    have:=hN w
    unfold sgV at this
    rw [ho] at this
    exact this
   exact behind_o p.a p.b p.c p.n _ _ _ _ _ _ ⟨(firstV p).pre.toArray⟩ _ _ _ _ w hN'
  | false =>
   have hN':∀w,Calls Tryz.prog 127 #[paVal p] w fun e w'=>e=.returned (.agg #[.int .i64 (namedG p).fr.major,.int .i64 (namedG p).fr.minor,.int .i64 (namedG p).fr.patch,.string ⟨(namedG p).fr.pre.toArray⟩,.string ⟨#[]⟩,.int .i64 (namedG p).to_.major,.int .i64 (namedG p).to_.minor,.int .i64 (namedG p).to_.patch,.string ⟨(namedG p).to_.pre.toArray⟩,.string ⟨#[]⟩,.bool false])/\w.grownBy w' none:=fun w=>by
    have:=hN w
    unfold sgV at this
    rw [ho] at this
    exact this
   exact behind_c p.a p.b p.c p.n _ _ _ _ _ _ ⟨(firstV p).pre.toArray⟩ _ _ _ _ w hN'
 ·exact signs2_any p.a p.b p.c p.n ⟨(firstV p).pre.toArray⟩ w
 ·exact caret_any (leadN p:Int) p.a p.b p.c p.n _ _ _ _ _ _ ⟨(firstV p).pre.toArray⟩ _ _ _ _ _ w (cLeading p hp) (cAlike p hp (leadN p) (lead_le p hp))
 ·show Calls _ _ _ _ fun e w'=>e=.returned (sgV (alikeG p (min p.n 2)))/\_
  have hn:p.n=0\/p.n=1\/p.n=2\/p.n=3:=by have:=hp.n3;omega
  have hA:=cAlike p hp (min p.n 2) (by omega)
  unfold paVal at hA ⊢
  rcases hn with h | h | h | h
  ·rw [h] at hA ⊢
   exact tilde0_any p.a p.b p.c _ _ _ _ _ _ ⟨(firstV p).pre.toArray⟩ _ _ _ _ _ w hA
  ·rw [h] at hA ⊢
   exact tilde1_any p.a p.b p.c _ _ _ _ _ _ ⟨(firstV p).pre.toArray⟩ _ _ _ _ _ w hA
  ·rw [h] at hA ⊢
   exact tilde2_any p.a p.b p.c _ _ _ _ _ _ ⟨(firstV p).pre.toArray⟩ _ _ _ _ _ w hA
  ·rw [h] at hA ⊢
   exact tilde3_any p.a p.b p.c _ _ _ _ _ _ ⟨(firstV p).pre.toArray⟩ _ _ _ _ _ w hA
theorem cBetween (p q:Pa) (hq:PaOk q) (hl:q.pre.length < 1000):Ans 109 #[paVal p,paVal q] (sgV (betweenG p q)):=by
 intro w
 exact between_any p.a p.b p.c p.n ⟨(firstV p).pre.toArray⟩ q.a q.b q.c q.n _ _ _ _ _ _ ⟨(firstV q).pre.toArray⟩ _ _ _ _ _ w (cNamed q hq hl)
open Go.RowKit
theorem row2 (w:World) (o1 o2:Obj):((w.alloc o1).alloc o2).heap[w.heap.size+1]?=some o2:=by
 have:=heap_alloc_new (w.alloc o1) o2
 simpa using this
theorem ver_tail (l:List UInt8):rdVer l=if (rdNums l).1=0 then (if (tailP l (rdNums l).2.1).1=0 then (if (tailP l (rdNums l).2.1).2.1 < l.length then (2,(tailP l (rdNums l).2.1).2.1,zeroV) else (0,0,⟨(rdNums l).2.2.1,(rdNums l).2.2.2.1,(rdNums l).2.2.2.2,(tailP l (rdNums l).2.1).2.2.1,(tailP l (rdNums l).2.1).2.2.2⟩)) else ((tailP l (rdNums l).2.1).1,(tailP l (rdNums l).2.1).2.1,zeroV)) else ((rdNums l).1,(rdNums l).2.1,zeroV):=by
 unfold rdVer tailP
 by_cases h1:(rdNums l).1=0
 ·rw [if_pos h1,if_pos h1]
  by_cases h2:(optP 45 true l (rdNums l).2.1).1=0
  ·simp only [if_pos h2]
   by_cases h3:(optP 43 false l (optP 45 true l (rdNums l).2.1).2.1).1=0
   ·simp only [if_pos h3,if_true]
   ·simp only [if_neg h3]
  ·simp only [if_neg h2]
 ·rw [if_neg h1,if_neg h1]
end Go.Proofs.YtonfldbigenfhaaGreatDoor
