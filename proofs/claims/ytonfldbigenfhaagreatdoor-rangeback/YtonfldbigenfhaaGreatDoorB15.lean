import Derived.Test.YtonfldbigenfhaaGreatDoorB06
import Derived.Test.YtonfldbigenfhaaGreatDoorB02
import Derived.Deep.RegionHeld3
namespace Go.Proofs.YtonfldbigenfhaaGreatDoor
open Go.RowKit
set_option linter.unusedVariables false
theorem val_take (T:List UInt8) (m:Nat) (hm:m < T.length):valN (T.take (m+1))=10 * valN (T.take m)+((T[m].toNat:Int) - 48):=by
 rw [List.take_succ_eq_append_getElem hm,valN_snoc];rfl
set_option maxHeartbeats 1600000 in
theorem num_any (b:Nat) (s:ByteArray) (i:Nat) (w:World) (hi:i<=s.size) (h:RS b s i w) (hs:s.size < 2 ^ 62) :
  Calls Tryz.prog 134 #[.pointer (some ⟨b,0,none⟩)] w fun e w'=>e=.returned (.tuple #[.int .i64 (rdNum s.data.toList i).2.1,.int .i64 (rdNum s.data.toList i).1])/\RS b s (rdNum s.data.toList i).2.2 w'/\w.grownBy w' (some b):=by
 obtain ⟨E,V,Q,hEQ⟩:∃E V Q,rdNum s.data.toList i=(E,V,Q):=⟨_,_,_,rfl⟩
 rw [hEQ]
 have hsl:s.data.toList.length=s.size:=by simp
 have CR:Hid (Calls Tryz.prog 90 #[.pointer (some ⟨b,0,none⟩),.func (.func 138) #[] #[]] w fun e w'=>e=.returned (.string ⟨(subT s.data.toList i (runN isD s.data.toList i)).toArray⟩)/\RS b s (i+runN isD s.data.toList i) w'/\w.grownBy w' (some b)):=run_digits b s i w hi h hs
 have d1:=h.c1
 have hle:i+runN isD s.data.toList i<=s.size:=by have:=runN_le isD s.data.toList i (by rw [hsl];exact hi);rw [hsl] at this;exact this
 have hln:=sub_len s.data.toList i (runN isD s.data.toList i) (by rw [hsl];exact hle)
 have hall:=sub_all isD s.data.toList i
 have hT0:∀k,0 < k->i+k<=s.data.toList.length->(subT s.data.toList i k)[0]?=s.data.toList[i]?:=by
  intro k hk hik
  unfold subT
  rw [List.getElem?_take_of_lt hk,List.getElem?_drop];rfl
 unfold rdNum at hEQ
 obtain ⟨k,hk⟩:∃k,runN isD s.data.toList i=k:=⟨_,rfl⟩
 rw [hk] at CR hEQ hle hln hall
 have hT0k:=hT0 k
 obtain ⟨T,hT⟩:∃T,subT s.data.toList i k=T:=⟨_,rfl⟩
 rw [hT] at CR hEQ hln hall hT0k
 obtain ⟨X,hX⟩:∃X:ByteArray,X=⟨T.toArray⟩:=⟨_,rfl⟩
 rw [<-hX] at CR
 have HXd:Hid (X.data.toList=T):=by show X.data.toList=T;rw [hX]
 have hXs:X.size=k:=by rw [hX];show T.toArray.size=k;simpa using hln
 have HEQ:Hid ((if k=0 then (2,0,i) else if 1 < k/\s.data.toList[i]?=some 48 then (2,0,i) else if valN T > 999999999 then (3,0,i) else (0,valN T,i+k))=(E,V,Q)):=hEQ
 have HALL:Hid (T.all isD=true/\T.length=k/\(0 < k->T[0]?=s.data.toList[i]?)):=⟨hall,hln,fun h=>hT0k h (by rw [hsl];exact hle)⟩
 clear hk hT hX hEQ hln hall hT0 hT0k h hsl hi
 by_cases hk0:k=0
 ·have e1:=emp_t2 (hXs.trans hk0)
  have HZ:Hid (E=2/\V=0/\Q=i+k):=by
   have:=HEQ.out
   rw [if_pos hk0] at this
   exact ⟨(congrArg Prod.fst this).symm,(congrArg (·.2.1) this).symm,by rw [hk0];exact (congrArg (·.2.2) this).symm⟩
  clear hk0 hXs hle
  go_enter Tryz.func134,Tryz.ntmps134
  go_wp2_with (go_at_call 90;refine CR.out.mono ?_)
  rintro e w1 ⟨rfl,hr1,hg1⟩
  have HF:Hid (RS b s Q w1/\w.grownBy w1 (some b)):=⟨by rw [HZ.out.2.2];exact hr1,hg1⟩
  clear hr1 hg1
  go_wp2
  refine bodyPost_ret (results_tmp2 rfl _ _ _) rfl ⟨?_,HF.out.1,HF.out.2⟩
  rw [HZ.out.1,HZ.out.2.1];rfl
 ·have e1:=emp_f2 (fun h=>hk0 (hXs.symm.trans h))
  obtain ⟨z,hz⟩:∃z,(decide (1 < X.data.toList.length) && decide (X.data.toList[0]?=some 48))=z:=⟨_,rfl⟩
  have CZ:Hid (∀w,Calls Tryz.prog 113 #[.string X] w fun e w'=>e=.returned (.bool z)/\w'=w):=fun w=>by rw [<-hz];exact needless_any X w
  have HZz:Hid (z=decide (1 < k/\s.data.toList[i]?=some 48)):=by
   show z=_
   rw [<-hz,HXd.out,HALL.out.2.1,HALL.out.2.2 (by omega)]
   rw [Bool.eq_iff_iff];simp
  have HK:Hid (¬ k=0):=hk0
  clear hz hk0
  go_enter Tryz.func134,Tryz.ntmps134
  go_wp2_with (go_at_call 90;refine CR.out.mono ?_)
  rintro e w1 ⟨rfl,hr1,hg1⟩
  have HR1:Hid (RS b s (i+k) w1):=hr1
  have HG1:Hid (w.grownBy w1 (some b)):=hg1
  have f1:=hr1.c1
  have f2:=hr1.f1
  clear hr1 hg1
  cases z with
  | true =>
   have HZ:Hid (E=2/\V=0/\Q=i):=by
    have:=HEQ.out
    rw [if_neg HK.out,if_pos (of_decide_eq_true HZz.out.symm)] at this
    exact ⟨(congrArg Prod.fst this).symm,(congrArg (·.2.1) this).symm,(congrArg (·.2.2) this).symm⟩
   go_wp2_with (first | (go_at_call 113;refine (CZ.out _).mono ?_;rintro e w' ⟨rfl,rfl⟩))
   refine bodyPost_ret (results_tmp2 rfl _ _ _) rfl ⟨?_,by rw [HZ.out.2.2];exact HR1.out.set i,gb_set HG1.out _ _⟩
   rw [HZ.out.1,HZ.out.2.1];rfl
  | false =>
   have HV:Hid ((if valN T > 999999999 then (3,0,i) else (0,valN T,i+k))=(E,V,Q)):=by
    have:=HEQ.out
    rw [if_neg HK.out,if_neg (of_decide_eq_false HZz.out.symm)] at this
    exact this
   have kw:=Lib.run_convert_string_bytes (P:=Tryz.prog) w1 9 120 5 X Tryz.underlying9 Tryz.underlying120 Tryz.underlying5
   obtain ⟨W,hW⟩:∃W,Lib.bytesWorld w1 5 X=W:=⟨_,rfl⟩
   have HC:Hid (∀j,(hj:j < X.size)->W.cell? ⟨w1.heap.size,j,none⟩=some (.int .u8 (X[j].toNat:Int))):=by
    show ∀j,(hj:j < X.size)->W.cell? ⟨w1.heap.size,j,none⟩=some (.int .u8 (X[j].toNat:Int))
    intro j hj
    rw [<-hW,Lib.bytesWorld_cell w1 _ X j hj]
    have:X.data.toList.getD j 0=X[j]:=by
     rw [List.getD_eq_getElem?_getD,get_data X j hj];rfl
    rw [this]
   have hgW:w1.grownBy W none:=by rw [<-hW];exact gb_bytes w1 _ X
   rw [hW] at kw
   have HRW:Hid (RS b s (i+k) W):=HR1.out.grow hgW
   have HGW:Hid (w.grownBy W (some b)):=gb_trans HG1.out (gb_weak hgW _)
   have g1:=HRW.out.c1
   have g2:=HRW.out.f1
   clear hW hgW f1 f2
   go_wp2_with (first | (go_at_call 113;refine (CZ.out _).mono ?_;rintro e w' ⟨rfl,rfl⟩))
   have HXk:Hid (X.size=k):=hXs
   have hks:k < 2 ^ 62:=by omega
   clear hXs hle
   go_loop [6,26] (fun vn vi=>∃m:Nat,m<=k/\vi=.int .i64 m/\vn=.int .i64 (valN (T.take m))/\valN (T.take m)<=999999999) (fun _ vi=>k - (intOf vi).toNat)
   case atStart=>exact ⟨0,Nat.zero_le _,rfl,rfl,by show (0:Int)<=_;omega⟩
   case round =>
    obtain ⟨m,hm,rfl,rfl,hvm⟩:=hrel
    by_cases hlt:m < k
    ·have hmT:m < T.length:=by rw [HALL.out.2.1];exact hlt
     have hmX:m < X.size:=by rw [HXk.out];exact hlt
     have hXT:X[m]=T[m]:=by
      have:=get_data X m hmX
      rw [HXd.out,List.getElem?_eq_getElem hmT] at this
      exact (Option.some.inj this).symm
     have cm:=HC.out m hmX
     have hdg:=isD_ge (List.all_eq_true.1 HALL.out.1 T[m] (List.getElem_mem hmT))
     have hvt:=val_take T m hmT
     have hv0:0<=valN (T.take m):=val_nn _ (List.all_eq_true.2 (fun c hc=>List.all_eq_true.1 HALL.out.1 c (List.mem_of_mem_take hc)))
     have hpre:valN (T.take (m+1))<=valN T:=by
      have:=val_prefix (T.take (m+1)) (T.drop (m+1)) (by rw [List.take_append_drop];exact HALL.out.1)
      rw [List.take_append_drop] at this;exact this
     rw [hXT] at cm
     obtain ⟨c,hc⟩:∃c:Int,c=(T[m].toNat:Int):=⟨_,rfl⟩
     rw [<-hc] at cm hvt
     obtain ⟨v,hv⟩:∃v,v=valN (T.take m):=⟨_,rfl⟩
     rw [<-hv] at hvt hv0 hvm
     rw [<-hv]
     have hc0:48<=c/\c<=57:=by omega
     have r1:IntKind.i64.wrap (10 * v)=10 * v:=by rw [IntKind.wrap_i64];omega
     have r2:IntKind.u8.wrap (c - 48)=c - 48:=by rw [IntKind.wrap_u8];omega
     have r3:IntKind.i64.wrap (c - 48)=c - 48:=by rw [IntKind.wrap_i64];omega
     have r4:IntKind.i64.wrap (10 * v+(c - 48))=10 * v+(c - 48):=by rw [IntKind.wrap_i64];omega
     have HVT:Hid (valN (T.take (m+1))=10 * v+(c - 48)/\valN (T.take (m+1))<=valN T):=⟨hvt,hpre⟩
     clear hc hv hXT hdg hvt hpre hmT hmX
     by_cases hbig:999999999 < 10 * v+(c - 48)
     ·have HZ:Hid (E=3/\V=0/\Q=i):=by
       have h1:=HVT.out
       have:=HV.out
       rw [if_pos (by omega)] at this
       exact ⟨(congrArg Prod.fst this).symm,(congrArg (·.2.1) this).symm,(congrArg (·.2.2) this).symm⟩
      go_wp2
      refine bodyPost_ret (results_tmp2 rfl _ _ _) rfl ⟨?_,by rw [HZ.out.2.2];exact HRW.out.set i,gb_set HGW.out _ _⟩
      rw [HZ.out.1,HZ.out.2.1];rfl
     ·go_wp2
      go_round
      case rel=>exact ⟨m+1,by omega,by go_num,by rw [HVT.out.1],by rw [HVT.out.1];omega⟩
      case measure=>simp [intOf];omega
    ·have hmk:m=k:=by omega
     have HTk:Hid (T.take m=T):=by show T.take m=T;rw [hmk];exact List.take_of_length_le (by rw [HALL.out.2.1];exact Nat.le_refl _)
     have HZ:Hid (E=0/\V=valN (T.take m)/\Q=i+k):=by
      have:=HV.out
      rw [HTk.out] at hvm ⊢
      rw [if_neg (by omega)] at this
      exact ⟨(congrArg Prod.fst this).symm,(congrArg (·.2.1) this).symm,(congrArg (·.2.2) this).symm⟩
     clear hmk hm hvm
     go_wp2
     refine bodyPost_ret (results_tmp2 rfl _ _ _) rfl ⟨?_,by rw [HZ.out.2.2];exact HRW.out,HGW.out⟩
     rw [HZ.out.1,HZ.out.2.1];rfl
open Go.RowKit
set_option linter.unusedVariables false
structure G2 (b v:Nat) (w w':World):Prop where
 os:w'.os=w.os
 tape:w'.tape=w.tape
 output:w'.output=w.output
 size:w.heap.size<=w'.heap.size
 block:∀k,k < w.heap.size->k ≠ b->k ≠ v->w'.heap[k]?=w.heap[k]?
theorem G2.refl (b v:Nat) (w:World):G2 b v w w:=⟨rfl,rfl,rfl,Nat.le_refl _,fun _ _ _ _=>rfl⟩
theorem G2.step {b v:Nat} {w w1 w2:World} (h:G2 b v w w1) (hg:w1.grownBy w2 (some b)):G2 b v w w2 :=
 ⟨hg.os.trans h.os,hg.tape.trans h.tape,hg.output.trans h.output,Nat.le_trans h.size hg.size,fun k hk h1 h2=>(hg.block k (Nat.lt_of_lt_of_le hk h.size) (by simpa using h1)).trans (h.block k hk h1 h2)⟩
theorem G2.drew {b v:Nat} {w w1:World} (h:G2 b v w w1) (n:Nat):G2 b v w (w1.drewN n):=⟨h.os,h.tape,h.output,h.size,h.block⟩
theorem G2.set {b v:Nat} {w w1:World} (h:G2 b v w w1) (o:Nat) (x:Value):G2 b v w (w1.setCell ⟨v,o,none⟩ x) :=
 ⟨h.os,h.tape,h.output,by simpa [World.setCell] using h.size,fun k hk h1 h2=>by rw [<-h.block k hk h1 h2];exact heap_setCell_other w1 _ k x (fun e=>h2 e)⟩
def VB (v:Nat) (x1 x2 x3:Int) (w:World):Prop:=w.heap[v]?=some (.cells #[.int .i64 x1,.int .i64 x2,.int .i64 x3,.string ⟨#[]⟩,.string ⟨#[]⟩] 35 (0,0))
theorem VB.cell {v:Nat} {x1 x2 x3:Int} {w:World} (h:VB v x1 x2 x3 w):w.cell? ⟨v,0,none⟩=some (.int .i64 x1)/\w.cell? ⟨v,1,none⟩=some (.int .i64 x2)/\w.cell? ⟨v,2,none⟩=some (.int .i64 x3) :=
 ⟨by rw [Lib.cell_of_heap h];rfl,by rw [Lib.cell_of_heap h];rfl,by rw [Lib.cell_of_heap h];rfl⟩
theorem VB.f {v:Nat} {x1 x2 x3:Int} {w:World} (h:VB v x1 x2 x3 w) (o:Nat):w.frozen? ⟨v,o,none⟩=false:=Lib.frozen_of_heap h o
theorem VB.grow {b v:Nat} {x1 x2 x3:Int} {w w':World} (h:VB v x1 x2 x3 w) (hg:w.grownBy w' (some b)) (hn:v ≠ b):VB v x1 x2 x3 w':=by
 unfold VB at h ⊢
 rw [hg.block v ((Array.getElem?_eq_some_iff.1 h).1) (by simpa using hn)];exact h
theorem VB.drew {v:Nat} {x1 x2 x3:Int} {w:World} (h:VB v x1 x2 x3 w) (n:Nat):VB v x1 x2 x3 (w.drewN n):=h
theorem VB.set0 {v:Nat} {x1 x2 x3:Int} {w:World} (h:VB v x1 x2 x3 w) (y:Int):VB v y x2 x3 (w.setCell ⟨v,0,none⟩ (.int .i64 y)):=by
 unfold VB at h ⊢;simp [World.setCell,Array.getElem?_modify,h]
theorem VB.set1 {v:Nat} {x1 x2 x3:Int} {w:World} (h:VB v x1 x2 x3 w) (y:Int):VB v x1 y x3 (w.setCell ⟨v,1,none⟩ (.int .i64 y)):=by
 unfold VB at h ⊢;simp [World.setCell,Array.getElem?_modify,h]
theorem VB.set2 {v:Nat} {x1 x2 x3:Int} {w:World} (h:VB v x1 x2 x3 w) (y:Int):VB v x1 x2 y (w.setCell ⟨v,2,none⟩ (.int .i64 y)):=by
 unfold VB at h ⊢;simp [World.setCell,Array.getElem?_modify,h]
theorem RS.other {b v:Nat} {s:ByteArray} {i:Nat} {w:World} (h:RS b s i w) (hn:b ≠ v) (o:Nat) (x:Value):RS b s i (w.setCell ⟨v,o,none⟩ x):=by
 obtain ⟨t,h⟩:=h
 exact ⟨t,by rw [<-h];exact heap_setCell_other w _ b x hn⟩
theorem num_le (l:List UInt8) (i:Nat) (hi:i<=l.length):(rdNum l i).2.2<=l.length:=by
 have:=runN_le isD l i hi
 unfold rdNum
 repeat' split
 all_goals first | exact hi | (simp only;omega)
end Go.Proofs.YtonfldbigenfhaaGreatDoor
namespace Go.Proofs.YtonfldbigenfhaaGreatDoor
open Go.RowKit Go.Shelf
set_option linter.unusedVariables false
def partsR (st:Bool) (l:List UInt8) (i:Nat):List UInt8:=if (rdParts st l i).1=0 then subT l i ((rdParts st l i).2 - i) else []
set_option maxHeartbeats 1600000 in
theorem partsP (b:Nat) (s:ByteArray) (i:Nat) (w:World) (hi:i<=s.size) (h:RS b s i w) (hs:s.size<=281474976710656) :
  Calls Tryz.prog 160 #[.pointer (some ⟨b,0,none⟩),.int .i64 0] w fun e w'=>e=.returned (.tuple #[.string ⟨(partsR true s.data.toList i).toArray⟩,.int .i64 (rdParts true s.data.toList i).1])/\RS b s (rdParts true s.data.toList i).2 w'/\w.grownBy w' (some b):=by
 have hsl:s.data.toList.length=s.size:=by simp
 have CS:Hid (Calls Tryz.prog 96 #[.pointer (some ⟨b,0,none⟩),.int .i64 0] w fun e w'=>e=.returned (.int .i64 (rdParts true s.data.toList i).1)/\RS b s (rdParts true s.data.toList i).2 w'/\w.grownBy w' (some b)):=skipP b s i w hi h (by omega)
 have d1:=h.c1
 have hpt:=parts_take true s.data.toList _ i rfl (by rw [hsl];exact hi)
 obtain ⟨P,hP⟩:∃P,P=partsR true s.data.toList i:=⟨_,rfl⟩
 unfold partsR at hP
 have hP0:partsR true s.data.toList i=P:=hP.symm
 rw [hP0]
 obtain ⟨E,Q,hEQ⟩:∃E Q,rdParts true s.data.toList i=(E,Q):=⟨_,_,rfl⟩
 rw [hEQ] at CS hpt hP
 rw [hEQ]
 simp only at hpt hP
 have HP:Hid (P=if E=0 then subT s.data.toList i (Q - i) else []):=hP
 have HPT:Hid (E=0->i < Q/\Q<=s.size):=fun h=>by have:=hpt h;rw [hsl] at this;exact ⟨this.1,this.2.1⟩
 have HS:Hid (s.size<=281474976710656/\s.data.toList.length=s.size):=⟨hs,hsl⟩
 clear hP0 hEQ hpt hP hi h hs hsl
 cases hz:(E == 0) with
 | false =>
  have HZ:Hid (P=[]):=by show P=[];rw [HP.out,if_neg (by simpa using hz)]
  go_enter Tryz.func160,Tryz.ntmps160
  go_wp2_with (go_at_call 96;refine CS.out.mono ?_)
  rintro e w1 rfl hr1 hg1
  have HF:Hid (RS b s Q w1/\w.grownBy w1 (some b)):=⟨hr1,hg1⟩
  clear hr1 hg1
  go_wp2
  refine bodyPost_ret (results_tmp2 rfl _ _ _) rfl ⟨?_,HF.out.1,HF.out.2⟩
  rw [HZ.out];rfl
 | true =>
  have hE:E=0:=by simpa using hz
  have hq:=HPT.out hE
  obtain ⟨X,hX⟩:∃X:ByteArray,X=⟨P.toArray⟩:=⟨_,rfl⟩
  have hPe:P=subT s.data.toList i (Q - i):=by rw [HP.out,if_pos hE]
  have sl:∀wx,(Instr.slice 9 (.string s) (some (.int .i64 (i:Int))) (some (.int .i64 (Q:Int))) none).run Tryz.prog wx=.ok (.string X) wx:=fun wx=>by rw [hX,hPe];exact run_sub s i Q (by omega) hq.2 wx
  have CC:Hid (∀w,Calls Tryz.prog 105 #[.string X] w fun e w'=>e=.returned (.string X)/\w.grownBy w' none):=fun w=>clone_any X w (by
   rw [hX];show P.toArray.size<=_
   have:=sub_len s.data.toList i (Q - i) (by have:=HS.out.2;omega)
   rw [<-hPe] at this
   have h2:=HS.out.1
   simp;omega)
  have HX:Hid (X=⟨P.toArray⟩):=hX
  subst hE
  clear hX hPe hq hz HPT
  go_enter Tryz.func160,Tryz.ntmps160
  go_wp2_with (go_at_call 96;refine CS.out.mono ?_)
  rintro e w1 rfl hr1 hg1
  have HR1:Hid (RS b s Q w1):=hr1
  have HG1:Hid (w.grownBy w1 (some b)):=hg1
  have f0:=hr1.c0
  have f1:=hr1.c1
  clear hr1 hg1
  go_wp2
  go_region_held3 (fun w'=>w'.cell? ⟨b,0,none⟩=some (.string s)/\w'.cell? ⟨b,1,none⟩=some (.int .i64 (Q:Int))) ((first | go_keep | (refine ⟨?_,?_⟩ <;> (refine World.grownBy.cell (by assumption) ?_ (by simp);assumption)))) (first | (go_at_call 105;refine (CC.out _).mono ?_;rintro e w2 ⟨rfl,hg2⟩))
  have HF:Hid (RS b s Q w2/\w.grownBy w2 (some b)):=⟨HR1.out.grow (gb_undrew hg2),gb_trans HG1.out (gb_weak (gb_undrew hg2) _)⟩
  clear hg2
  go_wp2
  refine bodyPost_ret (results_tmp2 rfl _ _ _) rfl ⟨?_,HF.out.1,HF.out.2⟩
  rw [<-HX.out];rfl
set_option maxHeartbeats 1600000 in
theorem partsB (b:Nat) (s:ByteArray) (i:Nat) (w:World) (hi:i<=s.size) (h:RS b s i w) (hs:s.size<=281474976710656) :
  Calls Tryz.prog 160 #[.pointer (some ⟨b,0,none⟩),.int .i64 1] w fun e w'=>e=.returned (.tuple #[.string ⟨(partsR false s.data.toList i).toArray⟩,.int .i64 (rdParts false s.data.toList i).1])/\RS b s (rdParts false s.data.toList i).2 w'/\w.grownBy w' (some b):=by
 have hsl:s.data.toList.length=s.size:=by simp
 have CS:Hid (Calls Tryz.prog 96 #[.pointer (some ⟨b,0,none⟩),.int .i64 1] w fun e w'=>e=.returned (.int .i64 (rdParts false s.data.toList i).1)/\RS b s (rdParts false s.data.toList i).2 w'/\w.grownBy w' (some b)):=skipB b s i w hi h (by omega)
 have d1:=h.c1
 have hpt:=parts_take false s.data.toList _ i rfl (by rw [hsl];exact hi)
 obtain ⟨P,hP⟩:∃P,P=partsR false s.data.toList i:=⟨_,rfl⟩
 unfold partsR at hP
 have hP0:partsR false s.data.toList i=P:=hP.symm
 rw [hP0]
 obtain ⟨E,Q,hEQ⟩:∃E Q,rdParts false s.data.toList i=(E,Q):=⟨_,_,rfl⟩
 rw [hEQ] at CS hpt hP
 rw [hEQ]
 simp only at hpt hP
 have HP:Hid (P=if E=0 then subT s.data.toList i (Q - i) else []):=hP
 have HPT:Hid (E=0->i < Q/\Q<=s.size):=fun h=>by have:=hpt h;rw [hsl] at this;exact ⟨this.1,this.2.1⟩
 have HS:Hid (s.size<=281474976710656/\s.data.toList.length=s.size):=⟨hs,hsl⟩
 clear hP0 hEQ hpt hP hi h hs hsl
 cases hz:(E == 0) with
 | false =>
  have HZ:Hid (P=[]):=by show P=[];rw [HP.out,if_neg (by simpa using hz)]
  go_enter Tryz.func160,Tryz.ntmps160
  go_wp2_with (go_at_call 96;refine CS.out.mono ?_)
  rintro e w1 rfl hr1 hg1
  have HF:Hid (RS b s Q w1/\w.grownBy w1 (some b)):=⟨hr1,hg1⟩
  clear hr1 hg1
  go_wp2
  refine bodyPost_ret (results_tmp2 rfl _ _ _) rfl ⟨?_,HF.out.1,HF.out.2⟩
  rw [HZ.out];rfl
 | true =>
  have hE:E=0:=by simpa using hz
  have hq:=HPT.out hE
  obtain ⟨X,hX⟩:∃X:ByteArray,X=⟨P.toArray⟩:=⟨_,rfl⟩
  have hPe:P=subT s.data.toList i (Q - i):=by rw [HP.out,if_pos hE]
  have sl:∀wx,(Instr.slice 9 (.string s) (some (.int .i64 (i:Int))) (some (.int .i64 (Q:Int))) none).run Tryz.prog wx=.ok (.string X) wx:=fun wx=>by rw [hX,hPe];exact run_sub s i Q (by omega) hq.2 wx
  have CC:Hid (∀w,Calls Tryz.prog 105 #[.string X] w fun e w'=>e=.returned (.string X)/\w.grownBy w' none):=fun w=>clone_any X w (by
   rw [hX];show P.toArray.size<=_
   have:=sub_len s.data.toList i (Q - i) (by have:=HS.out.2;omega)
   rw [<-hPe] at this
   have h2:=HS.out.1
   simp;omega)
  have HX:Hid (X=⟨P.toArray⟩):=hX
  subst hE
  clear hX hPe hq hz HPT
  go_enter Tryz.func160,Tryz.ntmps160
  go_wp2_with (go_at_call 96;refine CS.out.mono ?_)
  rintro e w1 rfl hr1 hg1
  have HR1:Hid (RS b s Q w1):=hr1
  have HG1:Hid (w.grownBy w1 (some b)):=hg1
  have f0:=hr1.c0
  have f1:=hr1.c1
  clear hr1 hg1
  go_wp2
  go_region_held3 (fun w'=>w'.cell? ⟨b,0,none⟩=some (.string s)/\w'.cell? ⟨b,1,none⟩=some (.int .i64 (Q:Int))) ((first | go_keep | (refine ⟨?_,?_⟩ <;> (refine World.grownBy.cell (by assumption) ?_ (by simp);assumption)))) (first | (go_at_call 105;refine (CC.out _).mono ?_;rintro e w2 ⟨rfl,hg2⟩))
  have HF:Hid (RS b s Q w2/\w.grownBy w2 (some b)):=⟨HR1.out.grow (gb_undrew hg2),gb_trans HG1.out (gb_weak (gb_undrew hg2) _)⟩
  clear hg2
  go_wp2
  refine bodyPost_ret (results_tmp2 rfl _ _ _) rfl ⟨?_,HF.out.1,HF.out.2⟩
  rw [<-HX.out];rfl
end Go.Proofs.YtonfldbigenfhaaGreatDoor
