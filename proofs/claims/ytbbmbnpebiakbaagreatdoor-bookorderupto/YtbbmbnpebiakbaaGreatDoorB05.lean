import Derived.Shelf.Strconv.Clone
import Derived.Test.YtbbmbnpebiakbaaGreatDoorProg
import Derived.Test.YtbbmbnpebiakbaaGreatDoorB01
import Derived.Test.YtbbmbnpebiakbaaGreatDoorB04
import Derived.Deep.RegionHeld3
import Derived.OwnWalk
namespace Go.Proofs
open Go.Shelf
def Tryz.lays316_ren:Go.Shelf.Ren:=⟨fun | 316=>168 | n=>n,fun | 22=>130 | 23=>190 | 24=>110 | 25=>111 | 27=>79 | 28=>165 | 31=>40 | 32=>112 | 33=>90 | 37=>53 | 40=>215 | 41=>95 | 42=>153 | 43=>109 | 46=>102 | 47=>101 | 48=>98 | 51=>134 | 52=>133 | 53=>136 | 54=>135 | 55=>204 | 59=>167 | 60=>168 | 63=>207 | 64=>210 | 67=>94 | 68=>143 | 69=>67 | 70=>52 | 71=>54 | 72=>55 | 73=>116 | 74=>63 | 75=>64 | 76=>65 | 77=>66 | 80=>68 | 81=>120 | 83=>81 | 84=>115 | 100=>84 | 101=>49 | 102=>70 | 103=>39 | 104=>83 | 105=>205 | 106=>206 | 111=>166 | 114=>175 | 115=>196 | 116=>197 | 117=>198 | 118=>199 | 119=>211 | 122=>195 | 123=>200 | 124=>201 | 127=>85 | 131=>72 | 135=>100 | 137=>212 | 138=>213 | 139=>214 | 146=>208 | 151=>209 | 164=>103 | 165=>104 | 166=>179 | 171=>149 | 172=>150 | 173=>151 | 174=>152 | 182=>126 | 183=>127 | 188=>125 | 189=>128 | 190=>129 | 191=>131 | 192=>132 | 211=>176 | 212=>177 | 213=>178 | 218=>154 | 219=>155 | 220=>156 | 222=>158 | 224=>157 | 225=>159 | 228=>180 | 229=>181 | 231=>182 | 232=>202 | 233=>203 | 238=>216 | 239=>217 | 240=>218 | 241=>219 | 242=>220 | 243=>221 | 244=>222 | 245=>223 | 246=>224 | 247=>225 | 248=>226 | 249=>227 | n=>n,fun | 3=>4 | 4=>5 | 17=>0 | 18=>2 | 19=>3 | n=>n⟩
set_option maxRecDepth 100000 in
theorem Tryz.lays316:Go.Proofs.LaysM.n316 Tryz.prog Tryz.lays316_ren:={
 mixed:=by kernel_rfl
 f316:=Tryz.func168.trans (congrArg some (by kernel_rfl))
 t0:=Tryz.underlying0
 a0:=Tryz.isAgg0
 z0:=Tryz.sizeOf0
 v0:=Tryz.zeroValue0
 t3:=Tryz.underlying3
 a3:=Tryz.isAgg3
 z3:=Tryz.sizeOf3
 v3:=Tryz.zeroValue3
 t4:=Tryz.underlying4
 a4:=Tryz.isAgg4
 z4:=Tryz.sizeOf4
 v4:=Tryz.zeroValue4
 t9:=Tryz.underlying9
 a9:=Tryz.isAgg9
 z9:=Tryz.sizeOf9
 v9:=Tryz.zeroValue9
 t37:=Tryz.underlying53
 a37:=Tryz.isAgg53
 z37:=Tryz.sizeOf53
 v37:=Tryz.zeroValue53
 t127:=Tryz.underlying85
 a127:=Tryz.isAgg85
 z127:=Tryz.sizeOf85
 v127:=Tryz.zeroValue85
 t5:=Tryz.underlying5
 a5:=Tryz.isAgg5
 z5:=Tryz.sizeOf5
 v5:=Tryz.zeroValue5
 i0:=by kernel_rfl
 i3:=by kernel_rfl
 i4:=by kernel_rfl
 i5:=by kernel_rfl
 i9:=by kernel_rfl
 i37:=by kernel_rfl
 i127:=by kernel_rfl }
end Go.Proofs
namespace Go.Proofs.YtbbmbnpebiakbaaGreatDoor
open Go.RowKit Go.Shelf
set_option linter.unusedVariables false
theorem cloneL_any (s:ByteArray) (w:World) (hlim:s.size<=281474976710656) :
  Calls Tryz.prog 168 #[.string s] w fun e w'=>e=.returned (.string s)/\Below w.heap.size w w':=Any.stringslite_Clone Tryz.lays316 s w hlim
set_option maxHeartbeats 400000 in
theorem clone_any (s:ByteArray) (w:World) (hlim:s.size<=281474976710656) :
  Calls Tryz.prog 160 #[.string s] w fun e w'=>e=.returned (.string s)/\w.grownBy w' none:=by
 have C:Hid (∀w,Calls Tryz.prog 168 #[.string s] w fun e w'=>e=.returned (.string s)/\Below w.heap.size w w'):=fun w=>cloneL_any s w hlim
 clear hlim
 go_enter Tryz.func160,Tryz.ntmps160
 go_wp2_with (first | (go_at_call 168;refine (C.out _).mono ?_;rintro e w1 ⟨rfl,hb⟩))
 go_ret
 exact ⟨rfl,⟨hb.os,hb.tape,hb.output,hb.size,fun k hk _=>hb.block k hk⟩⟩
end Go.Proofs.YtbbmbnpebiakbaaGreatDoor
namespace Go.Proofs.YtbbmbnpebiakbaaGreatDoor
open Go.RowKit Go.Shelf
set_option linter.unusedVariables false
def partsR (st:Bool) (l:List UInt8) (i:Nat):List UInt8:=if (rdParts st l i).1=0 then subT l i ((rdParts st l i).2 - i) else []
set_option maxHeartbeats 1600000 in
theorem partsP (b:Nat) (s:ByteArray) (i:Nat) (w:World) (hi:i<=s.size) (h:RS b s i w) (hs:s.size<=281474976710656) :
  Calls Tryz.prog 148 #[.pointer (some ⟨b,0,none⟩),.int .i64 0] w fun e w'=>e=.returned (.tuple #[.string ⟨(partsR true s.data.toList i).toArray⟩,.int .i64 (rdParts true s.data.toList i).1])/\RS b s (rdParts true s.data.toList i).2 w'/\w.grownBy w' (some b):=by
 have hsl:s.data.toList.length=s.size:=by simp
 have CS:Hid (Calls Tryz.prog 159 #[.pointer (some ⟨b,0,none⟩),.int .i64 0] w fun e w'=>e=.returned (.int .i64 (rdParts true s.data.toList i).1)/\RS b s (rdParts true s.data.toList i).2 w'/\w.grownBy w' (some b)):=skipP b s i w hi h (by omega)
 have d1:=h.c1
 have hpt:=parts_take true s.data.toList _ i rfl (by rw [hsl];exact hi)
 obtain ⟨P,hP⟩:∃P,P=partsR true s.data.toList i:=⟨_,rfl⟩
 unfold partsR at hP
 have hP0:partsR true s.data.toList i=P:=hP.symm
 rw [hP0]
 obtain ⟨E,Q,hEQ⟩:∃E Q,rdParts true s.data.toList i=(E,Q):=⟨_,_,rfl⟩
 rw [hEQ] at CS hpt hP
 rw [hEQ]
 simp only at hpt hP
 have HP:Hid (P=if E=0 then subT s.data.toList i (Q - i) else []):=hP
 have HPT:Hid (E=0->i < Q/\Q<=s.size):=fun h=>by have:=hpt h;rw [hsl] at this;exact ⟨this.1,this.2.1⟩
 have HS:Hid (s.size<=281474976710656/\s.data.toList.length=s.size):=⟨hs,hsl⟩
 clear hP0 hEQ hpt hP hi h hs hsl
 cases hz:(E == 0) with
 | false =>
  have HZ:Hid (P=[]):=by show P=[];rw [HP.out,if_neg (by simpa using hz)]
  go_enter Tryz.func148,Tryz.ntmps148
  go_wp2_with (go_at_call 159;refine CS.out.mono ?_)
  rintro e w1 rfl hr1 hg1
  have HF:Hid (RS b s Q w1/\w.grownBy w1 (some b)):=⟨hr1,hg1⟩
  clear hr1 hg1
  go_wp2
  refine bodyPost_ret (results_tmp2 rfl _ _ _) rfl ⟨?_,HF.out.1,HF.out.2⟩
  rw [HZ.out];rfl
 | true =>
  have hE:E=0:=by simpa using hz
  have hq:=HPT.out hE
  obtain ⟨X,hX⟩:∃X:ByteArray,X=⟨P.toArray⟩:=⟨_,rfl⟩
  have hPe:P=subT s.data.toList i (Q - i):=by rw [HP.out,if_pos hE]
  have sl:∀wx,(Instr.slice 9 (.string s) (some (.int .i64 (i:Int))) (some (.int .i64 (Q:Int))) none).run Tryz.prog wx=.ok (.string X) wx:=fun wx=>by rw [hX,hPe];exact run_sub s i Q (by omega) hq.2 wx
  have CC:Hid (∀w,Calls Tryz.prog 160 #[.string X] w fun e w'=>e=.returned (.string X)/\w.grownBy w' none):=fun w=>clone_any X w (by
   rw [hX];show P.toArray.size<=_
   have:=sub_len s.data.toList i (Q - i) (by have:=HS.out.2;omega)
   rw [<-hPe] at this
   have h2:=HS.out.1
   simp;omega)
  have HX:Hid (X=⟨P.toArray⟩):=hX
  subst hE
  clear hX hPe hq hz HPT
  go_enter Tryz.func148,Tryz.ntmps148
  go_wp2_with (go_at_call 159;refine CS.out.mono ?_)
  rintro e w1 rfl hr1 hg1
  have HR1:Hid (RS b s Q w1):=hr1
  have HG1:Hid (w.grownBy w1 (some b)):=hg1
  have f0:=hr1.c0
  have f1:=hr1.c1
  clear hr1 hg1
  go_wp2
  go_region_held3 (fun w'=>w'.cell? ⟨b,0,none⟩=some (.string s)/\w'.cell? ⟨b,1,none⟩=some (.int .i64 (Q:Int))) ((first | go_keep | (refine ⟨?_,?_⟩ <;> (refine World.grownBy.cell (by assumption) ?_ (by simp);assumption)))) (first | (go_at_call 160;refine (CC.out _).mono ?_;rintro e w2 ⟨rfl,hg2⟩))
  have HF:Hid (RS b s Q w2/\w.grownBy w2 (some b)):=⟨HR1.out.grow (gb_undrew hg2),gb_trans HG1.out (gb_weak (gb_undrew hg2) _)⟩
  clear hg2
  go_wp2
  refine bodyPost_ret (results_tmp2 rfl _ _ _) rfl ⟨?_,HF.out.1,HF.out.2⟩
  rw [<-HX.out];rfl
set_option maxHeartbeats 1600000 in
theorem partsB (b:Nat) (s:ByteArray) (i:Nat) (w:World) (hi:i<=s.size) (h:RS b s i w) (hs:s.size<=281474976710656) :
  Calls Tryz.prog 148 #[.pointer (some ⟨b,0,none⟩),.int .i64 1] w fun e w'=>e=.returned (.tuple #[.string ⟨(partsR false s.data.toList i).toArray⟩,.int .i64 (rdParts false s.data.toList i).1])/\RS b s (rdParts false s.data.toList i).2 w'/\w.grownBy w' (some b):=by
 have hsl:s.data.toList.length=s.size:=by simp
 have CS:Hid (Calls Tryz.prog 159 #[.pointer (some ⟨b,0,none⟩),.int .i64 1] w fun e w'=>e=.returned (.int .i64 (rdParts false s.data.toList i).1)/\RS b s (rdParts false s.data.toList i).2 w'/\w.grownBy w' (some b)):=skipB b s i w hi h (by omega)
 have d1:=h.c1
 have hpt:=parts_take false s.data.toList _ i rfl (by rw [hsl];exact hi)
 obtain ⟨P,hP⟩:∃P,P=partsR false s.data.toList i:=⟨_,rfl⟩
 unfold partsR at hP
 have hP0:partsR false s.data.toList i=P:=hP.symm
 rw [hP0]
 obtain ⟨E,Q,hEQ⟩:∃E Q,rdParts false s.data.toList i=(E,Q):=⟨_,_,rfl⟩
 rw [hEQ] at CS hpt hP
 rw [hEQ]
 simp only at hpt hP
 have HP:Hid (P=if E=0 then subT s.data.toList i (Q - i) else []):=hP
 have HPT:Hid (E=0->i < Q/\Q<=s.size):=fun h=>by have:=hpt h;rw [hsl] at this;exact ⟨this.1,this.2.1⟩
 have HS:Hid (s.size<=281474976710656/\s.data.toList.length=s.size):=⟨hs,hsl⟩
 clear hP0 hEQ hpt hP hi h hs hsl
 cases hz:(E == 0) with
 | false =>
  have HZ:Hid (P=[]):=by show P=[];rw [HP.out,if_neg (by simpa using hz)]
  go_enter Tryz.func148,Tryz.ntmps148
  go_wp2_with (go_at_call 159;refine CS.out.mono ?_)
  rintro e w1 rfl hr1 hg1
  have HF:Hid (RS b s Q w1/\w.grownBy w1 (some b)):=⟨hr1,hg1⟩
  clear hr1 hg1
  go_wp2
  refine bodyPost_ret (results_tmp2 rfl _ _ _) rfl ⟨?_,HF.out.1,HF.out.2⟩
  rw [HZ.out];rfl
 | true =>
  have hE:E=0:=by simpa using hz
  have hq:=HPT.out hE
  obtain ⟨X,hX⟩:∃X:ByteArray,X=⟨P.toArray⟩:=⟨_,rfl⟩
  have hPe:P=subT s.data.toList i (Q - i):=by rw [HP.out,if_pos hE]
  have sl:∀wx,(Instr.slice 9 (.string s) (some (.int .i64 (i:Int))) (some (.int .i64 (Q:Int))) none).run Tryz.prog wx=.ok (.string X) wx:=fun wx=>by rw [hX,hPe];exact run_sub s i Q (by omega) hq.2 wx
  have CC:Hid (∀w,Calls Tryz.prog 160 #[.string X] w fun e w'=>e=.returned (.string X)/\w.grownBy w' none):=fun w=>clone_any X w (by
   rw [hX];show P.toArray.size<=_
   have:=sub_len s.data.toList i (Q - i) (by have:=HS.out.2;omega)
   rw [<-hPe] at this
   have h2:=HS.out.1
   simp;omega)
  have HX:Hid (X=⟨P.toArray⟩):=hX
  subst hE
  clear hX hPe hq hz HPT
  go_enter Tryz.func148,Tryz.ntmps148
  go_wp2_with (go_at_call 159;refine CS.out.mono ?_)
  rintro e w1 rfl hr1 hg1
  have HR1:Hid (RS b s Q w1):=hr1
  have HG1:Hid (w.grownBy w1 (some b)):=hg1
  have f0:=hr1.c0
  have f1:=hr1.c1
  clear hr1 hg1
  go_wp2
  go_region_held3 (fun w'=>w'.cell? ⟨b,0,none⟩=some (.string s)/\w'.cell? ⟨b,1,none⟩=some (.int .i64 (Q:Int))) ((first | go_keep | (refine ⟨?_,?_⟩ <;> (refine World.grownBy.cell (by assumption) ?_ (by simp);assumption)))) (first | (go_at_call 160;refine (CC.out _).mono ?_;rintro e w2 ⟨rfl,hg2⟩))
  have HF:Hid (RS b s Q w2/\w.grownBy w2 (some b)):=⟨HR1.out.grow (gb_undrew hg2),gb_trans HG1.out (gb_weak (gb_undrew hg2) _)⟩
  clear hg2
  go_wp2
  refine bodyPost_ret (results_tmp2 rfl _ _ _) rfl ⟨?_,HF.out.1,HF.out.2⟩
  rw [<-HX.out];rfl
open Go.RowKit
set_option linter.unusedVariables false
def tailP (l:List UInt8) (i:Nat):Int × Nat × List UInt8 × List UInt8 :=
 if (optP 45 true l i).1=0 then
  (if (optP 43 false l (optP 45 true l i).2.1).1=0 then (0,(optP 43 false l (optP 45 true l i).2.1).2.1,(optP 45 true l i).2.2,(optP 43 false l (optP 45 true l i).2.1).2.2)
  else ((optP 43 false l (optP 45 true l i).2.1).1,(optP 43 false l (optP 45 true l i).2.1).2.1,[],[]))
 else ((optP 45 true l i).1,(optP 45 true l i).2.1,[],[])
theorem opt_yes {c:UInt8} {st:Bool} {l:List UInt8} {i:Nat} (h:l[i]?=some c):optP c st l i=((rdParts st l (i+1)).1,(rdParts st l (i+1)).2,partsR st l (i+1)):=by
 unfold optP partsR;rw [if_pos h]
 by_cases h0:(rdParts st l (i+1)).1=0
 ·rw [if_pos h0,if_pos h0,h0]
 ·rw [if_neg h0,if_neg h0]
theorem opt_no {c:UInt8} {st:Bool} {l:List UInt8} {i:Nat} (h:¬ l[i]?=some c):optP c st l i=(0,i,[]):=by unfold optP;rw [if_neg h]
theorem rest_le {st:Bool} {l:List UInt8} {i:Nat} (hi:i<=l.length) (h:(rdParts st l i).1=0):(rdParts st l i).2<=l.length:=(parts_take st l _ i rfl hi h).2.1
theorem opt_le {c:UInt8} {st:Bool} {l:List UInt8} {i:Nat} (hi:i<=l.length) (h:(optP c st l i).1=0):(optP c st l i).2.1<=l.length:=by
 by_cases hc:l[i]?=some c
 ·rw [opt_yes hc] at h ⊢
  exact rest_le (by have:=(List.getElem?_eq_some_iff.1 hc).1;omega) h
 ·rw [opt_no hc];exact hi
set_option maxRecDepth 100000 in
set_option maxHeartbeats 3200000 in
theorem tail_any (b:Nat) (s:ByteArray) (i:Nat) (w:World) (hi:i<=s.size) (h:RS b s i w) (hs:s.size<=281474976710656) :
  Calls Tryz.prog 127 #[.pointer (some ⟨b,0,none⟩)] w fun e w'=>e=.returned (.tuple #[.string ⟨(tailP s.data.toList i).2.2.1.toArray⟩,.string ⟨(tailP s.data.toList i).2.2.2.toArray⟩,.int .i64 (tailP s.data.toList i).1])/\RS b s (tailP s.data.toList i).2.1 w'/\w.grownBy w' (some b):=by
 have HLL:Hid (s.data.toList.length=s.size):=by show s.data.toList.length=s.size;simp
 have TY:Hid (∀(c:UInt8) i w,s.data.toList[i]?=some c->RS b s i w->Calls Tryz.prog 146 #[.pointer (some ⟨b,0,none⟩),.string ⟨#[c]⟩] w fun e w'=>e=.returned (.bool true)/\RS b s (i+1) w'/\w.grownBy w' (some b)):=fun c i w hc h=>take_yes b s i c w hc h (by omega)
 have TN:Hid (∀(c:UInt8) i w,i<=s.size->¬ s.data.toList[i]?=some c->RS b s i w->Calls Tryz.prog 146 #[.pointer (some ⟨b,0,none⟩),.string ⟨#[c]⟩] w fun e w'=>e=.returned (.bool false)/\RS b s i w'/\w.grownBy w' (some b)):=fun c i w hi hc h=>take_no b s i c w hi hc h (by omega)
 have PP:Hid (∀i w,i<=s.size->RS b s i w->Calls Tryz.prog 148 #[.pointer (some ⟨b,0,none⟩),.int .i64 0] w fun e w'=>e=.returned (.tuple #[.string ⟨(partsR true s.data.toList i).toArray⟩,.int .i64 (rdParts true s.data.toList i).1])/\RS b s (rdParts true s.data.toList i).2 w'/\w.grownBy w' (some b)):=fun i w hi h=>partsP b s i w hi h (by omega)
 have PB:Hid (∀i w,i<=s.size->RS b s i w->Calls Tryz.prog 148 #[.pointer (some ⟨b,0,none⟩),.int .i64 1] w fun e w'=>e=.returned (.tuple #[.string ⟨(partsR false s.data.toList i).toArray⟩,.int .i64 (rdParts false s.data.toList i).1])/\RS b s (rdParts false s.data.toList i).2 w'/\w.grownBy w' (some b)):=fun i w hi h=>partsB b s i w hi h (by omega)
 have HI:Hid (RS b s i w):=h
 have HIi:Hid (i<=s.size):=hi
 obtain ⟨E,J,P,B,hT⟩:∃E J P B,tailP s.data.toList i=(E,J,P,B):=⟨_,_,_,_,rfl⟩
 rw [hT]
 have HT:Hid (tailP s.data.toList i=(E,J,P,B)):=hT
 clear hT h hi hs
 cases hc1:decide (s.data.toList[i]?=some 45) with
 | false =>
  have hc':=of_decide_eq_false hc1
  have HO1:Hid (optP 45 true s.data.toList (i)=(0,i,[])):=opt_no hc'
  have CT:Hid (Calls Tryz.prog 146 #[.pointer (some ⟨b,0,none⟩),.string ⟨#[45]⟩] w fun e w'=>e=.returned (.bool false)/\RS b s (i) w'/\w.grownBy w' (some b)):=TN.out 45 (i) w HIi.out hc' HI.out
  have HJ:Hid (i<=s.size):=HIi.out
  clear hc1 hc'
  go_enter Tryz.func127,Tryz.ntmps127
  go_wp2_with (first | (go_at_call 146;refine CT.out.mono ?_))
  rintro e u1 ⟨rfl,hr,hg⟩
  have HR1:Hid (RS b s i u1):=hr
  have HG1:Hid (w.grownBy u1 (some b)):=hg
  clear hr hg
  cases hc2:decide (s.data.toList[i]?=some 43) with
  | false =>
   have hc':=of_decide_eq_false hc2
   have HO2:Hid (optP 43 false s.data.toList (i)=(0,i,[])):=opt_no hc'
   have CT:Hid (Calls Tryz.prog 146 #[.pointer (some ⟨b,0,none⟩),.string ⟨#[43]⟩] u1 fun e w'=>e=.returned (.bool false)/\RS b s (i) w'/\u1.grownBy w' (some b)):=TN.out 43 (i) u1 HJ.out hc' HR1.out
   clear hc2 hc'
   go_wp2_with (first | (go_at_call 146;refine CT.out.mono ?_))
   rintro e v1 ⟨rfl,hr,hg⟩
   have HF:Hid (RS b s (i) v1/\w.grownBy v1 (some b)):=⟨hr,gb_trans HG1.out hg⟩
   clear hr hg
   have HV:Hid (E=0/\J=i/\P=[]/\B=[]):=by
    have e:=HT.out
    unfold tailP at e
    rw [HO1.out] at e
    simp only [if_true] at e
    rw [HO2.out] at e
    simp only [if_true] at e
    exact ⟨(congrArg Prod.fst e).symm,(congrArg (·.2.1) e).symm,(congrArg (·.2.2.1) e).symm,(congrArg (·.2.2.2) e).symm⟩
   go_wp2
   refine bodyPost_ret (results_tmp3 rfl _ _ _) rfl ⟨?_,by rw [HV.out.2.1];exact HF.out.1,HF.out.2⟩
   rw [HV.out.1,HV.out.2.2.1,HV.out.2.2.2];rfl
  | true =>
   have hc':=of_decide_eq_true hc2
   have hO2:optP 43 false s.data.toList (i)=((rdParts false s.data.toList (i+1)).1,(rdParts false s.data.toList (i+1)).2,partsR false s.data.toList (i+1)):=opt_yes hc'
   have CT:Hid (Calls Tryz.prog 146 #[.pointer (some ⟨b,0,none⟩),.string ⟨#[43]⟩] u1 fun e w'=>e=.returned (.bool true)/\RS b s (i+1) w'/\u1.grownBy w' (some b)):=TY.out 43 (i) u1 hc' HR1.out
   have HJ2:Hid (i+1<=s.size):=by have:=(List.getElem?_eq_some_iff.1 hc').1;rw [HLL.out] at this;exact this
   have CB:Hid (∀w,RS b s (i+1) w->Calls Tryz.prog 148 #[.pointer (some ⟨b,0,none⟩),.int .i64 1] w fun e w'=>e=.returned (.tuple #[.string ⟨(partsR false s.data.toList (i+1)).toArray⟩,.int .i64 (rdParts false s.data.toList (i+1)).1])/\RS b s (rdParts false s.data.toList (i+1)).2 w'/\w.grownBy w' (some b)):=fun w h=>PB.out (i+1) w HJ2.out h
   obtain ⟨E2,J2,hE2⟩:∃E J,rdParts false s.data.toList (i+1)=(E,J):=⟨_,_,rfl⟩
   obtain ⟨P2,hP2⟩:∃P,partsR false s.data.toList (i+1)=P:=⟨_,rfl⟩
   have hPe:¬ E2=0->P2=[]:=fun h=>by rw [<-hP2];unfold partsR;rw [hE2,if_neg h]
   rw [hE2,hP2] at CB hO2
   simp only at CB hO2
   have HO2:Hid (optP 43 false s.data.toList (i)=(E2,J2,P2)):=hO2
   have HPe:Hid (¬ E2=0->P2=[]):=hPe
   clear hc2 hc' hE2 hP2 hO2 hPe
   go_wp2_with (first | (go_at_call 146;refine CT.out.mono ?_))
   rintro e v1 ⟨rfl,hr,hg⟩
   have HRv:Hid (RS b s (i+1) v1):=hr
   have HGv:Hid (w.grownBy v1 (some b)):=gb_trans HG1.out hg
   clear hr hg
   have CBv:Hid (Calls Tryz.prog 148 #[.pointer (some ⟨b,0,none⟩),.int .i64 1] v1 fun e w'=>e=.returned (.tuple #[.string ⟨P2.toArray⟩,.int .i64 E2])/\RS b s J2 w'/\v1.grownBy w' (some b)):=CB.out v1 HRv.out
   go_wp2_with (first | (go_at_call 148;refine CBv.out.mono ?_))
   rintro e v2 ⟨rfl,hr,hg⟩
   have HF:Hid (RS b s J2 v2/\w.grownBy v2 (some b)):=⟨hr,gb_trans HGv.out hg⟩
   clear hr hg
   cases hz2:(E2 == 0) with
   | false =>
    have h0:¬ E2=0:=by simpa using hz2
    have HV:Hid (E=E2/\J=J2/\P=[]/\B=[]):=by
     have e:=HT.out
     unfold tailP at e
     rw [HO1.out] at e
     simp only [if_true] at e
     rw [HO2.out] at e
     simp only [if_neg h0] at e
     exact ⟨(congrArg Prod.fst e).symm,(congrArg (·.2.1) e).symm,(congrArg (·.2.2.1) e).symm,(congrArg (·.2.2.2) e).symm⟩
    clear h0
    go_wp2
    refine bodyPost_ret (results_tmp3 rfl _ _ _) rfl ⟨?_,by rw [HV.out.2.1];exact HF.out.1,HF.out.2⟩
    rw [HV.out.1,HV.out.2.2.1,HV.out.2.2.2];rfl
   | true =>
    have h0:E2=0:=by simpa using hz2
    subst h0
    have HV:Hid (E=0/\J=J2/\P=[]/\B=P2):=by
     have e:=HT.out
     unfold tailP at e
     rw [HO1.out] at e
     simp only [if_true] at e
     rw [HO2.out] at e
     simp only [if_true] at e
     exact ⟨(congrArg Prod.fst e).symm,(congrArg (·.2.1) e).symm,(congrArg (·.2.2.1) e).symm,(congrArg (·.2.2.2) e).symm⟩
    go_wp2
    refine bodyPost_ret (results_tmp3 rfl _ _ _) rfl ⟨?_,by rw [HV.out.2.1];exact HF.out.1,HF.out.2⟩
    rw [HV.out.1,HV.out.2.2.1,HV.out.2.2.2];rfl
 | true =>
  have hc':=of_decide_eq_true hc1
  have hO1:optP 45 true s.data.toList (i)=((rdParts true s.data.toList (i+1)).1,(rdParts true s.data.toList (i+1)).2,partsR true s.data.toList (i+1)):=opt_yes hc'
  have CT:Hid (Calls Tryz.prog 146 #[.pointer (some ⟨b,0,none⟩),.string ⟨#[45]⟩] w fun e w'=>e=.returned (.bool true)/\RS b s (i+1) w'/\w.grownBy w' (some b)):=TY.out 45 (i) w hc' HI.out
  have HJ1:Hid (i+1<=s.size):=by have:=(List.getElem?_eq_some_iff.1 hc').1;rw [HLL.out] at this;exact this
  have CA:Hid (∀w,RS b s (i+1) w->Calls Tryz.prog 148 #[.pointer (some ⟨b,0,none⟩),.int .i64 0] w fun e w'=>e=.returned (.tuple #[.string ⟨(partsR true s.data.toList (i+1)).toArray⟩,.int .i64 (rdParts true s.data.toList (i+1)).1])/\RS b s (rdParts true s.data.toList (i+1)).2 w'/\w.grownBy w' (some b)):=fun w h=>PP.out (i+1) w HJ1.out h
  have HRL:Hid ((rdParts true s.data.toList (i+1)).1=0->(rdParts true s.data.toList (i+1)).2<=s.size):=fun h=>by have:=rest_le (st:=true) (l:=s.data.toList) (i:=i+1) (by rw [HLL.out];exact HJ1.out) h;rw [HLL.out] at this;exact this
  obtain ⟨E1,J1,hE1⟩:∃E J,rdParts true s.data.toList (i+1)=(E,J):=⟨_,_,rfl⟩
  obtain ⟨P1,hP1⟩:∃P,partsR true s.data.toList (i+1)=P:=⟨_,rfl⟩
  rw [hE1,hP1] at CA hO1
  rw [hE1] at HRL
  simp only at CA hO1 HRL
  have HO1:Hid (optP 45 true s.data.toList (i)=(E1,J1,P1)):=hO1
  clear hc1 hc' hE1 hP1 hO1
  go_enter Tryz.func127,Tryz.ntmps127
  go_wp2_with (first | (go_at_call 146;refine CT.out.mono ?_))
  rintro e u1 ⟨rfl,hr,hg⟩
  have HRu:Hid (RS b s (i+1) u1):=hr
  have HGu:Hid (w.grownBy u1 (some b)):=hg
  clear hr hg
  have CAu:Hid (Calls Tryz.prog 148 #[.pointer (some ⟨b,0,none⟩),.int .i64 0] u1 fun e w'=>e=.returned (.tuple #[.string ⟨P1.toArray⟩,.int .i64 E1])/\RS b s J1 w'/\u1.grownBy w' (some b)):=CA.out u1 HRu.out
  go_wp2_with (first | (go_at_call 148;refine CAu.out.mono ?_))
  rintro e u2 ⟨rfl,hr,hg⟩
  have HR1:Hid (RS b s J1 u2):=hr
  have HG1:Hid (w.grownBy u2 (some b)):=gb_trans HGu.out hg
  clear hr hg
  cases hz1:(E1 == 0) with
  | false =>
   have h0:¬ E1=0:=by simpa using hz1
   have HV:Hid (E=E1/\J=J1/\P=[]/\B=[]):=by
    have e:=HT.out
    unfold tailP at e
    rw [HO1.out] at e
    simp only [if_neg h0] at e
    exact ⟨(congrArg Prod.fst e).symm,(congrArg (·.2.1) e).symm,(congrArg (·.2.2.1) e).symm,(congrArg (·.2.2.2) e).symm⟩
   clear h0
   go_wp2
   refine bodyPost_ret (results_tmp3 rfl _ _ _) rfl ⟨?_,by rw [HV.out.2.1];exact HR1.out,HG1.out⟩
   rw [HV.out.1,HV.out.2.2.1,HV.out.2.2.2];rfl
  | true =>
   have h0:E1=0:=by simpa using hz1
   subst h0
   have HJ:Hid (J1<=s.size):=HRL.out rfl
   clear hz1
   cases hc2:decide (s.data.toList[J1]?=some 43) with
   | false =>
    have hc':=of_decide_eq_false hc2
    have HO2:Hid (optP 43 false s.data.toList (J1)=(0,J1,[])):=opt_no hc'
    have CT:Hid (Calls Tryz.prog 146 #[.pointer (some ⟨b,0,none⟩),.string ⟨#[43]⟩] u2 fun e w'=>e=.returned (.bool false)/\RS b s (J1) w'/\u2.grownBy w' (some b)):=TN.out 43 (J1) u2 HJ.out hc' HR1.out
    clear hc2 hc'
    go_wp2_with (first | (go_at_call 146;refine CT.out.mono ?_))
    rintro e v1 ⟨rfl,hr,hg⟩
    have HF:Hid (RS b s (J1) v1/\w.grownBy v1 (some b)):=⟨hr,gb_trans HG1.out hg⟩
    clear hr hg
    have HV:Hid (E=0/\J=J1/\P=P1/\B=[]):=by
     have e:=HT.out
     unfold tailP at e
     rw [HO1.out] at e
     simp only [if_true] at e
     rw [HO2.out] at e
     simp only [if_true] at e
     exact ⟨(congrArg Prod.fst e).symm,(congrArg (·.2.1) e).symm,(congrArg (·.2.2.1) e).symm,(congrArg (·.2.2.2) e).symm⟩
    go_wp2
    refine bodyPost_ret (results_tmp3 rfl _ _ _) rfl ⟨?_,by rw [HV.out.2.1];exact HF.out.1,HF.out.2⟩
    rw [HV.out.1,HV.out.2.2.1,HV.out.2.2.2];rfl
   | true =>
    have hc':=of_decide_eq_true hc2
    have hO2:optP 43 false s.data.toList (J1)=((rdParts false s.data.toList (J1+1)).1,(rdParts false s.data.toList (J1+1)).2,partsR false s.data.toList (J1+1)):=opt_yes hc'
    have CT:Hid (Calls Tryz.prog 146 #[.pointer (some ⟨b,0,none⟩),.string ⟨#[43]⟩] u2 fun e w'=>e=.returned (.bool true)/\RS b s (J1+1) w'/\u2.grownBy w' (some b)):=TY.out 43 (J1) u2 hc' HR1.out
    have HJ2:Hid (J1+1<=s.size):=by have:=(List.getElem?_eq_some_iff.1 hc').1;rw [HLL.out] at this;exact this
    have CB:Hid (∀w,RS b s (J1+1) w->Calls Tryz.prog 148 #[.pointer (some ⟨b,0,none⟩),.int .i64 1] w fun e w'=>e=.returned (.tuple #[.string ⟨(partsR false s.data.toList (J1+1)).toArray⟩,.int .i64 (rdParts false s.data.toList (J1+1)).1])/\RS b s (rdParts false s.data.toList (J1+1)).2 w'/\w.grownBy w' (some b)):=fun w h=>PB.out (J1+1) w HJ2.out h
    obtain ⟨E2,J2,hE2⟩:∃E J,rdParts false s.data.toList (J1+1)=(E,J):=⟨_,_,rfl⟩
    obtain ⟨P2,hP2⟩:∃P,partsR false s.data.toList (J1+1)=P:=⟨_,rfl⟩
    have hPe:¬ E2=0->P2=[]:=fun h=>by rw [<-hP2];unfold partsR;rw [hE2,if_neg h]
    rw [hE2,hP2] at CB hO2
    simp only at CB hO2
    have HO2:Hid (optP 43 false s.data.toList (J1)=(E2,J2,P2)):=hO2
    have HPe:Hid (¬ E2=0->P2=[]):=hPe
    clear hc2 hc' hE2 hP2 hO2 hPe
    go_wp2_with (first | (go_at_call 146;refine CT.out.mono ?_))
    rintro e v1 ⟨rfl,hr,hg⟩
    have HRv:Hid (RS b s (J1+1) v1):=hr
    have HGv:Hid (w.grownBy v1 (some b)):=gb_trans HG1.out hg
    clear hr hg
    have CBv:Hid (Calls Tryz.prog 148 #[.pointer (some ⟨b,0,none⟩),.int .i64 1] v1 fun e w'=>e=.returned (.tuple #[.string ⟨P2.toArray⟩,.int .i64 E2])/\RS b s J2 w'/\v1.grownBy w' (some b)):=CB.out v1 HRv.out
    go_wp2_with (first | (go_at_call 148;refine CBv.out.mono ?_))
    rintro e v2 ⟨rfl,hr,hg⟩
    have HF:Hid (RS b s J2 v2/\w.grownBy v2 (some b)):=⟨hr,gb_trans HGv.out hg⟩
    clear hr hg
    cases hz2:(E2 == 0) with
    | false =>
     have h0:¬ E2=0:=by simpa using hz2
     have HV:Hid (E=E2/\J=J2/\P=[]/\B=[]):=by
      have e:=HT.out
      unfold tailP at e
      rw [HO1.out] at e
      simp only [if_true] at e
      rw [HO2.out] at e
      simp only [if_neg h0] at e
      exact ⟨(congrArg Prod.fst e).symm,(congrArg (·.2.1) e).symm,(congrArg (·.2.2.1) e).symm,(congrArg (·.2.2.2) e).symm⟩
     clear h0
     go_wp2
     refine bodyPost_ret (results_tmp3 rfl _ _ _) rfl ⟨?_,by rw [HV.out.2.1];exact HF.out.1,HF.out.2⟩
     rw [HV.out.1,HV.out.2.2.1,HV.out.2.2.2];rfl
    | true =>
     have h0:E2=0:=by simpa using hz2
     subst h0
     have HV:Hid (E=0/\J=J2/\P=P1/\B=P2):=by
      have e:=HT.out
      unfold tailP at e
      rw [HO1.out] at e
      simp only [if_true] at e
      rw [HO2.out] at e
      simp only [if_true] at e
      exact ⟨(congrArg Prod.fst e).symm,(congrArg (·.2.1) e).symm,(congrArg (·.2.2.1) e).symm,(congrArg (·.2.2.2) e).symm⟩
     go_wp2
     refine bodyPost_ret (results_tmp3 rfl _ _ _) rfl ⟨?_,by rw [HV.out.2.1];exact HF.out.1,HF.out.2⟩
     rw [HV.out.1,HV.out.2.2.1,HV.out.2.2.2];rfl
open Go.RowKit
set_option linter.unusedVariables false
def VX (v:Nat) (y1 y2 y3:Int) (x4 x5:ByteArray) (w:World):Prop:=w.heap[v]?=some (.cells #[.int .i64 y1,.int .i64 y2,.int .i64 y3,.string x4,.string x5] 105 (0,0))
theorem VX.cells {v:Nat} {y1 y2 y3:Int} {x4 x5:ByteArray} {w:World} (h:VX v y1 y2 y3 x4 x5 w):w.cell? ⟨v,0,none⟩=some (.int .i64 y1)/\w.cell? ⟨v,1,none⟩=some (.int .i64 y2)/\w.cell? ⟨v,2,none⟩=some (.int .i64 y3)/\w.cell? ⟨v,3,none⟩=some (.string x4)/\w.cell? ⟨v,4,none⟩=some (.string x5) :=
 ⟨by rw [Lib.cell_of_heap h];rfl,by rw [Lib.cell_of_heap h];rfl,by rw [Lib.cell_of_heap h];rfl,by rw [Lib.cell_of_heap h];rfl,by rw [Lib.cell_of_heap h];rfl⟩
theorem VX.f {v:Nat} {y1 y2 y3:Int} {x4 x5:ByteArray} {w:World} (h:VX v y1 y2 y3 x4 x5 w) (o:Nat):w.frozen? ⟨v,o,none⟩=false:=Lib.frozen_of_heap h o
theorem VX.grow {b v:Nat} {y1 y2 y3:Int} {x4 x5:ByteArray} {w w':World} (h:VX v y1 y2 y3 x4 x5 w) (hg:w.grownBy w' (some b)) (hn:v ≠ b):VX v y1 y2 y3 x4 x5 w':=by
 unfold VX at h ⊢
 rw [hg.block v ((Array.getElem?_eq_some_iff.1 h).1) (by simpa using hn)];exact h
theorem VX.set3 {v:Nat} {y1 y2 y3:Int} {x4 x5:ByteArray} {w:World} (h:VX v y1 y2 y3 x4 x5 w) (z:ByteArray):VX v y1 y2 y3 z x5 (w.setCell ⟨v,3,none⟩ (.string z)):=by
 unfold VX at h ⊢;simp [World.setCell,Array.getElem?_modify,h]
theorem VX.set4 {v:Nat} {y1 y2 y3:Int} {x4 x5:ByteArray} {w:World} (h:VX v y1 y2 y3 x4 x5 w) (z:ByteArray):VX v y1 y2 y3 x4 z (w.setCell ⟨v,4,none⟩ (.string z)):=by
 unfold VX at h ⊢;simp [World.setCell,Array.getElem?_modify,h]
theorem VX.other {v u:Nat} {y1 y2 y3:Int} {x4 x5:ByteArray} {w:World} (h:VX v y1 y2 y3 x4 x5 w) (hn:v ≠ u) (o:Nat) (x:Value):VX v y1 y2 y3 x4 x5 (w.setCell ⟨u,o,none⟩ x):=by
 unfold VX at h ⊢;rw [<-h];exact heap_setCell_other w _ v x hn
def put5 (w:World) (A:Nat) (y1 y2 y3:Int) (x4 x5:ByteArray):World:=((((w.setCell ⟨A,0,none⟩ (.int .i64 y1)).setCell ⟨A,1,none⟩ (.int .i64 y2)).setCell ⟨A,2,none⟩ (.int .i64 y3)).setCell ⟨A,3,none⟩ (.string x4)).setCell ⟨A,4,none⟩ (.string x5)
theorem put5_row {w:World} {A:Nat} {z1 z2 z3:Int} {z4 z5:ByteArray} (h:VX A z1 z2 z3 z4 z5 w) (y1 y2 y3:Int) (x4 x5:ByteArray):VX A y1 y2 y3 x4 x5 (put5 w A y1 y2 y3 x4 x5):=by
 unfold VX at h ⊢;unfold put5;simp [World.setCell,Array.getElem?_modify,h]
theorem gb_new {b A:Nat} {w W:World} (h:w.grownBy W (some b)) (hA:w.heap.size<=A) (o:Nat) (x:Value):w.grownBy (W.setCell ⟨A,o,none⟩ x) (some b) :=
 ⟨h.os,h.tape,h.output,by simpa [World.setCell] using h.size,fun k hk hn=>by rw [<-h.block k hk hn];exact heap_setCell_other W _ k x (by simp;omega)⟩
theorem put5_gb {b A:Nat} {w W:World} (h:w.grownBy W (some b)) (hA:w.heap.size<=A) (y1 y2 y3:Int) (x4 x5:ByteArray):w.grownBy (put5 W A y1 y2 y3 x4 x5) (some b):=gb_new (gb_new (gb_new (gb_new (gb_new h hA _ _) hA _ _) hA _ _) hA _ _) hA _ _
theorem res_row_tmp {P:Program} {fn:Func} {p u:Tmp} {ty:TypeId} (h:fn.results=#[.cell p ty,.tmp u]) (tmps:Array Value) (w:World) (g:Nat) (t:TypeId) (cs:Array Value) (fr:Nat × Nat) (d:TypeDesc)
  (hp:tmps.getD p undef=.pointer (some ⟨g,0,none⟩)) (hg:w.heap[g]?=some (.cells cs t fr)) (hu:P.underlying ty=some d) (hd:(match d with | .struct _ | .array _ _=>true | _=>false)=true) (hi:(P.info? ty).map (·.size)=some cs.size) :
  (results fn tmps).run P w=.ok (.tuple #[.agg cs,tmps.getD u undef]) w:=by
 rw [results_cell_tmp h,hp]
 simp [asAddr,run_loadVar_row w g t ty cs fr d hg hu hd hi,Result.andThen]
set_option linter.unusedVariables false
theorem res_row_tmp2 {P:Program} {fn:Func} {p u r:Tmp} {ty:TypeId} (h:fn.results=#[.cell p ty,.tmp u,.tmp r]) (tmps:Array Value) (w:World) (g:Nat) (t:TypeId) (cs:Array Value) (fr:Nat × Nat) (d:TypeDesc)
  (hp:tmps.getD p undef=.pointer (some ⟨g,0,none⟩)) (hg:w.heap[g]?=some (.cells cs t fr)) (hu:P.underlying ty=some d) (hd:(match d with | .struct _ | .array _ _=>true | _=>false)=true) (hi:(P.info? ty).map (·.size)=some cs.size) :
  (results fn tmps).run P w=.ok (.tuple #[.agg cs,tmps.getD u undef,tmps.getD r undef]) w:=by
 have hp':tmps[p]?.getD undef=.pointer (some ⟨g,0,none⟩):=by simpa using hp
 simp [results,h,Result.andThen,hp',asAddr,run_loadVar_row w g t ty cs fr d hg hu hd hi]
theorem gb_new0 {A:Nat} {w W:World} (h:w.grownBy W none) (hA:w.heap.size<=A) (o:Nat) (x:Value):w.grownBy (W.setCell ⟨A,o,none⟩ x) none :=
 ⟨h.os,h.tape,h.output,by simpa [World.setCell] using h.size,fun k hk hn=>by rw [<-h.block k hk hn];exact heap_setCell_other W _ k x (by simp;omega)⟩
theorem put5_gb0 {A:Nat} {w W:World} (h:w.grownBy W none) (hA:w.heap.size<=A) (y1 y2 y3:Int) (x4 x5:ByteArray):w.grownBy (put5 W A y1 y2 y3 x4 x5) none:=gb_new0 (gb_new0 (gb_new0 (gb_new0 (gb_new0 h hA _ _) hA _ _) hA _ _) hA _ _) hA _ _
end Go.Proofs.YtbbmbnpebiakbaaGreatDoor
