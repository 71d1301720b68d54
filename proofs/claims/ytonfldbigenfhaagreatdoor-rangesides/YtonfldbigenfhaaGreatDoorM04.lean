import Derived.Test.YtonfldbigenfhaaGreatDoorM03
import Derived.Shelf.Strconv.Clone
import Derived.Test.YtonfldbigenfhaaGreatDoorProg
import Derived.Test.YtonfldbigenfhaaGreatDoorM02
import Derived.Laws.AppendOwn
import Derived.Deep.RegionLaw
import Derived.Deep.AppendLies
namespace Go.Proofs.YtonfldbigenfhaaGreatDoor
open Go.RowKit
set_option linter.unusedVariables false
theorem val_take (T:List UInt8) (m:Nat) (hm:m < T.length):valN (T.take (m+1))=10 * valN (T.take m)+((T[m].toNat:Int) - 48):=by
 rw [List.take_succ_eq_append_getElem hm,valN_snoc];rfl
set_option maxHeartbeats 1600000 in
theorem num_any (b:Nat) (s:ByteArray) (i:Nat) (w:World) (hi:i<=s.size) (h:RS b s i w) (hs:s.size < 2 ^ 62) :
  Calls Tryz.prog 134 #[.pointer (some ⟨b,0,none⟩)] w fun e w'=>e=.returned (.tuple #[.int .i64 (rdNum s.data.toList i).2.1,.int .i64 (rdNum s.data.toList i).1])/\RS b s (rdNum s.data.toList i).2.2 w'/\w.grownBy w' (some b):=by
 obtain ⟨E,V,Q,hEQ⟩:∃E V Q,rdNum s.data.toList i=(E,V,Q):=⟨_,_,_,rfl⟩
 rw [hEQ]
 have hsl:s.data.toList.length=s.size:=by simp
 have CR:Hid (Calls Tryz.prog 90 #[.pointer (some ⟨b,0,none⟩),.func (.func 138) #[] #[]] w fun e w'=>e=.returned (.string ⟨(subT s.data.toList i (runN isD s.data.toList i)).toArray⟩)/\RS b s (i+runN isD s.data.toList i) w'/\w.grownBy w' (some b)):=run_digits b s i w hi h hs
 have d1:=h.c1
 have hle:i+runN isD s.data.toList i<=s.size:=by have:=runN_le isD s.data.toList i (by rw [hsl];exact hi);rw [hsl] at this;exact this
 have hln:=sub_len s.data.toList i (runN isD s.data.toList i) (by rw [hsl];exact hle)
 have hall:=sub_all isD s.data.toList i
 have hT0:∀k,0 < k->i+k<=s.data.toList.length->(subT s.data.toList i k)[0]?=s.data.toList[i]?:=by
  intro k hk hik
  unfold subT
  rw [List.getElem?_take_of_lt hk,List.getElem?_drop];rfl
 unfold rdNum at hEQ
 obtain ⟨k,hk⟩:∃k,runN isD s.data.toList i=k:=⟨_,rfl⟩
 rw [hk] at CR hEQ hle hln hall
 have hT0k:=hT0 k
 obtain ⟨T,hT⟩:∃T,subT s.data.toList i k=T:=⟨_,rfl⟩
 rw [hT] at CR hEQ hln hall hT0k
 obtain ⟨X,hX⟩:∃X:ByteArray,X=⟨T.toArray⟩:=⟨_,rfl⟩
 rw [<-hX] at CR
 have HXd:Hid (X.data.toList=T):=by show X.data.toList=T;rw [hX]
 have hXs:X.size=k:=by rw [hX];show T.toArray.size=k;simpa using hln
 have HEQ:Hid ((if k=0 then (2,0,i) else if 1 < k/\s.data.toList[i]?=some 48 then (2,0,i) else if valN T > 999999999 then (3,0,i) else (0,valN T,i+k))=(E,V,Q)):=hEQ
 have HALL:Hid (T.all isD=true/\T.length=k/\(0 < k->T[0]?=s.data.toList[i]?)):=⟨hall,hln,fun h=>hT0k h (by rw [hsl];exact hle)⟩
 clear hk hT hX hEQ hln hall hT0 hT0k h hsl hi
 by_cases hk0:k=0
 ·have e1:=emp_t2 (hXs.trans hk0)
  have HZ:Hid (E=2/\V=0/\Q=i+k):=by
   have:=HEQ.out
   rw [if_pos hk0] at this
   exact ⟨(congrArg Prod.fst this).symm,(congrArg (·.2.1) this).symm,by rw [hk0];exact (congrArg (·.2.2) this).symm⟩
  clear hk0 hXs hle
  go_enter Tryz.func134,Tryz.ntmps134
  go_wp2_with (go_at_call 90;refine CR.out.mono ?_)
  rintro e w1 ⟨rfl,hr1,hg1⟩
  have HF:Hid (RS b s Q w1/\w.grownBy w1 (some b)):=⟨by rw [HZ.out.2.2];exact hr1,hg1⟩
  clear hr1 hg1
  go_wp2
  refine bodyPost_ret (results_tmp2 rfl _ _ _) rfl ⟨?_,HF.out.1,HF.out.2⟩
  rw [HZ.out.1,HZ.out.2.1];rfl
 ·have e1:=emp_f2 (fun h=>hk0 (hXs.symm.trans h))
  obtain ⟨z,hz⟩:∃z,(decide (1 < X.data.toList.length) && decide (X.data.toList[0]?=some 48))=z:=⟨_,rfl⟩
  have CZ:Hid (∀w,Calls Tryz.prog 113 #[.string X] w fun e w'=>e=.returned (.bool z)/\w'=w):=fun w=>by rw [<-hz];exact needless_any X w
  have HZz:Hid (z=decide (1 < k/\s.data.toList[i]?=some 48)):=by
   show z=_
   rw [<-hz,HXd.out,HALL.out.2.1,HALL.out.2.2 (by omega)]
   rw [Bool.eq_iff_iff];simp
  have HK:Hid (¬ k=0):=hk0
  clear hz hk0
  go_enter Tryz.func134,Tryz.ntmps134
  go_wp2_with (go_at_call 90;refine CR.out.mono ?_)
  rintro e w1 ⟨rfl,hr1,hg1⟩
  have HR1:Hid (RS b s (i+k) w1):=hr1
  have HG1:Hid (w.grownBy w1 (some b)):=hg1
  have f1:=hr1.c1
  have f2:=hr1.f1
  clear hr1 hg1
  cases z with
  | true =>
   have HZ:Hid (E=2/\V=0/\Q=i):=by
    have:=HEQ.out
    rw [if_neg HK.out,if_pos (of_decide_eq_true HZz.out.symm)] at this
    exact ⟨(congrArg Prod.fst this).symm,(congrArg (·.2.1) this).symm,(congrArg (·.2.2) this).symm⟩
   go_wp2_with (first | (go_at_call 113;refine (CZ.out _).mono ?_;rintro e w' ⟨rfl,rfl⟩))
   refine bodyPost_ret (results_tmp2 rfl _ _ _) rfl ⟨?_,by rw [HZ.out.2.2];exact HR1.out.set i,gb_set HG1.out _ _⟩
   rw [HZ.out.1,HZ.out.2.1];rfl
  | false =>
   have HV:Hid ((if valN T > 999999999 then (3,0,i) else (0,valN T,i+k))=(E,V,Q)):=by
    have:=HEQ.out
    rw [if_neg HK.out,if_neg (of_decide_eq_false HZz.out.symm)] at this
    exact this
   have kw:=Lib.run_convert_string_bytes (P:=Tryz.prog) w1 9 120 5 X Tryz.underlying9 Tryz.underlying120 Tryz.underlying5
   obtain ⟨W,hW⟩:∃W,Lib.bytesWorld w1 5 X=W:=⟨_,rfl⟩
   have HC:Hid (∀j,(hj:j < X.size)->W.cell? ⟨w1.heap.size,j,none⟩=some (.int .u8 (X[j].toNat:Int))):=by
    show ∀j,(hj:j < X.size)->W.cell? ⟨w1.heap.size,j,none⟩=some (.int .u8 (X[j].toNat:Int))
    intro j hj
    rw [<-hW,Lib.bytesWorld_cell w1 _ X j hj]
    have:X.data.toList.getD j 0=X[j]:=by
     rw [List.getD_eq_getElem?_getD,get_data X j hj];rfl
    rw [this]
   have hgW:w1.grownBy W none:=by rw [<-hW];exact gb_bytes w1 _ X
   rw [hW] at kw
   have HRW:Hid (RS b s (i+k) W):=HR1.out.grow hgW
   have HGW:Hid (w.grownBy W (some b)):=gb_trans HG1.out (gb_weak hgW _)
   have g1:=HRW.out.c1
   have g2:=HRW.out.f1
   clear hW hgW f1 f2
   go_wp2_with (first | (go_at_call 113;refine (CZ.out _).mono ?_;rintro e w' ⟨rfl,rfl⟩))
   have HXk:Hid (X.size=k):=hXs
   have hks:k < 2 ^ 62:=by omega
   clear hXs hle
   go_loop [6,26] (fun vn vi=>∃m:Nat,m<=k/\vi=.int .i64 m/\vn=.int .i64 (valN (T.take m))/\valN (T.take m)<=999999999) (fun _ vi=>k - (intOf vi).toNat)
   case atStart=>exact ⟨0,Nat.zero_le _,rfl,rfl,by show (0:Int)<=_;omega⟩
   case round =>
    obtain ⟨m,hm,rfl,rfl,hvm⟩:=hrel
    by_cases hlt:m < k
    ·have hmT:m < T.length:=by rw [HALL.out.2.1];exact hlt
     have hmX:m < X.size:=by rw [HXk.out];exact hlt
     have hXT:X[m]=T[m]:=by
      have:=get_data X m hmX
      rw [HXd.out,List.getElem?_eq_getElem hmT] at this
      exact (Option.some.inj this).symm
     have cm:=HC.out m hmX
     have hdg:=isD_ge (List.all_eq_true.1 HALL.out.1 T[m] (List.getElem_mem hmT))
     have hvt:=val_take T m hmT
     have hv0:0<=valN (T.take m):=val_nn _ (List.all_eq_true.2 (fun c hc=>List.all_eq_true.1 HALL.out.1 c (List.mem_of_mem_take hc)))
     have hpre:valN (T.take (m+1))<=valN T:=by
      have:=val_prefix (T.take (m+1)) (T.drop (m+1)) (by rw [List.take_append_drop];exact HALL.out.1)
      rw [List.take_append_drop] at this;exact this
     rw [hXT] at cm
     obtain ⟨c,hc⟩:∃c:Int,c=(T[m].toNat:Int):=⟨_,rfl⟩
     rw [<-hc] at cm hvt
     obtain ⟨v,hv⟩:∃v,v=valN (T.take m):=⟨_,rfl⟩
     rw [<-hv] at hvt hv0 hvm
     rw [<-hv]
     have hc0:48<=c/\c<=57:=by omega
     have r1:IntKind.i64.wrap (10 * v)=10 * v:=by rw [IntKind.wrap_i64];omega
     have r2:IntKind.u8.wrap (c - 48)=c - 48:=by rw [IntKind.wrap_u8];omega
     have r3:IntKind.i64.wrap (c - 48)=c - 48:=by rw [IntKind.wrap_i64];omega
     have r4:IntKind.i64.wrap (10 * v+(c - 48))=10 * v+(c - 48):=by rw [IntKind.wrap_i64];omega
     have HVT:Hid (valN (T.take (m+1))=10 * v+(c - 48)/\valN (T.take (m+1))<=valN T):=⟨hvt,hpre⟩
     clear hc hv hXT hdg hvt hpre hmT hmX
     by_cases hbig:999999999 < 10 * v+(c - 48)
     ·have HZ:Hid (E=3/\V=0/\Q=i):=by
       have h1:=HVT.out
       have:=HV.out
       rw [if_pos (by omega)] at this
       exact ⟨(congrArg Prod.fst this).symm,(congrArg (·.2.1) this).symm,(congrArg (·.2.2) this).symm⟩
      go_wp2
      refine bodyPost_ret (results_tmp2 rfl _ _ _) rfl ⟨?_,by rw [HZ.out.2.2];exact HRW.out.set i,gb_set HGW.out _ _⟩
      rw [HZ.out.1,HZ.out.2.1];rfl
     ·go_wp2
      go_round
      case rel=>exact ⟨m+1,by omega,by go_num,by rw [HVT.out.1],by rw [HVT.out.1];omega⟩
      case measure=>simp [intOf];omega
    ·have hmk:m=k:=by omega
     have HTk:Hid (T.take m=T):=by show T.take m=T;rw [hmk];exact List.take_of_length_le (by rw [HALL.out.2.1];exact Nat.le_refl _)
     have HZ:Hid (E=0/\V=valN (T.take m)/\Q=i+k):=by
      have:=HV.out
      rw [HTk.out] at hvm ⊢
      rw [if_neg (by omega)] at this
      exact ⟨(congrArg Prod.fst this).symm,(congrArg (·.2.1) this).symm,(congrArg (·.2.2) this).symm⟩
     clear hmk hm hvm
     go_wp2
     refine bodyPost_ret (results_tmp2 rfl _ _ _) rfl ⟨?_,by rw [HZ.out.2.2];exact HRW.out,HGW.out⟩
     rw [HZ.out.1,HZ.out.2.1];rfl
end Go.Proofs.YtonfldbigenfhaaGreatDoor
namespace Go.Proofs
open Go.Shelf
def Tryz.lays316_ren:Go.Shelf.Ren:=⟨fun | 316=>121 | n=>n,fun | 22=>54 | 23=>170 | 27=>118 | 28=>131 | 31=>93 | 37=>120 | 40=>236 | 41=>113 | 42=>140 | 43=>117 | 46=>178 | 47=>177 | 51=>210 | 52=>209 | 53=>196 | 54=>197 | 55=>213 | 59=>154 | 60=>155 | 63=>217 | 64=>228 | 67=>95 | 68=>112 | 69=>163 | 70=>119 | 71=>121 | 72=>122 | 73=>123 | 74=>124 | 75=>125 | 76=>126 | 77=>127 | 80=>128 | 81=>99 | 83=>98 | 84=>172 | 104=>38 | 105=>215 | 106=>216 | 111=>55 | 112=>97 | 114=>214 | 115=>189 | 116=>190 | 117=>191 | 118=>192 | 119=>232 | 122=>188 | 123=>193 | 124=>194 | 127=>160 | 131=>207 | 137=>233 | 138=>234 | 139=>235 | 146=>226 | 151=>227 | 164=>173 | 165=>174 | 166=>175 | 171=>195 | 172=>198 | 173=>199 | 174=>200 | 182=>202 | 183=>203 | 211=>218 | 212=>219 | 213=>220 | 218=>221 | 219=>222 | 220=>223 | 222=>137 | 228=>229 | 229=>230 | 232=>237 | 233=>238 | 238=>239 | 239=>240 | 240=>241 | 241=>242 | 242=>243 | 243=>244 | 244=>245 | 245=>246 | 246=>247 | 247=>248 | 248=>249 | 249=>250 | n=>n,fun | 1=>0 | 3=>2 | 4=>3 | 17=>1 | 18=>4 | 19=>5 | n=>n⟩
set_option maxRecDepth 100000 in
theorem Tryz.lays316:Go.Proofs.LaysM.n316 Tryz.prog Tryz.lays316_ren:={
 mixed:=by kernel_rfl
 f316:=Tryz.func121.trans (congrArg some (by kernel_rfl))
 t0:=Tryz.underlying0
 a0:=Tryz.isAgg0
 z0:=Tryz.sizeOf0
 v0:=Tryz.zeroValue0
 t3:=Tryz.underlying3
 a3:=Tryz.isAgg3
 z3:=Tryz.sizeOf3
 v3:=Tryz.zeroValue3
 t4:=Tryz.underlying4
 a4:=Tryz.isAgg4
 z4:=Tryz.sizeOf4
 v4:=Tryz.zeroValue4
 t9:=Tryz.underlying9
 a9:=Tryz.isAgg9
 z9:=Tryz.sizeOf9
 v9:=Tryz.zeroValue9
 t37:=Tryz.underlying120
 a37:=Tryz.isAgg120
 z37:=Tryz.sizeOf120
 v37:=Tryz.zeroValue120
 t127:=Tryz.underlying160
 a127:=Tryz.isAgg160
 z127:=Tryz.sizeOf160
 v127:=Tryz.zeroValue160
 t5:=Tryz.underlying5
 a5:=Tryz.isAgg5
 z5:=Tryz.sizeOf5
 v5:=Tryz.zeroValue5
 i0:=by kernel_rfl
 i3:=by kernel_rfl
 i4:=by kernel_rfl
 i5:=by kernel_rfl
 i9:=by kernel_rfl
 i37:=by kernel_rfl
 i127:=by kernel_rfl }
end Go.Proofs
namespace Go.Proofs.YtonfldbigenfhaaGreatDoor
open Go.RowKit Go.Shelf
set_option linter.unusedVariables false
theorem cloneL_any (s:ByteArray) (w:World) (hlim:s.size<=281474976710656) :
  Calls Tryz.prog 121 #[.string s] w fun e w'=>e=.returned (.string s)/\Below w.heap.size w w':=Any.stringslite_Clone Tryz.lays316 s w hlim
set_option maxHeartbeats 400000 in
theorem clone_any (s:ByteArray) (w:World) (hlim:s.size<=281474976710656) :
  Calls Tryz.prog 105 #[.string s] w fun e w'=>e=.returned (.string s)/\w.grownBy w' none:=by
 have C:Hid (∀w,Calls Tryz.prog 121 #[.string s] w fun e w'=>e=.returned (.string s)/\Below w.heap.size w w'):=fun w=>cloneL_any s w hlim
 clear hlim
 go_enter Tryz.func105,Tryz.ntmps105
 go_wp2_with (first | (go_at_call 121;refine (C.out _).mono ?_;rintro e w1 ⟨rfl,hb⟩))
 go_ret
 exact ⟨rfl,⟨hb.os,hb.tape,hb.output,hb.size,fun k hk _=>hb.block k hk⟩⟩
open Go.RowKit
set_option maxHeartbeats 400000 in
theorem vers_any (a1 a2 a3:Int) (a4 a5:ByteArray) (w:World):Calls Tryz.prog 18 #[.agg #[.int .i64 a1,.int .i64 a2,.int .i64 a3,.string a4,.string a5]] w fun e w'=>e=.returned (.agg #[.int .i64 a1,.int .i64 a2,.int .i64 a3,.string a4,.string a5])/\w.grownBy w' none:=by
 go_enter Tryz.func18,Tryz.ntmps18
 go_wp2
 refine bodyPost_ret (results_cell_row rfl _ _ (w.heap.size+1) 35 #[.int .i64 a1,.int .i64 a2,.int .i64 a3,.string a4,.string a5] (0,0) _ rfl ?_ Tryz.underlying35 rfl (by kernel_rfl)) rfl ⟨rfl,gb_alloc (gb_alloc (gb_refl w none) _) _⟩
 have:=heap_alloc_new (w.alloc (.cells #[.int .i64 a1,.int .i64 a2,.int .i64 a3,.string a4,.string a5] 39)) (.cells #[.int .i64 a1,.int .i64 a2,.int .i64 a3,.string a4,.string a5] 35)
 rw [show (w.alloc (.cells #[.int .i64 a1,.int .i64 a2,.int .i64 a3,.string a4,.string a5] 39)).heap.size=w.heap.size+1 by simp] at this
 exact this
def St (A:Nat) (a1 a2 a3:Int) (a4 a5:ByteArray) (w:World):Prop:=w.cell? ⟨A,0,none⟩=some (.int .i64 a1)/\w.cell? ⟨A,1,none⟩=some (.int .i64 a2)/\w.cell? ⟨A,2,none⟩=some (.int .i64 a3)/\w.cell? ⟨A,3,none⟩=some (.string a4)/\w.cell? ⟨A,4,none⟩=some (.string a5)
theorem St.grow {A:Nat} {a1 a2 a3:Int} {a4 a5:ByteArray} {w w':World} (h:St A a1 a2 a3 a4 a5 w) (hg:w.grownBy w' none):St A a1 a2 a3 a4 a5 w' :=
 ⟨hg.cell h.1 (by simp),hg.cell h.2.1 (by simp),hg.cell h.2.2.1 (by simp),hg.cell h.2.2.2.1 (by simp),hg.cell h.2.2.2.2 (by simp)⟩
theorem st_row {A t:Nat} {a1 a2 a3:Int} {a4 a5:ByteArray} {w:World} (h:w.heap[A]?=some (.cells #[.int .i64 a1,.int .i64 a2,.int .i64 a3,.string a4,.string a5] t (0,0))):St A a1 a2 a3 a4 a5 w :=
 ⟨by rw [Lib.cell_of_heap h];rfl,by rw [Lib.cell_of_heap h];rfl,by rw [Lib.cell_of_heap h];rfl,by rw [Lib.cell_of_heap h];rfl,by rw [Lib.cell_of_heap h];rfl⟩
open Go.RowKit
def VX (v:Nat) (y1 y2 y3:Int) (x4 x5:ByteArray) (w:World):Prop:=w.heap[v]?=some (.cells #[.int .i64 y1,.int .i64 y2,.int .i64 y3,.string x4,.string x5] 35 (0,0))
theorem VX.cells {v:Nat} {y1 y2 y3:Int} {x4 x5:ByteArray} {w:World} (h:VX v y1 y2 y3 x4 x5 w):w.cell? ⟨v,0,none⟩=some (.int .i64 y1)/\w.cell? ⟨v,1,none⟩=some (.int .i64 y2)/\w.cell? ⟨v,2,none⟩=some (.int .i64 y3)/\w.cell? ⟨v,3,none⟩=some (.string x4)/\w.cell? ⟨v,4,none⟩=some (.string x5) :=
 ⟨by rw [Lib.cell_of_heap h];rfl,by rw [Lib.cell_of_heap h];rfl,by rw [Lib.cell_of_heap h];rfl,by rw [Lib.cell_of_heap h];rfl,by rw [Lib.cell_of_heap h];rfl⟩
theorem VX.f {v:Nat} {y1 y2 y3:Int} {x4 x5:ByteArray} {w:World} (h:VX v y1 y2 y3 x4 x5 w) (o:Nat):w.frozen? ⟨v,o,none⟩=false:=Lib.frozen_of_heap h o
theorem VX.grow {b v:Nat} {y1 y2 y3:Int} {x4 x5:ByteArray} {w w':World} (h:VX v y1 y2 y3 x4 x5 w) (hg:w.grownBy w' (some b)) (hn:v ≠ b):VX v y1 y2 y3 x4 x5 w':=by
 unfold VX at h ⊢
 rw [hg.block v ((Array.getElem?_eq_some_iff.1 h).1) (by simpa using hn)];exact h
theorem VX.set3 {v:Nat} {y1 y2 y3:Int} {x4 x5:ByteArray} {w:World} (h:VX v y1 y2 y3 x4 x5 w) (z:ByteArray):VX v y1 y2 y3 z x5 (w.setCell ⟨v,3,none⟩ (.string z)):=by
 unfold VX at h ⊢;simp [World.setCell,Array.getElem?_modify,h]
theorem VX.set4 {v:Nat} {y1 y2 y3:Int} {x4 x5:ByteArray} {w:World} (h:VX v y1 y2 y3 x4 x5 w) (z:ByteArray):VX v y1 y2 y3 x4 z (w.setCell ⟨v,4,none⟩ (.string z)):=by
 unfold VX at h ⊢;simp [World.setCell,Array.getElem?_modify,h]
theorem VX.other {v u:Nat} {y1 y2 y3:Int} {x4 x5:ByteArray} {w:World} (h:VX v y1 y2 y3 x4 x5 w) (hn:v ≠ u) (o:Nat) (x:Value):VX v y1 y2 y3 x4 x5 (w.setCell ⟨u,o,none⟩ x):=by
 unfold VX at h ⊢;rw [<-h];exact heap_setCell_other w _ v x hn
def put5 (w:World) (A:Nat) (y1 y2 y3:Int) (x4 x5:ByteArray):World:=((((w.setCell ⟨A,0,none⟩ (.int .i64 y1)).setCell ⟨A,1,none⟩ (.int .i64 y2)).setCell ⟨A,2,none⟩ (.int .i64 y3)).setCell ⟨A,3,none⟩ (.string x4)).setCell ⟨A,4,none⟩ (.string x5)
theorem put5_row {w:World} {A:Nat} {z1 z2 z3:Int} {z4 z5:ByteArray} (h:VX A z1 z2 z3 z4 z5 w) (y1 y2 y3:Int) (x4 x5:ByteArray):VX A y1 y2 y3 x4 x5 (put5 w A y1 y2 y3 x4 x5):=by
 unfold VX at h ⊢;unfold put5;simp [World.setCell,Array.getElem?_modify,h]
theorem gb_new {b A:Nat} {w W:World} (h:w.grownBy W (some b)) (hA:w.heap.size<=A) (o:Nat) (x:Value):w.grownBy (W.setCell ⟨A,o,none⟩ x) (some b) :=
 ⟨h.os,h.tape,h.output,by simpa [World.setCell] using h.size,fun k hk hn=>by rw [<-h.block k hk hn];exact heap_setCell_other W _ k x (by simp;omega)⟩
theorem res_row_tmp {P:Program} {fn:Func} {p u:Tmp} {ty:TypeId} (h:fn.results=#[.cell p ty,.tmp u]) (tmps:Array Value) (w:World) (g:Nat) (t:TypeId) (cs:Array Value) (fr:Nat × Nat) (d:TypeDesc)
  (hp:tmps.getD p undef=.pointer (some ⟨g,0,none⟩)) (hg:w.heap[g]?=some (.cells cs t fr)) (hu:P.underlying ty=some d) (hd:(match d with | .struct _ | .array _ _=>true | _=>false)=true) (hi:(P.info? ty).map (·.size)=some cs.size) :
  (results fn tmps).run P w=.ok (.tuple #[.agg cs,tmps.getD u undef]) w:=by
 rw [results_cell_tmp h,hp]
 simp [asAddr,run_loadVar_row w g t ty cs fr d hg hu hd hi,Result.andThen]
set_option linter.unusedVariables false
theorem res_row_tmp2 {P:Program} {fn:Func} {p u r:Tmp} {ty:TypeId} (h:fn.results=#[.cell p ty,.tmp u,.tmp r]) (tmps:Array Value) (w:World) (g:Nat) (t:TypeId) (cs:Array Value) (fr:Nat × Nat) (d:TypeDesc)
  (hp:tmps.getD p undef=.pointer (some ⟨g,0,none⟩)) (hg:w.heap[g]?=some (.cells cs t fr)) (hu:P.underlying ty=some d) (hd:(match d with | .struct _ | .array _ _=>true | _=>false)=true) (hi:(P.info? ty).map (·.size)=some cs.size) :
  (results fn tmps).run P w=.ok (.tuple #[.agg cs,tmps.getD u undef,tmps.getD r undef]) w:=by
 have hp':tmps[p]?.getD undef=.pointer (some ⟨g,0,none⟩):=by simpa using hp
 simp [results,h,Result.andThen,hp',asAddr,run_loadVar_row w g t ty cs fr d hg hu hd hi]
theorem gb_new0 {A:Nat} {w W:World} (h:w.grownBy W none) (hA:w.heap.size<=A) (o:Nat) (x:Value):w.grownBy (W.setCell ⟨A,o,none⟩ x) none :=
 ⟨h.os,h.tape,h.output,by simpa [World.setCell] using h.size,fun k hk hn=>by rw [<-h.block k hk hn];exact heap_setCell_other W _ k x (by simp;omega)⟩
theorem put5_gb0 {A:Nat} {w W:World} (h:w.grownBy W none) (hA:w.heap.size<=A) (y1 y2 y3:Int) (x4 x5:ByteArray):w.grownBy (put5 W A y1 y2 y3 x4 x5) none:=gb_new0 (gb_new0 (gb_new0 (gb_new0 (gb_new0 h hA _ _) hA _ _) hA _ _) hA _ _) hA _ _
open Go.RowKit
set_option maxHeartbeats 400000 in
theorem rdigit_any (c:UInt8) (w:World):Calls Tryz.prog 85 #[.int .u8 (c.toNat:Int)] w fun e w'=>e=.returned (.bool (isD c))/\w'=w:=by
 go_enter Tryz.func85,Tryz.ntmps85
 go_wp2
 all_goals go_ret
 all_goals (refine ⟨ret_bool ?_,rfl⟩;rw [Bool.eq_iff_iff];unfold isD;simp;omega)
set_option maxHeartbeats 400000 in
theorem rpartByte_any (c:UInt8) (w:World):Calls Tryz.prog 69 #[.int .u8 (c.toNat:Int)] w fun e w'=>e=.returned (.bool (isP c))/\w'=w:=by
 go_enter Tryz.func69,Tryz.ntmps69
 go_wp2_with (go_at_call 85;refine (rdigit_any _ _).mono ?_;rintro e w' ⟨rfl,rfl⟩)
 all_goals go_ret
 all_goals (refine ⟨ret_bool ?_,rfl⟩;rw [Bool.eq_iff_iff];unfold isP;simp_all;try omega)
set_option maxHeartbeats 400000 in
theorem rdigits_any (s:ByteArray) (w:World) (hs:s.size < 2 ^ 62) :
  Calls Tryz.prog 70 #[.string s] w fun e w'=>e=.returned (.bool (s.data.toList.all isD))/\w'=w:=by
 obtain ⟨R,hR⟩:∃R,R=s.data.toList.all isD:=⟨_,rfl⟩
 have HR:Hid (R=s.data.toList.all isD):=hR
 rw [<-hR]
 clear hR
 go_enter Tryz.func70,Tryz.ntmps70
 go_wp2
 go_loop [3] (fun i=>∃k:Nat,k<=s.size/\i=.int .i64 k/\∀j,(hj:j < s.size)->j < k->isD s[j]=true) (fun i=>s.size - (intOf i).toNat)
 case atStart=>exact ⟨0,Nat.zero_le _,rfl,fun j hj h=>absurd h (by omega)⟩
 case round =>
  obtain ⟨k,hk,rfl,hp⟩:=hrel
  have HP:Hid (∀j,(hj:j < s.size)->j < k->isD s[j]=true):=hp
  clear hp
  by_cases hlt:k < s.size
  ·cases hd:isD s[k] with
   | true =>
    go_wp2_with (go_at_call 85;refine (rdigit_any _ _).mono ?_;rintro e w' ⟨rfl,rfl⟩)
    go_round
    case rel =>
     refine ⟨k+1,by omega,by go_num,fun j hj hjk=>?_⟩
     by_cases hjk':j < k
     ·exact HP.out j hj hjk'
     ·have e:j=k:=by omega
      subst e
      exact hd
    case measure=>simp [intOf];omega
   | false =>
    have HN:Hid (R=false):=by
     show R=false
     rw [HR.out,List.all_eq_false]
     exact ⟨s[k],List.mem_of_getElem? (get_data s k hlt),by simp [hd]⟩
    go_wp2_with (go_at_call 85;refine (rdigit_any _ _).mono ?_;rintro e w' ⟨rfl,rfl⟩)
    go_ret
    exact ⟨ret_bool HN.out.symm,rfl⟩
  ·have HN:Hid (R=true):=by
    show R=true
    rw [HR.out,List.all_eq_true]
    intro c hc
    obtain ⟨j,hj,rfl⟩:=List.getElem_of_mem hc
    exact HP.out j (by simpa using hj) (by simp at hj;have:s.size=s.data.size:=rfl;omega)
   clear hk
   go_wp2
   go_ret
   exact ⟨ret_bool HN.out.symm,rfl⟩
open Go.RowKit
theorem info9:(Tryz.prog.info? 9).map (fun i=>(i.zero,i.size,i.bytes))=some (some (.string ⟨#[]⟩),1,16):=by kernel_rfl
def strL (D:List (List UInt8)):List Value:=D.map fun p=>.string ⟨p.toArray⟩
theorem split_end (l:List UInt8) (D:List (List UInt8)) (f:Nat) (h:splitD l=D++splitD (l.drop f)) (hn:∀j,f<=j->j < l.length->l[j]? ≠ some 46):splitD l=D++[subT l f (l.length - f)]:=by
 rw [h,splitD_free (l.drop f)]
 ·congr 2
  unfold subT
  exact (List.take_of_length_le (by simp)).symm
 ·intro c hc e
  obtain ⟨j,hj,rfl⟩:=List.getElem_of_mem hc
  simp only [List.length_drop] at hj
  refine hn (f+j) (by omega) (by omega) ?_
  rw [<-List.getElem?_drop,List.getElem?_eq_getElem (by simp;omega),e]
theorem split_dot (l:List UInt8) (D:List (List UInt8)) (f i:Nat) (hfi:f<=i) (hi:l[i]?=some 46) (h:splitD l=D++splitD (l.drop f)) (hn:∀j,f<=j->j < i->l[j]? ≠ some 46):splitD l=(D++[subT l f (i - f)])++splitD (l.drop (i+1)):=by
 obtain ⟨hlt,e⟩:=List.getElem?_eq_some_iff.1 hi
 have hd:l.drop f=subT l f (i - f)++46 :: l.drop (i+1):=by
  have h1:l.drop f=subT l f (i - f)++l.drop i:=by
   unfold subT
   have:=List.take_append_drop (i - f) (l.drop f)
   rw [List.drop_drop,show f+(i - f)=i by omega] at this
   exact this.symm
  rw [h1,List.drop_eq_getElem_cons hlt,e]
 rw [h,hd,splitD_dot]
 ·simp
 ·intro c hc e
  obtain ⟨j,hj,rfl⟩:=List.getElem_of_mem hc
  have hjl:j < i - f:=by unfold subT at hj;simp at hj;omega
  refine hn (f+j) (by omega) (by omega) ?_
  have:(subT l f (i - f))[j]?=some 46:=by rw [List.getElem?_eq_getElem hj,e]
  unfold subT at this
  rw [List.getElem?_take_of_lt hjl,List.getElem?_drop] at this
  exact this
def SplitPost (l:List UInt8) (w:World) (e:Ending) (w':World):Prop:=∃v,e=.returned v/\w'.ownsRow w.heap.size 9 1 v (splitD l).length (strL (splitD l))/\Below w.heap.size w w'
set_option maxHeartbeats 800000 in
theorem split_any (s:ByteArray) (w:World) (hs:s.size<=1048576) :
  Calls Tryz.prog 68 #[.string s] w (SplitPost s.data.toList w):=by
 obtain ⟨i0,hi,hz0,hz1,hzb⟩:=info_parts info9
 obtain ⟨l,hl⟩:∃l,l=s.data.toList:=⟨_,rfl⟩
 have hll:l.length=s.size:=by rw [hl];simp
 rw [<-hl]
 go_enter Tryz.func68,Tryz.ntmps68
 go_wp2
 go_loopw [3,4,5] (fun vo vf vi wr=>∃(D:List (List UInt8)) (f i:Nat),vf=.int .i64 f/\vi=.int .i64 i/\wr.ownsRow w.heap.size 9 1 vo D.length (strL D)/\Below w.heap.size w wr/\D.length<=i/\f<=s.size+1/\((i<=s.size/\f<=i/\splitD l=D++splitD (l.drop f)/\∀j,f<=j->j < i->l[j]? ≠ some 46)\/(i=s.size+1/\D=splitD l))) (fun _ _ vi _=>s.size+1 - (intOf vi).toNat)
 case atStart=>exact ⟨[],0,0,rfl,rfl,World.ownsRow_nil _ _ _ _,Below.refl _ _,Nat.le_refl _,by omega,Or.inl ⟨by omega,Nat.le_refl _,by simp,fun j _ h=>by omega⟩⟩
 case round =>
  obtain ⟨D,f,i,rfl,rfl,hrow,hbl,hD,hf,hcase⟩:=hrel
  have hzz:=hbl.size
  rcases hcase with ⟨hi1,hfi,hsp,hno⟩ | ⟨hi2,hDe⟩
  ·have HSP:Hid (splitD l=D++splitD (l.drop f)/\∀j,f<=j->j < i->l[j]? ≠ some 46):=⟨hsp,hno⟩
   clear hsp hno
   by_cases hlt:i < s.size
   ·have hne:((i:Int) == (s.size:Int))=false:=by simp;omega
    cases hz:((s[i].toNat:Int) == 46) with
    | true =>
     have hc:l[i]?=some 46:=by
      rw [hl,get_data s i hlt]
      have:s[i]=46:=UInt8.toNat_inj.1 (by have:=eq_of_beq hz;have e46:(46:UInt8).toNat=46:=rfl;omega)
      rw [this]
     obtain ⟨X,hX⟩:∃X:ByteArray,X=⟨(subT l f (i - f)).toArray⟩:=⟨_,rfl⟩
     have HN:Hid (splitD l=(D++[subT l f (i - f)])++splitD (l.drop (i+1))):=split_dot l D f i hfi hc HSP.out.1 HSP.out.2
     have HX:Hid (strL (D++[subT l f (i - f)])=strL D++[.string X]):=by
      show strL _=_
      rw [hX];simp [strL]
     have sl:∀wx,(Instr.slice 9 (.string s) (some (.int .i64 (f:Int))) (some (.int .i64 (i:Int))) none).run Tryz.prog wx=.ok (.string X) wx:=fun wx=>by rw [hX,hl];exact run_sub s f i hfi (by omega) wx
     have HB:Hid (D.length<=i/\i < s.size):=⟨hD,hlt⟩
     clear hX hc HSP hfi hl
     go_wp2_with (first | (at_builtin;refine wpList_append_own _ rfl _ _ 93 rfl w.heap.size 9 i0 (.string ⟨#[]⟩) 1 16 Tryz.underlying93 hi hz0 hz1 hzb rfl (by decide) _ _ _ rfl (hrow.alloc _) ⟨wr.heap.size,0,none⟩ 1 1 [.string X] rfl rfl (cell_one_new _ _ _) (by simp [Value.oneCell']) (by unfold maxLen;omega) (by omega) (by simp;omega) ?_;intro v' w1 hown' hgrow _))
     have hb1:Below w.heap.size w w1:=(hbl.alloc hzz _).grown hgrow (by simp;omega) (fun q hq=>(hrow.lt q hq).1)
     have hB:=HB.out
     refine ⟨⟨D++[subT l f (i - f)],i+1,i+1,rfl,rfl,by rw [HX.out];simpa using hown',hb1,by simp;omega,by omega,Or.inl ⟨by omega,Nat.le_refl _,HN.out,fun j h1 h2=>by omega⟩⟩,?_⟩
     simp [intOf];omega
    | false =>
     have HN:Hid (l[i]? ≠ some 46):=by
      show l[i]? ≠ some 46
      rw [hl,get_data s i hlt]
      intro e
      have e':s[i]=46:=Option.some.inj e
      rw [e'] at hz
      exact absurd hz (by decide)
     have HF:Hid (f<=i/\D.length<=i/\f<=s.size+1):=⟨hfi,hD,hf⟩
     have HO:Hid (wr.ownsRow w.heap.size 9 1 u3 D.length (strL D)):=hrow
     have HB:Hid (Below w.heap.size w wr):=hbl
     clear hfi hD hf hrow hbl hl
     go_wp2
     go_roundw
     case rel =>
      have hF:=HF.out
      refine ⟨D,f,i+1,rfl,by go_num,HO.out,HB.out,by omega,hF.2.2,Or.inl ⟨by omega,by omega,HSP.out.1,fun j h1 h2=>?_⟩⟩
      by_cases hj:j < i
      ·exact HSP.out.2 j h1 hj
      ·have:j=i:=by omega
       rw [this];exact HN.out
     case measure=>simp [intOf];omega
   ·have hie:i=s.size:=by omega
    subst hie
    have hne:((s.size:Int) == (s.size:Int))=true:=by simp
    obtain ⟨X,hX⟩:∃X:ByteArray,X=⟨(subT l f (s.size - f)).toArray⟩:=⟨_,rfl⟩
    have HN:Hid (splitD l=D++[subT l f (s.size - f)]):=by
     have:=split_end l D f HSP.out.1 (fun j h1 h2=>HSP.out.2 j h1 (by omega))
     rw [hll] at this;exact this
    have HX:Hid (strL (D++[subT l f (s.size - f)])=strL D++[.string X]):=by
     show strL _=_
     rw [hX];simp [strL]
    have sl:∀wx,(Instr.slice 9 (.string s) (some (.int .i64 (f:Int))) (some (.int .i64 (s.size:Int))) none).run Tryz.prog wx=.ok (.string X) wx:=fun wx=>by rw [hX,hl];exact run_sub s f s.size hfi (by omega) wx
    clear hX HSP hfi hl
    go_wp2_with (first | (at_builtin;refine wpList_append_own _ rfl _ _ 93 rfl w.heap.size 9 i0 (.string ⟨#[]⟩) 1 16 Tryz.underlying93 hi hz0 hz1 hzb rfl (by decide) _ _ _ rfl (hrow.alloc _) ⟨wr.heap.size,0,none⟩ 1 1 [.string X] rfl rfl (cell_one_new _ _ _) (by simp [Value.oneCell']) (by unfold maxLen;omega) (by omega) (by simp;omega) ?_;intro v' w1 hown' hgrow _))
    have hb1:Below w.heap.size w w1:=(hbl.alloc hzz _).grown hgrow (by simp;omega) (fun q hq=>(hrow.lt q hq).1)
    refine ⟨⟨D++[subT l f (s.size - f)],s.size+1,s.size+1,rfl,rfl,by rw [HX.out];simpa using hown',hb1,by simp;omega,by omega,Or.inr ⟨rfl,HN.out.symm⟩⟩,?_⟩
    simp [intOf]
  ·have hgt:¬ i<=s.size:=by omega
   clear hi2 hll hs
   have HO:Hid (wr.ownsRow w.heap.size 9 1 u3 D.length (strL D)):=hrow
   have HB:Hid (Below w.heap.size w wr):=hbl
   have HDE:Hid (D=splitD l):=hDe
   clear hrow hbl hDe hD hf hzz hl
   go_wp2
   refine bodyPost_ret (results_tmp (t:=2) rfl _ _ _) rfl ⟨u3,rfl,?_,HB.out⟩
   rw [<-HDE.out]
   exact HO.out
open Go.RowKit
theorem below_drewN {B:Nat} {a w:World} (h:Below B a w) (n:Nat):Below B a (w.drewN n):=⟨h.os,h.tape,h.output,h.size,h.block⟩
theorem owns_slice {w:World} {base:Nat} {v:Value} {D:List (List UInt8)} (h:w.ownsRow base 9 1 v D.length (strL D)) (hne:D ≠ []) :
  ∃g cap,v=.slice (some ⟨g,0,none⟩) D.length cap/\base<=g/\g < w.heap.size/\∀j,(hj:j < D.length)->w.cell? ⟨g,j,none⟩=some (.string ⟨D[j].toArray⟩):=by
 have hpos:0 < D.length:=List.length_pos_iff.2 hne
 rcases h.2 with ⟨_,hz⟩ | ⟨g,cap,cur,hv,hbg,hg,hnc,hcm,hcs,htake⟩
 ·simp at hz;exact absurd hz hne
 ·refine ⟨g,cap,hv,hbg,(Array.getElem?_eq_some_iff.1 hg).1,fun j hj=>?_⟩
  have ht:cur.toList.take D.length=strL D:=by simpa using htake
  rw [Lib.cell_of_heap hg]
  have h1:(strL D)[j]?=some (.string ⟨D[j].toArray⟩):=by unfold strL;rw [List.getElem?_map,List.getElem?_eq_getElem hj];rfl
  rw [<-ht,List.getElem?_take_of_lt hj] at h1
  simpa using h1
theorem split_slice (s:ByteArray) (w:World) (hs:s.size<=1048576) :
  Calls Tryz.prog 68 #[.string s] w fun e w'=>∃g cap,e=.returned (.slice (some ⟨g,0,none⟩) (splitD s.data.toList).length cap)/\w.heap.size<=g/\g < w'.heap.size/\(∀j,(hj:j < (splitD s.data.toList).length)->w'.cell? ⟨g,j,none⟩=some (.string ⟨(splitD s.data.toList)[j].toArray⟩))/\Below w.heap.size w w':=by
 refine (split_any s w hs).mono ?_
 rintro e w' ⟨v,rfl,hrow,hb⟩
 obtain ⟨g,cap,rfl,h1,h2,h3⟩:=owns_slice hrow (splitD_ne _)
 exact ⟨g,cap,rfl,h1,h2,h3,hb⟩
theorem part_len:∀(l:List UInt8) (p:List UInt8),p ∈ splitD l->p.length<=l.length
 | [],p,h=>by simp [splitD] at h;rw [h];exact Nat.le_refl _
 | c :: l,p,h=>by
  rw [splitD_cons] at h
  split at h
  ·rcases List.mem_cons.1 h with rfl | h
   ·simp
   ·have:=part_len l p h;simp;omega
  ·cases hs:splitD l with
   | nil=>exact absurd hs (splitD_ne l)
   | cons q qs =>
    rw [hs] at h
    rcases List.mem_cons.1 h with rfl | h
    ·have:=part_len l q (by rw [hs];simp);simp;omega
    ·have:=part_len l p (by rw [hs];simp [h]);simp;omega
theorem split_len:∀(l:List UInt8),(splitD l).length<=l.length+1
 | []=>by simp [splitD]
 | c :: l=>by
  have ih:=split_len l
  rw [splitD_cons]
  split
  ·simp;exact ih
  ·cases hs:splitD l with
   | nil=>exact absurd hs (splitD_ne l)
   | cons q qs=>rw [hs] at ih;simp at ih ⊢;omega
end Go.Proofs.YtonfldbigenfhaaGreatDoor
