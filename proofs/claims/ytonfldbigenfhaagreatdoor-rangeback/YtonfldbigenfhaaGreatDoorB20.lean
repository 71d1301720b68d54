import Derived.Test.YtonfldbigenfhaaGreatDoorB19
import Derived.Test.YtonfldbigenfhaaGreatDoorB06
import Derived.Lib.LaidTab
import Derived.Shelf.Strings.OnBuilder
import Derived.Test.YtonfldbigenfhaaGreatDoorProg
import Derived.Test.YtonfldbigenfhaaGreatDoorB18
import Derived.Test.YtonfldbigenfhaaGreatDoorB09
namespace Go.Proofs.YtonfldbigenfhaaGreatDoor
open Go.RowKit Go.Shelf
set_option linter.unusedVariables false
def Tab (w:World):Prop:=Lib.TabIs Tryz.prog w "internal/strconv.uint64pow10" .u64 Lib.pow10Tab
theorem tab_grow {w w':World} (h:Tab w) (hg:w.grownBy w' none):Tab w':=by
 unfold Tab Lib.TabIs World.var? at h ⊢
 cases hgn:Tryz.prog.globalNamed "internal/strconv.uint64pow10" with
 | none=>simp [hgn] at h
 | some g =>
  simp only [hgn,Option.bind_some] at h ⊢
  have hlt:g < w.heap.size:=by
   rcases Nat.lt_or_ge g w.heap.size with h' | h'
   ·exact h'
   ·simp [Array.getElem?_eq_none h'] at h
  rw [hg.block g hlt (by simp)]
  exact h
theorem itoa_any (n:Int) (w:World) (h0:-9223372036854775808<=n) (h1:n<=9223372036854775807) (ht:Tab w) :
  Calls Tryz.prog 77 #[.int .i64 n] w fun e w'=>e=.returned (.string ⟨(Lib.itoa n).toArray⟩)/\w.grownBy w' none:=by
 refine Calls.mono (Any.strconv_Itoa Tryz.lays171 n h0 h1 w ht) ?_
 rintro e w' ⟨rfl,k,os,rfl⟩
 refine ⟨rfl,⟨rfl,rfl,rfl,by show w.heap.size<=(w.heap++os).size;simp,fun i hi _=>?_⟩⟩
 show (w.heap++os)[i]?=w.heap[i]?
 rw [Array.getElem?_append_left hi]
theorem tab_grow' {w w':World} (hg:w.grownBy w' none) (h:Tab w):Tab w':=tab_grow h hg
theorem tabOf {A:Nat} {a1 a2 a3:Int} {a4 a5:ByteArray} {w:World} (h:w.cell? ⟨A,0,none⟩=some (.int .i64 a1)/\w.cell? ⟨A,1,none⟩=some (.int .i64 a2)/\w.cell? ⟨A,2,none⟩=some (.int .i64 a3)/\w.cell? ⟨A,3,none⟩=some (.string a4)/\w.cell? ⟨A,4,none⟩=some (.string a5)/\Tab w):Tab w:=h.2.2.2.2.2
theorem keepTab {A:Nat} {a1 a2 a3:Int} {a4 a5:ByteArray} {w w':World} (hg:w.grownBy w' none) (h:w.cell? ⟨A,0,none⟩=some (.int .i64 a1)/\w.cell? ⟨A,1,none⟩=some (.int .i64 a2)/\w.cell? ⟨A,2,none⟩=some (.int .i64 a3)/\w.cell? ⟨A,3,none⟩=some (.string a4)/\w.cell? ⟨A,4,none⟩=some (.string a5)/\Tab w):w'.cell? ⟨A,0,none⟩=some (.int .i64 a1)/\w'.cell? ⟨A,1,none⟩=some (.int .i64 a2)/\w'.cell? ⟨A,2,none⟩=some (.int .i64 a3)/\w'.cell? ⟨A,3,none⟩=some (.string a4)/\w'.cell? ⟨A,4,none⟩=some (.string a5)/\Tab w':=by
 obtain ⟨h1,h2,h3,h4,h5,h6⟩:=h
 exact ⟨hg.cell h1 (by simp),hg.cell h2 (by simp),hg.cell h3 (by simp),hg.cell h4 (by simp),hg.cell h5 (by simp),tab_grow h6 hg⟩
theorem text_steps (a1 a2 a3:Int) (a4 a5:List UInt8) (b1:-9223372036854775808<=a1/\a1<=9223372036854775807) (b2:-9223372036854775808<=a2/\a2<=9223372036854775807) (b3:-9223372036854775808<=a3/\a3<=9223372036854775807) (h4:a4.length < 2 ^ 60) (h5:a5.length < 2 ^ 60) :
  ∃T1 T2 T3 X1 X2 X3 X4:List UInt8,T1=Lib.itoa a1/\T2=Lib.itoa a2/\T3=Lib.itoa a3 ∧
   (∀wx,(Op.stringOp .add ⟨T1.toArray⟩ ⟨#[46]⟩).run Tryz.prog wx=.ok (.string ⟨X1.toArray⟩) wx) ∧
   (∀wx,(Op.stringOp .add ⟨X1.toArray⟩ ⟨T2.toArray⟩).run Tryz.prog wx=.ok (.string ⟨X2.toArray⟩) wx) ∧
   (∀wx,(Op.stringOp .add ⟨X2.toArray⟩ ⟨#[46]⟩).run Tryz.prog wx=.ok (.string ⟨X3.toArray⟩) wx) ∧
   (∀wx,(Op.stringOp .add ⟨X3.toArray⟩ ⟨T3.toArray⟩).run Tryz.prog wx=.ok (.string ⟨X4.toArray⟩) wx) ∧
   X4.length < 2 ^ 62/\textV ⟨a1,a2,a3,a4,a5⟩=X4++(optT 45 a4++optT 43 a5):=by
 have l1:=itoa_len a1 b1.1 b1.2
 have l2:=itoa_len a2 b2.1 b2.2
 have l3:=itoa_len a3 b3.1 b3.2
 refine ⟨_,_,_,Lib.itoa a1++[46],Lib.itoa a1++[46]++Lib.itoa a2,Lib.itoa a1++[46]++Lib.itoa a2++[46],Lib.itoa a1++[46]++Lib.itoa a2++[46]++Lib.itoa a3,rfl,rfl,rfl,fun wx=>add_lists _ [46] wx ?_,fun wx=>add_lists _ _ wx ?_,fun wx=>add_lists _ [46] wx ?_,fun wx=>add_lists _ _ wx ?_,?_,?_⟩
 ·simp;omega
 ·simp;omega
 ·simp;omega
 ·simp;omega
 ·simp;omega
 ·simp [textV]
theorem ret_str {a b:List UInt8} (h:a=b):Ending.returned (.string ⟨a.toArray⟩)=.returned (.string ⟨b.toArray⟩):=by rw [h]
theorem opt_step (c:UInt8) (X:List UInt8) (a:ByteArray) (h:X.length+a.size+1<=9223372036854775807) :
  ∃(P:ByteArray) (Y:List UInt8),(∀wx,(Op.stringOp .add ⟨#[c]⟩ a).run Tryz.prog wx=.ok (.string P) wx)/\(∀wx,(Op.stringOp .add ⟨X.toArray⟩ P).run Tryz.prog wx=.ok (.string ⟨Y.toArray⟩) wx)/\Y=X++c :: a.data.toList/\Y.length=X.length+a.size+1:=by
 have ea:a=⟨a.data.toList.toArray⟩:=by cases a;simp
 have la:a.data.toList.length=a.size:=by simp
 refine ⟨⟨([c]++a.data.toList).toArray⟩,X++([c]++a.data.toList),fun wx=>?_,fun wx=>add_lists X ([c]++a.data.toList) wx (by simp only [List.length_append,List.length_cons,List.length_nil,la];omega),rfl,by simp only [List.length_append,List.length_cons,List.length_nil,la];omega⟩
 conv=>lhs;rw [ea]
 exact add_lists [c] a.data.toList wx (by simp only [List.length_cons,List.length_nil,la];omega)
set_option maxHeartbeats 1600000 in
theorem vtext_any (a1 a2 a3:Int) (a4 a5:ByteArray) (w:World) (ht:Tab w) (b1:-9223372036854775808<=a1/\a1<=9223372036854775807) (b2:-9223372036854775808<=a2/\a2<=9223372036854775807) (b3:-9223372036854775808<=a3/\a3<=9223372036854775807) (h4:a4.size < 2 ^ 60) (h5:a5.size < 2 ^ 60) :
  Calls Tryz.prog 45 #[.agg #[.int .i64 a1,.int .i64 a2,.int .i64 a3,.string a4,.string a5]] w fun e w'=>e=.returned (.string ⟨(textV ⟨a1,a2,a3,a4.data.toList,a5.data.toList⟩).toArray⟩)/\w.grownBy w' none:=by
 obtain ⟨T1,T2,T3,X1,X2,X3,X4,e1,e2,e3,d1,d2,d3,d4,hl,hx⟩:=text_steps a1 a2 a3 a4.data.toList a5.data.toList b1 b2 b3 (by simpa using h4) (by simpa using h5)
 have I1:Hid (∀w,Tab w->Calls Tryz.prog 77 #[.int .i64 a1] w fun e w'=>e=.returned (.string ⟨T1.toArray⟩)/\w.grownBy w' none):=fun w h=>by rw [e1];exact itoa_any a1 w b1.1 b1.2 h
 have I2:Hid (∀w,Tab w->Calls Tryz.prog 77 #[.int .i64 a2] w fun e w'=>e=.returned (.string ⟨T2.toArray⟩)/\w.grownBy w' none):=fun w h=>by rw [e2];exact itoa_any a2 w b2.1 b2.2 h
 have I3:Hid (∀w,Tab w->Calls Tryz.prog 77 #[.int .i64 a3] w fun e w'=>e=.returned (.string ⟨T3.toArray⟩)/\w.grownBy w' none):=fun w h=>by rw [e3];exact itoa_any a3 w b3.1 b3.2 h
 obtain ⟨R,hR⟩:∃R,R=textV ⟨a1,a2,a3,a4.data.toList,a5.data.toList⟩:=⟨_,rfl⟩
 rw [<-hR]
 have HR:Hid (R=X4++(optT 45 a4.data.toList++optT 43 a5.data.toList)):=by show R=_;rw [hR,hx]
 clear e1 e2 e3 hx b1 b2 b3 hR
 go_enter Tryz.func45,Tryz.ntmps45
 go_wp2
 obtain ⟨W,hW⟩:∃W,w.alloc (.cells #[.int .i64 a1,.int .i64 a2,.int .i64 a3,.string a4,.string a5] 35)=W:=⟨_,rfl⟩
 have HG:Hid (w.grownBy W none):=by show w.grownBy W none;rw [<-hW];exact gb_alloc (gb_refl w none) _
 obtain ⟨A,hA⟩:∃A,w.heap.size=A:=⟨_,rfl⟩
 have STa:Hid (St A a1 a2 a3 a4 a5 W):=by
  show St A a1 a2 a3 a4 a5 W
  rw [<-hW,<-hA];exact st_row (t:=35) (heap_alloc_new w _)
 have tW:Tab W:=tab_grow ht HG.out
 rw [hW,hA]
 clear hW hA ht
 have tWd:Tab W.drew:=tW
 obtain ⟨s1,s2,s3,s4,s5⟩:=STa.out
 go_region_held3 (fun w'=>w'.cell? ⟨A,0,none⟩=some (.int .i64 a1)/\w'.cell? ⟨A,1,none⟩=some (.int .i64 a2)/\w'.cell? ⟨A,2,none⟩=some (.int .i64 a3)/\w'.cell? ⟨A,3,none⟩=some (.string a4)/\w'.cell? ⟨A,4,none⟩=some (.string a5)/\Tab w') ((first | exact keepTab (by assumption) (by assumption) | (refine ⟨?_,?_,?_,?_,?_,?_⟩ <;> (first | (refine World.grownBy.cell (by assumption) ?_ (by simp);assumption) | exact tab_grow' (by assumption) (by assumption))) | go_keep)) (first | (go_at_call_of 77 a1;refine (I1.out _ (by first | assumption | exact tabOf (by assumption))).mono ?_;rintro e w1 ⟨rfl,hg1⟩) | (go_at_call_of 77 a2;refine (I2.out _ (by first | assumption | exact tabOf (by assumption))).mono ?_;rintro e w2 ⟨rfl,hg2⟩) | (go_at_call_of 77 a3;refine (I3.out _ (by first | assumption | exact tabOf (by assumption))).mono ?_;rintro e w3 ⟨rfl,hg3⟩))
 have hgs:W.grownBy w3 none:=gb_trans (gb_trans (gb_undrew hg1) hg2) hg3
 replace HG:Hid (w.grownBy w3 none):=gb_trans HG.out hgs
 replace STa:Hid (St A a1 a2 a3 a4 a5 w3):=STa.out.grow hgs
 clear hgs hg1 hg2 hg3 s1 s2 s3 s4 s5 tW tWd I1 I2 I3 d1 d2 d3 d4
 obtain ⟨-,-,-,s4,s5⟩:=STa.out
 obtain ⟨P4,Y4,p4,y4,hY4,hY4l⟩:=opt_step 45 X4 a4 (by omega)
 by_cases z4:a4.size=0
 ·have e4:=emp_t2 z4
  have o4:optT 45 a4.data.toList=[]:=by rw [List.length_eq_zero_iff.1 (show a4.data.toList.length=0 by simpa using z4)];rfl
  have HR4:Hid (R=X4++optT 43 a5.data.toList):=by show R=_;rw [HR.out,o4,List.nil_append]
  obtain ⟨P5,Y5,p5,y5,hY5,hY5l⟩:=opt_step 43 X4 a5 (by omega)
  clear p4 y4 hY4 hY4l o4 z4
  by_cases z5:a5.size=0
  ·have e5:=emp_t2 z5
   have o5:optT 43 a5.data.toList=[]:=by rw [List.length_eq_zero_iff.1 (show a5.data.toList.length=0 by simpa using z5)];rfl
   have HZ:Hid (R=X4):=by show R=_;rw [HR4.out,o5,List.append_nil]
   clear o5 z5 p5 y5 hY5 hY5l
   go_wp2
   go_ret
   exact ⟨ret_str HZ.out.symm,HG.out⟩
  ·have e5:=emp_f2 z5
   have o5:X4++optT 43 a5.data.toList=Y5:=by unfold optT;rw [if_neg (fun e=>z5 (by show a5.data.size=0;rw [<-Array.length_toList,e];rfl)),hY5]
   have HZ:Hid (R=Y5):=by show R=_;rw [HR4.out,o5]
   clear o5 z5 hY5 hY5l
   go_wp2
   go_ret
   exact ⟨ret_str HZ.out.symm,HG.out⟩
 ·have e4:=emp_f2 z4
  have o4:X4++(optT 45 a4.data.toList++optT 43 a5.data.toList)=Y4++optT 43 a5.data.toList:=by
   rw [<-List.append_assoc,hY4];congr 1;unfold optT;rw [if_neg (fun e=>z4 (by show a4.data.size=0;rw [<-Array.length_toList,e];rfl))]
  have HR4:Hid (R=Y4++optT 43 a5.data.toList):=by show R=_;rw [HR.out,o4]
  obtain ⟨P5,Y5,p5,y5,hY5,hY5l⟩:=opt_step 43 Y4 a5 (by omega)
  clear hY4 hY4l o4 z4
  by_cases z5:a5.size=0
  ·have e5:=emp_t2 z5
   have o5:optT 43 a5.data.toList=[]:=by rw [List.length_eq_zero_iff.1 (show a5.data.toList.length=0 by simpa using z5)];rfl
   have HZ:Hid (R=Y4):=by show R=_;rw [HR4.out,o5,List.append_nil]
   clear o5 z5 p5 y5 hY5 hY5l
   go_wp2
   go_ret
   exact ⟨ret_str HZ.out.symm,HG.out⟩
  ·have e5:=emp_f2 z5
   have o5:Y4++optT 43 a5.data.toList=Y5:=by unfold optT;rw [if_neg (fun e=>z5 (by show a5.data.size=0;rw [<-Array.length_toList,e];rfl)),hY5]
   have HZ:Hid (R=Y5):=by show R=_;rw [HR4.out,o5]
   clear o5 z5 hY5 hY5l
   go_wp2
   go_ret
   exact ⟨ret_str HZ.out.symm,HG.out⟩
end Go.Proofs.YtonfldbigenfhaaGreatDoor
namespace Go.Proofs
open Go.Shelf
def Tryz.lays156_ren:Go.Shelf.Ren:=⟨fun | 156=>48 | 165=>78 | 166=>79 | 169=>80 | 240=>101 | 241=>102 | 276=>117 | 277=>118 | n=>n,fun | 22=>54 | 23=>170 | 27=>118 | 28=>131 | 31=>93 | 37=>120 | 40=>236 | 41=>113 | 42=>140 | 43=>117 | 46=>178 | 47=>177 | 51=>210 | 52=>209 | 53=>196 | 54=>197 | 55=>213 | 59=>154 | 60=>155 | 63=>217 | 64=>228 | 67=>95 | 68=>112 | 69=>163 | 70=>119 | 71=>121 | 72=>122 | 73=>123 | 74=>124 | 75=>125 | 76=>126 | 77=>127 | 80=>128 | 81=>99 | 83=>98 | 84=>172 | 104=>38 | 105=>215 | 106=>216 | 111=>55 | 112=>97 | 114=>214 | 115=>189 | 116=>190 | 117=>191 | 118=>192 | 119=>232 | 122=>188 | 123=>193 | 124=>194 | 127=>160 | 131=>207 | 137=>233 | 138=>234 | 139=>235 | 146=>226 | 151=>227 | 164=>173 | 165=>174 | 166=>175 | 171=>195 | 172=>198 | 173=>199 | 174=>200 | 182=>202 | 183=>203 | 211=>218 | 212=>219 | 213=>220 | 218=>221 | 219=>222 | 220=>223 | 222=>137 | 228=>229 | 229=>230 | 232=>237 | 233=>238 | 238=>239 | 239=>240 | 240=>241 | 241=>242 | 242=>243 | 243=>244 | 244=>245 | 245=>246 | 246=>247 | 247=>248 | 248=>249 | 249=>250 | n=>n,fun | 1=>0 | 3=>2 | 4=>3 | 17=>1 | 18=>4 | 19=>5 | n=>n⟩
set_option maxRecDepth 100000 in
theorem Tryz.lays156:Go.Proofs.Lays.n156 Tryz.prog Tryz.lays156_ren:={
 mixed:=by kernel_rfl
 f156:=Tryz.func48.trans (congrArg some (by kernel_rfl))
 f165:=Tryz.func78.trans (congrArg some (by kernel_rfl))
 f166:=Tryz.func79.trans (congrArg some (by kernel_rfl))
 f169:=Tryz.func80.trans (congrArg some (by kernel_rfl))
 f240:=Tryz.func101.trans (congrArg some (by kernel_rfl))
 f241:=Tryz.func102.trans (congrArg some (by kernel_rfl))
 f276:=Tryz.func117.trans (congrArg some (by kernel_rfl))
 f277:=Tryz.func118.trans (congrArg some (by kernel_rfl))
 t0:=Tryz.underlying0
 a0:=Tryz.isAgg0
 z0:=Tryz.sizeOf0
 v0:=Tryz.zeroValue0
 t3:=Tryz.underlying3
 a3:=Tryz.isAgg3
 z3:=Tryz.sizeOf3
 v3:=Tryz.zeroValue3
 t4:=Tryz.underlying4
 a4:=Tryz.isAgg4
 z4:=Tryz.sizeOf4
 v4:=Tryz.zeroValue4
 t9:=Tryz.underlying9
 a9:=Tryz.isAgg9
 z9:=Tryz.sizeOf9
 v9:=Tryz.zeroValue9
 t20:=Tryz.underlying20
 a20:=Tryz.isAgg20
 z20:=Tryz.sizeOf20
 v20:=Tryz.zeroValue20
 t31:=Tryz.underlying93
 a31:=Tryz.isAgg93
 z31:=Tryz.sizeOf93
 v31:=Tryz.zeroValue93
 t37:=Tryz.underlying120
 a37:=Tryz.isAgg120
 z37:=Tryz.sizeOf120
 v37:=Tryz.zeroValue120
 t70:=Tryz.underlying119
 a70:=Tryz.isAgg119
 z70:=Tryz.sizeOf119
 v70:=Tryz.zeroValue119
 t72:=Tryz.underlying122
 a72:=Tryz.isAgg122
 z72:=Tryz.sizeOf122
 v72:=Tryz.zeroValue122
 t75:=Tryz.underlying125
 a75:=Tryz.isAgg125
 z75:=Tryz.sizeOf125
 v75:=Tryz.zeroValue125
 t76:=Tryz.underlying126
 a76:=Tryz.isAgg126
 z76:=Tryz.sizeOf126
 v76:=Tryz.zeroValue126
 t127:=Tryz.underlying160
 a127:=Tryz.isAgg160
 z127:=Tryz.sizeOf160
 v127:=Tryz.zeroValue160
 t164:=Tryz.underlying173
 a164:=Tryz.isAgg173
 z164:=Tryz.sizeOf173
 v164:=Tryz.zeroValue173 }
theorem Tryz.Builder_Extra_156:Builder.Extra Tryz.prog Tryz.lays156_ren:={
 sizeBuilder:=by kernel_rfl
 liesBuilder:=by kernel_rfl
 t5:=Tryz.underlying5
 a5:=Tryz.isAgg5
 z5:=Tryz.sizeOf5
 v5:=Tryz.zeroValue5
 infoByte:=by kernel_rfl
 cellsByte:=by kernel_rfl
 sizeByte:=by kernel_rfl
 neB5:=by decide }
end Go.Proofs
namespace Go.Proofs.YtonfldbigenfhaaGreatDoor
open Go.RowKit
set_option linter.unusedVariables false
theorem gb_row0 {w wa wb:World} {row:Option Nat} (h:w.grownBy wa none) (hg:wa.grownBy wb row) (hr:∀q,row=some q->w.heap.size<=q):w.grownBy wb none :=
 ⟨hg.os.trans h.os,hg.tape.trans h.tape,hg.output.trans h.output,Nat.le_trans h.size hg.size,fun k hk hn=>(hg.block k (Nat.lt_of_lt_of_le hk h.size) (fun e=>by have:=hr k e.symm;omega)).trans (h.block k hk hn)⟩
def HadAt (w:World) (a:Addr) (l:List Bool):Prop:=∀i (hi:i < l.length),w.cell? (a.add i)=some (.bool l[i])
theorem HadAt.grow {w w':World} {a:Addr} {l:List Bool} (h:HadAt w a l) (hg:w.grownBy w' none):HadAt w' a l:=fun i hi=>hg.cell (h i hi) (by simp)
end Go.Proofs.YtonfldbigenfhaaGreatDoor
