import Derived.Test.YtpeghomkaphdcaaGreatDoorM10
import Derived.Test.YtpeghomkaphdcaaGreatDoorM01
import Derived.Test.YtpeghomkaphdcaaGreatDoorM02
import Derived.Below
import Derived.Deep.RegionHeld3
namespace Go.Proofs.YtpeghomkaphdcaaGreatDoor
open Go.RowKit
set_option linter.unusedVariables false
theorem cmpInt_any (x y:Int) (w:World):Calls Tryz.prog 101 #[.int .i64 x,.int .i64 y] w fun e w'=>e=.returned (.int .i64 (Lib.compareInt x y))/\w'=w:=Any.cmp_Compare_int Tryz.lays122 x y w
theorem trim_any (s:ByteArray) (w:World):Calls Tryz.prog 151 #[.string s,.string ⟨#[48]⟩] w fun e w'=>e=.returned (.string ⟨(bareT s.data.toList).toArray⟩)/\w'=w:=Any.strings_TrimLeft_one Tryz.lays161 s 48 (by decide) w
theorem index_any (s:ByteArray) (w:World):Calls Tryz.prog 161 #[.string s,.string ⟨#[46]⟩] w fun e w'=>e=.returned (.int .i64 (Lib.indexByte s.data.toList 46))/\w'=w:=Any.stringslite_Index_one Tryz.lays219 s 46 w
theorem less_cmp:∀(a b:List UInt8),(Op.bytesLess a b=true->Lib.compareBytes a b=-1)/\(Op.bytesLess a b=false->(a == b)=false->Lib.compareBytes a b=1)/\((a == b)=true->Lib.compareBytes a b=0)
 | [],[]=>by simp [Op.bytesLess,Lib.compareBytes]
 | [],_ :: _=>by simp [Op.bytesLess,Lib.compareBytes]
 | _ :: _,[]=>by simp [Op.bytesLess,Lib.compareBytes]
 | x :: a,y :: b=>by
  obtain ⟨h1,h2,h3⟩:=less_cmp a b
  unfold Op.bytesLess Lib.compareBytes
  by_cases hlt:x < y
  ·have hne:¬ x=y:=fun e=>by rw [e] at hlt;exact UInt8.lt_irrefl y hlt
   simp [hlt,hne]
  ·by_cases heq:x=y
   ·subst heq
    simp only [hlt,decide_false,Bool.false_or,beq_self_eq_true,Bool.true_and,if_false]
    refine ⟨h1,fun p q=>h2 p (by simpa using q),fun q=>h3 (by simpa using q)⟩
   ·have hgt:y < x:=UInt8.lt_of_le_of_ne (UInt8.not_lt.1 hlt) (Ne.symm heq)
    simp [hlt,heq,hgt]
theorem less_m1 {a b:ByteArray} (h:Op.bytesLess a.toList b.toList=true):Lib.compareBytes a.data.toList b.data.toList=-1:=by
 rw [Lib.toList_data,Lib.toList_data] at h;exact (less_cmp _ _).1 h
theorem less_p1 {a b:ByteArray} (h:Op.bytesLess a.toList b.toList=false) (h':(!a.toList == b.toList)=true):Lib.compareBytes a.data.toList b.data.toList=1:=by
 rw [Lib.toList_data,Lib.toList_data] at h h';exact (less_cmp _ _).2.1 h (by simpa using h')
theorem less_0 {a b:ByteArray} (h':(!a.toList == b.toList)=false):Lib.compareBytes a.data.toList b.data.toList=0:=by
 rw [Lib.toList_data,Lib.toList_data] at h';exact (less_cmp _ _).2.2 (by simpa using h')
set_option maxHeartbeats 400000 in
theorem nanN_any (s:ByteArray) (w:World):Calls Tryz.prog 200 #[.string s] w fun e w'=>e=.returned (.bool false)/\w'=w:=by
 go_enter Tryz.func200,Tryz.ntmps200
 go_wp2
 go_ret
 exact ⟨rfl,rfl⟩
set_option maxHeartbeats 400000 in
theorem cmpN_any (a b:ByteArray) (w:World):Calls Tryz.prog 199 #[.string a,.string b] w fun e w'=>e=.returned (.int .i64 (Lib.compareBytes a.data.toList b.data.toList))/\w'=w:=by
 cases h1:Op.bytesLess a.toList b.toList with
 | true =>
  rw [less_m1 h1]
  go_enter Tryz.func199,Tryz.ntmps199
  go_wp2_with (go_at_call 200;refine (nanN_any _ _).mono ?_;rintro e w' ⟨rfl,rfl⟩)
  go_ret
  exact ⟨rfl,rfl⟩
 | false =>
  cases h2:(!a.toList == b.toList) with
  | true =>
   rw [less_p1 h1 h2]
   go_enter Tryz.func199,Tryz.ntmps199
   go_wp2_with (go_at_call 200;refine (nanN_any _ _).mono ?_;rintro e w' ⟨rfl,rfl⟩)
   go_ret
   exact ⟨rfl,rfl⟩
  | false =>
   rw [less_0 h2]
   go_enter Tryz.func199,Tryz.ntmps199
   go_wp2_with (go_at_call 200;refine (nanN_any _ _).mono ?_;rintro e w' ⟨rfl,rfl⟩)
   go_ret
   exact ⟨rfl,rfl⟩
set_option maxHeartbeats 400000 in
theorem nanW_any (s:ByteArray) (w:World):Calls Tryz.prog 203 #[.string s] w fun e w'=>e=.returned (.bool false)/\w'=w:=by
 go_enter Tryz.func203,Tryz.ntmps203
 go_wp2
 go_ret
 exact ⟨rfl,rfl⟩
set_option maxHeartbeats 400000 in
theorem cmpW_any (a b:ByteArray) (w:World):Calls Tryz.prog 202 #[.string a,.string b] w fun e w'=>e=.returned (.int .i64 (Lib.compareBytes a.data.toList b.data.toList))/\w'=w:=by
 cases h1:Op.bytesLess a.toList b.toList with
 | true =>
  rw [less_m1 h1]
  go_enter Tryz.func202,Tryz.ntmps202
  go_wp2_with (go_at_call 203;refine (nanW_any _ _).mono ?_;rintro e w' ⟨rfl,rfl⟩)
  go_ret
  exact ⟨rfl,rfl⟩
 | false =>
  cases h2:(!a.toList == b.toList) with
  | true =>
   rw [less_p1 h1 h2]
   go_enter Tryz.func202,Tryz.ntmps202
   go_wp2_with (go_at_call 203;refine (nanW_any _ _).mono ?_;rintro e w' ⟨rfl,rfl⟩)
   go_ret
   exact ⟨rfl,rfl⟩
  | false =>
   rw [less_0 h2]
   go_enter Tryz.func202,Tryz.ntmps202
   go_wp2_with (go_at_call 203;refine (nanW_any _ _).mono ?_;rintro e w' ⟨rfl,rfl⟩)
   go_ret
   exact ⟨rfl,rfl⟩
open Go.RowKit
set_option linter.unusedVariables false
set_option maxHeartbeats 400000 in
theorem cutL_any (s:ByteArray) (w:World) (hs:s.size < 2 ^ 62) :
  Calls Tryz.prog 149 #[.string s,.string ⟨#[46]⟩] w fun e w'=>e=.returned (.tuple #[.string ⟨(cut1 s.data.toList).toArray⟩,.string ⟨(cut2 s.data.toList).toArray⟩,.bool (cut3 s.data.toList)])/\∃n,w'=w.drewN n:=by
 rcases ix_cases s.data.toList with ⟨h1,h2⟩ | ⟨k,h1,h2,h3,h4⟩
 ·have e1:cut1 s.data.toList=s.data.toList:=by unfold cut1;rw [if_pos h1]
  have e2:cut2 s.data.toList=[]:=by unfold cut2;rw [if_pos h1]
  have e3:cut3 s.data.toList=false:=by unfold cut3;rw [h1];rfl
  rw [e1,e2,e3]
  have HX:Hid (Lib.indexByte s.data.toList 46=-1):=h1
  clear h1 h2 e1 e2 e3
  go_enter Tryz.func149,Tryz.ntmps149
  go_wp2_with (go_at_call 161;refine (index_any _ _).mono ?_;rintro e w' ⟨rfl,rfl⟩;rw [HX.out])
  go_ret3
  exact ⟨rfl,0,rfl⟩
 ·have hz:k < s.size:=by simpa using h2
  have e1:cut1 s.data.toList=s.data.toList.take k:=by unfold cut1;rw [if_neg (by omega),h1];simp
  have e2:cut2 s.data.toList=s.data.toList.drop (k+1):=by unfold cut2;rw [if_neg (by omega),h1];simp
  have e3:cut3 s.data.toList=true:=by unfold cut3;simp;omega
  rw [e1,e2,e3]
  have HX:Hid (Lib.indexByte s.data.toList 46=k):=h1
  clear h1 h2 h3 h4 e1 e2 e3
  obtain ⟨X,hX⟩:∃X:ByteArray,X=⟨(s.data.toList.take k).toArray⟩:=⟨_,rfl⟩
  obtain ⟨Y,hY⟩:∃Y:ByteArray,Y=⟨(s.data.toList.drop (k+1)).toArray⟩:=⟨_,rfl⟩
  rw [<-hX,<-hY]
  have s1:∀wx,(Instr.slice 9 (.string s) none (some (.int .i64 (k:Int))) none).run Tryz.prog wx=.ok (.string X) wx:=fun wx=>by rw [hX];exact run_pre s k (by omega) wx
  have s2:∀wx,(Instr.slice 9 (.string s) (some (.int .i64 ((k:Int)+1))) none none).run Tryz.prog wx=.ok (.string Y) wx:=fun wx=>by rw [hY];exact run_suf s (k+1) (by omega) wx
  clear hX hY
  go_enter Tryz.func149,Tryz.ntmps149
  go_wp2_with (go_at_call 161;refine (index_any _ _).mono ?_;rintro e w' ⟨rfl,rfl⟩;rw [HX.out])
  go_quiet (fail)
  go_wp2
  go_ret3
  exact ⟨rfl,_,rfl⟩
set_option maxHeartbeats 400000 in
theorem cut_any (s:ByteArray) (w:World) (hs:s.size < 2 ^ 62) :
  Calls Tryz.prog 130 #[.string s,.string ⟨#[46]⟩] w fun e w'=>e=.returned (.tuple #[.string ⟨(cut1 s.data.toList).toArray⟩,.string ⟨(cut2 s.data.toList).toArray⟩,.bool (cut3 s.data.toList)])/\∃n,w'=w.drewN n:=by
 go_enter Tryz.func130,Tryz.ntmps130
 go_wp2_with (go_at_call 149;refine (cutL_any _ _ hs).mono ?_;rintro e w' ⟨rfl,n,rfl⟩)
 go_ret3
 exact ⟨rfl,n,rfl⟩
open Go.RowKit
set_option linter.unusedVariables false
def partV (l:List UInt8):Value:=if numT l then .iface 189 (.string ⟨(bareT l).toArray⟩) else .iface 191 (.string ⟨l.toArray⟩)
set_option maxHeartbeats 400000 in
theorem partOf_any (s:ByteArray) (w:World) (hs:s.size < 2 ^ 62) :
  Calls Tryz.prog 131 #[.string s] w fun e w'=>e=.returned (partV s.data.toList)/\w.grownBy w' none:=by
 unfold partV
 cases hn:numT s.data.toList with
 | true =>
  have HN:Hid (numT s.data.toList=true):=hn
  clear hn
  rw [if_pos rfl]
  go_enter Tryz.func131,Tryz.ntmps131
  go_wp2_with (first | (go_at_call 150;refine (isDigits_any _ _ hs).mono ?_;rw [HN.out];rintro e w1 ⟨rfl,hg1⟩) | (go_at_call 151;refine (trim_any _ _).mono ?_;rintro e w' ⟨rfl,rfl⟩))
  go_ret
  exact ⟨rfl,hg1⟩
 | false =>
  have HN:Hid (numT s.data.toList=false):=hn
  clear hn
  rw [if_neg (by simp)]
  go_enter Tryz.func131,Tryz.ntmps131
  go_wp2_with (first | (go_at_call 150;refine (isDigits_any _ _ hs).mono ?_;rw [HN.out];rintro e w1 ⟨rfl,hg1⟩))
  go_ret
  exact ⟨rfl,hg1⟩
theorem taNN (b:ByteArray) (w:World):(Instr.typeAssert (.iface 189 (.string b)) 170 189 true).run Tryz.prog w=.ok (.tuple #[.string b,.bool true]) w:=by kernel_rfl
theorem taWN (b:ByteArray) (w:World):(Instr.typeAssert (.iface 191 (.string b)) 170 189 true).run Tryz.prog w=.ok (.tuple #[.string ⟨#[]⟩,.bool false]) w:=by kernel_rfl
theorem taWW (b:ByteArray) (w:World):(Instr.typeAssert (.iface 191 (.string b)) 170 191 true).run Tryz.prog w=.ok (.tuple #[.string b,.bool true]) w:=by kernel_rfl
theorem taNW (b:ByteArray) (w:World):(Instr.typeAssert (.iface 189 (.string b)) 170 191 true).run Tryz.prog w=.ok (.tuple #[.string ⟨#[]⟩,.bool false]) w:=by kernel_rfl
set_option maxHeartbeats 400000 in
theorem orderNN_eq (a b:ByteArray) (w:World) (h:a.size=b.size):Calls Tryz.prog 198 #[.string a,.iface 189 (.string b)] w fun e w'=>e=.returned (.int .i64 (Lib.compareBytes a.data.toList b.data.toList))/\∃n,w'=w.drewN n:=by
 have ta:=taNN b
 have hd:((a.size:Int) == (b.size:Int))=true:=by simp;omega
 clear h
 go_enter Tryz.func198,Tryz.ntmps198
 go_wp2_with (first | (go_at_call 199;refine (cmpN_any _ _ _).mono ?_;rintro e w' ⟨rfl,rfl⟩))
 go_ret
 exact ⟨rfl,0,rfl⟩
set_option maxHeartbeats 400000 in
theorem orderNN_ne (a b:ByteArray) (w:World) (h:¬ a.size=b.size):Calls Tryz.prog 198 #[.string a,.iface 189 (.string b)] w fun e w'=>e=.returned (.int .i64 (Lib.compareInt a.size b.size))/\∃n,w'=w.drewN n:=by
 have ta:=taNN b
 have hd:((a.size:Int) == (b.size:Int))=false:=by simp;omega
 clear h
 go_enter Tryz.func198,Tryz.ntmps198
 go_wp2_with (first | (go_at_call 101;refine (cmpInt_any _ _ _).mono ?_;rintro e w' ⟨rfl,rfl⟩))
 go_ret
 exact ⟨rfl,0,rfl⟩
set_option maxHeartbeats 400000 in
theorem orderNW (a b:ByteArray) (w:World):Calls Tryz.prog 198 #[.string a,.iface 191 (.string b)] w fun e w'=>e=.returned (.int .i64 (-1))/\∃n,w'=w.drewN n:=by
 have ta:=taWN b
 go_enter Tryz.func198,Tryz.ntmps198
 go_wp2
 go_ret
 exact ⟨rfl,0,rfl⟩
set_option maxHeartbeats 400000 in
theorem orderWN (a b:ByteArray) (w:World):Calls Tryz.prog 201 #[.string a,.iface 189 (.string b)] w fun e w'=>e=.returned (.int .i64 1)/\∃n,w'=w.drewN n:=by
 have ta:=taNW b
 go_enter Tryz.func201,Tryz.ntmps201
 go_wp2
 go_ret
 exact ⟨rfl,0,rfl⟩
set_option maxHeartbeats 400000 in
theorem orderWW (a b:ByteArray) (w:World):Calls Tryz.prog 201 #[.string a,.iface 191 (.string b)] w fun e w'=>e=.returned (.int .i64 (Lib.compareBytes a.data.toList b.data.toList))/\∃n,w'=w.drewN n:=by
 have ta:=taWW b
 go_enter Tryz.func201,Tryz.ntmps201
 go_wp2_with (first | (go_at_call 202;refine (cmpW_any _ _ _).mono ?_;rintro e w' ⟨rfl,rfl⟩))
 go_ret
 exact ⟨rfl,0,rfl⟩
open Go.RowKit
set_option linter.unusedVariables false
theorem emp_t {a:ByteArray} (h:a.size=0):a.toList.isEmpty=true:=by
 rw [Lib.toList_data,List.isEmpty_iff];exact List.length_eq_zero_iff.1 (by simpa using h)
theorem emp_f {a:ByteArray} (h:a.size ≠ 0):a.toList.isEmpty=false:=by
 rw [Lib.toList_data]
 cases hl:a.data.toList with
 | nil=>exact absurd (show a.size=0 from by show a.data.size=0;rw [<-Array.length_toList,hl];rfl) h
 | cons c l=>rfl
set_option maxHeartbeats 400000 in
theorem pre_e (a b:ByteArray) (w:World) (h:a.size=0\/b.size=0) :
  Calls Tryz.prog 102 #[.string a,.string b] w fun e w'=>e=.returned (.int .i64 (preC a.data.toList b.data.toList))/\w.grownBy w' none:=by
 have HE:Hid (preC a.data.toList b.data.toList=Lib.compareInt b.size a.size):=by
  show preC a.data.toList b.data.toList=Lib.compareInt b.size a.size
  rw [pre_empty]
  ·simp
  ·rcases h with h | h
   ·left;exact List.length_eq_zero_iff.1 (by simpa using h)
   ·right;exact List.length_eq_zero_iff.1 (by simpa using h)
 rw [HE.out]
 by_cases ha:a.size=0
 ·have c1:=emp_t ha
  have HA:Hid (a.size=0):=ha
  clear h ha
  go_enter Tryz.func102,Tryz.ntmps102
  go_wp2_with (first | (go_at_call 101;refine (cmpInt_any _ _ _).mono ?_;rintro e w' ⟨rfl,rfl⟩))
  all_goals (go_ret;exact ⟨rfl,gb_refl _ _⟩)
 ·have c1:=emp_f ha
  have c2:=emp_t (h.resolve_left ha)
  clear h ha
  go_enter Tryz.func102,Tryz.ntmps102
  go_wp2_with (first | (go_at_call 101;refine (cmpInt_any _ _ _).mono ?_;rintro e w' ⟨rfl,rfl⟩))
  all_goals (go_ret;exact ⟨rfl,gb_refl _ _⟩)
def sizeV:Value->Nat
 | .string s=>s.size
 | _=>0
theorem part_order (P Q:List UInt8) :
  (∃X1 T2 X2,partV P=.iface 189 (.string X1)/\partV Q=.iface T2 (.string X2)/\∀w,Calls Tryz.prog 198 #[.string X1,.iface T2 (.string X2)] w fun e w'=>e=.returned (.int .i64 (partC P Q))/\∃n,w'=w.drewN n) ∨
  (∃X1 T2 X2,partV P=.iface 191 (.string X1)/\partV Q=.iface T2 (.string X2)/\∀w,Calls Tryz.prog 201 #[.string X1,.iface T2 (.string X2)] w fun e w'=>e=.returned (.int .i64 (partC P Q))/\∃n,w'=w.drewN n):=by
 cases hp:numT P with
 | true =>
  left
  cases hq:numT Q with
  | true =>
   refine ⟨⟨(bareT P).toArray⟩,_,⟨(bareT Q).toArray⟩,by unfold partV;rw [hp];rfl,by unfold partV;rw [hq];rfl,fun w=>?_⟩
   rw [partC_nn hp hq]
   have s1:(⟨(bareT P).toArray⟩:ByteArray).size=(bareT P).length:=by show (bareT P).toArray.size=_;simp
   have s2:(⟨(bareT Q).toArray⟩:ByteArray).size=(bareT Q).length:=by show (bareT Q).toArray.size=_;simp
   by_cases h:((bareT P).length:Int)=(bareT Q).length
   ·rw [if_pos h];exact orderNN_eq _ _ w (by rw [s1,s2];omega)
   ·rw [if_neg h]
    have:=orderNN_ne ⟨(bareT P).toArray⟩ ⟨(bareT Q).toArray⟩ w (by rw [s1,s2];omega)
    rw [s1,s2] at this;exact this
  | false =>
   refine ⟨⟨(bareT P).toArray⟩,_,⟨Q.toArray⟩,by unfold partV;rw [hp];rfl,by unfold partV;rw [hq];rfl,fun w=>?_⟩
   rw [partC_nw hp hq];exact orderNW _ _ w
 | false =>
  right
  cases hq:numT Q with
  | true =>
   refine ⟨⟨P.toArray⟩,_,⟨(bareT Q).toArray⟩,by unfold partV;rw [hp];rfl,by unfold partV;rw [hq];rfl,fun w=>?_⟩
   rw [partC_wn hp hq];exact orderWN _ _ w
  | false =>
   refine ⟨⟨P.toArray⟩,_,⟨Q.toArray⟩,by unfold partV;rw [hp];rfl,by unfold partV;rw [hq];rfl,fun w=>?_⟩
   rw [partC_ww hp hq];exact orderWW _ _ w
set_option maxHeartbeats 4000000 in
set_option maxRecDepth 100000 in
theorem pre_f (a b:ByteArray) (w:World) (ha:a.size ≠ 0) (hb:b.size ≠ 0) (hs:a.size < 2 ^ 62) (hs':b.size < 2 ^ 62) :
  Calls Tryz.prog 102 #[.string a,.string b] w fun e w'=>e=.returned (.int .i64 (listC partC (splitD a.data.toList) (splitD b.data.toList)))/\w.grownBy w' none:=by
 have c1:=emp_f ha
 have c2:=emp_f hb
 obtain ⟨R,hR⟩:∃R,R=listC partC (splitD a.data.toList) (splitD b.data.toList):=⟨_,rfl⟩
 rw [<-hR]
 have HR:Hid (R=listC partC (splitD a.data.toList) (splitD b.data.toList)):=hR
 clear hR ha hb
 go_enter Tryz.func102,Tryz.ntmps102
 go_wp2_with (fail)
 go_loopw [0,1] (fun va vb wr=>∃x y:ByteArray,va=.string x/\vb=.string y/\x.size < 2 ^ 62/\y.size < 2 ^ 62/\R=listC partC (splitD x.data.toList) (splitD y.data.toList)/\w.grownBy wr none) (fun va _ _=>sizeV va)
 case atStart=>exact ⟨a,b,rfl,rfl,hs,hs',HR.out,gb_refl _ _⟩
 case round =>
  obtain ⟨x,y,rfl,rfl,hx,hy,hr,hgb⟩:=hrel
  have HX:Hid (R=listC partC (splitD x.data.toList) (splitD y.data.toList)):=hr
  have HG:Hid (w.grownBy wr none):=hgb
  have HB:Hid (x.size < 2 ^ 62/\y.size < 2 ^ 62):=⟨hx,hy⟩
  obtain ⟨P1,hP1⟩:∃P1,P1=cut1 x.data.toList:=⟨_,rfl⟩
  obtain ⟨P2,hP2⟩:∃P2,P2=cut2 x.data.toList:=⟨_,rfl⟩
  obtain ⟨P3,hP3⟩:∃P3,P3=cut3 x.data.toList:=⟨_,rfl⟩
  obtain ⟨Q1,hQ1⟩:∃Q1,Q1=cut1 y.data.toList:=⟨_,rfl⟩
  obtain ⟨Q2,hQ2⟩:∃Q2,Q2=cut2 y.data.toList:=⟨_,rfl⟩
  obtain ⟨Q3,hQ3⟩:∃Q3,Q3=cut3 y.data.toList:=⟨_,rfl⟩
  have HP:Hid (P1=cut1 x.data.toList/\P2=cut2 x.data.toList/\P3=cut3 x.data.toList):=⟨hP1,hP2,hP3⟩
  have HQ:Hid (Q1=cut1 y.data.toList/\Q2=cut2 y.data.toList/\Q3=cut3 y.data.toList):=⟨hQ1,hQ2,hQ3⟩
  have C1:=fun w=>cut_any x w hx
  rw [<-hP1,<-hP2,<-hP3] at C1
  have C2:=fun w=>cut_any y w hy
  rw [<-hQ1,<-hQ2,<-hQ3] at C2
  have p1:(⟨P1.toArray⟩:ByteArray).size < 2 ^ 62:=by
   have:=cut1_len x.data.toList
   rw [<-hP1] at this;show P1.toArray.size < _;simp at this ⊢;omega
  have q1:(⟨Q1.toArray⟩:ByteArray).size < 2 ^ 62:=by
   have:=cut1_len y.data.toList
   rw [<-hQ1] at this;show Q1.toArray.size < _;simp at this ⊢;omega
  have D1:Hid (∀w,Calls Tryz.prog 131 #[.string ⟨P1.toArray⟩] w fun e w'=>e=.returned (partV P1)/\w.grownBy w' none):=fun w=>partOf_any ⟨P1.toArray⟩ w p1
  have D2:Hid (∀w,Calls Tryz.prog 131 #[.string ⟨Q1.toArray⟩] w fun e w'=>e=.returned (partV Q1)/\w.grownBy w' none):=fun w=>partOf_any ⟨Q1.toArray⟩ w q1
  have HC1:Hid (∀w,Calls Tryz.prog 130 #[.string x,.string ⟨#[46]⟩] w fun e w'=>e=.returned (.tuple #[.string ⟨P1.toArray⟩,.string ⟨P2.toArray⟩,.bool P3])/\∃n,w'=w.drewN n):=C1
  have HC2:Hid (∀w,Calls Tryz.prog 130 #[.string y,.string ⟨#[46]⟩] w fun e w'=>e=.returned (.tuple #[.string ⟨Q1.toArray⟩,.string ⟨Q2.toArray⟩,.bool Q3])/\∃n,w'=w.drewN n):=C2
  clear hP1 hP2 hP3 hQ1 hQ2 hQ3 C1 C2 p1 q1 hr hgb hx hy
  obtain ⟨O,hO⟩:∃O,O=partC P1 Q1:=⟨_,rfl⟩
  have HS:Hid (R=if O=0 then (if P3=true then (if Q3=true then listC partC (splitD P2) (splitD Q2) else 1) else (if Q3=true then -1 else 0)) else O):=by
   show R=_
   have h1:=HP.out
   have h2:=HQ.out
   rw [HX.out,list_step,<-h1.1,<-h1.2.1,<-h1.2.2,<-h2.1,<-h2.2.1,<-h2.2.2,<-hO]
  have HL:Hid ((P3=true->P2.length < x.size)/\P2.length < 2 ^ 62/\Q2.length < 2 ^ 62):=by
   have h1:=HP.out
   have h2:=HQ.out
   have h3:=HB.out
   have z1:x.data.toList.length=x.size:=by simp
   have z2:y.data.toList.length=y.size:=by simp
   have l1:=cut2_len x.data.toList
   have l2:=cut2_len y.data.toList
   rw [<-h1.2.1] at l1
   rw [<-h2.2.1] at l2
   refine ⟨fun h=>?_,by omega,by omega⟩
   have:=(cut_yes (h1.2.2 ▸ h:cut3 x.data.toList=true)).2
   rw [<-h1.2.1] at this
   omega
  rcases part_order P1 Q1 with ⟨X1,T2,X2,hv1,hv2,ho⟩ | ⟨X1,T2,X2,hv1,hv2,ho⟩
  ·rw [<-hO] at ho
   rw [hv1] at D1
   rw [hv2] at D2
   have H0:Hid (∀w,Calls Tryz.prog 198 #[.string X1,.iface T2 (.string X2)] w fun e w'=>e=.returned (.int .i64 O)/\∃n,w'=w.drewN n):=ho
   clear ho hv1 hv2 hO
   have na:∀w,(nilAhead 334 189 (.string X1) "pantry/ver.order").run Tryz.prog w=.ok (some false) w:=fun w=>by kernel_rfl
   have hm:∀w,(method 334 189 (.string X1) "pantry/ver.order").run Tryz.prog w=.ok (198,.string X1) w:=fun w=>by kernel_rfl
   go_wp2_with (go_at_call 130;refine (HC1.out _).mono ?_)
   rintro e w1 ⟨rfl,n1,rfl⟩
   go_wp2_with (go_at_call 130;refine (HC2.out _).mono ?_)
   rintro e w1 ⟨rfl,n2,rfl⟩
   go_wp2
   go_region_with (first | (go_at_call_of 131 (Value.string ⟨P1.toArray⟩);refine (D1.out _).mono ?_;rintro e w3 ⟨rfl,hg3⟩) | (go_at_call_of 131 (Value.string ⟨Q1.toArray⟩);refine (D2.out _).mono ?_;rintro e w4 ⟨rfl,hg4⟩) | (go_at_call 198;refine (H0.out _).mono ?_;rintro e w5 ⟨rfl,n5,rfl⟩))
   all_goals
    have GB:Hid (w.grownBy w4 none):=gb_trans (gb_trans (gb_drew HG.out _) hg3) hg4
    clear hg3 hg4 na hm
    cases hz:(O == 0) with
    | false =>
     have HZ:Hid (R=O):=by
      show R=O
      rw [HS.out,if_neg (by simpa using hz)]
     go_wp2
     go_ret
     exact ⟨ret_int HZ.out.symm,gb_drew GB.out _⟩
    | true =>
     have HZ:Hid (O=0):=by
      show O=0
      simpa using hz
     cases P3 with
     | true =>
      cases Q3 with
      | true =>
       go_wp2
       go_roundw
       case rel =>
        refine ⟨⟨P2.toArray⟩,⟨Q2.toArray⟩,rfl,rfl,?_,?_,?_,gb_drew GB.out _⟩
        ·show P2.toArray.size < _
         have:=HL.out.2.1;simpa using this
        ·show Q2.toArray.size < _
         have:=HL.out.2.2;simpa using this
        ·rw [HS.out,if_pos HZ.out];rfl
       case measure =>
        have:=HL.out.1 rfl
        show P2.toArray.size < x.size
        simpa using this
      | false =>
       have HE:Hid (R=1):=by show R=1;rw [HS.out,if_pos HZ.out];rfl
       go_wp2
       go_ret
       exact ⟨ret_int HE.out.symm,gb_drew GB.out _⟩
     | false =>
      cases Q3 with
      | true =>
       have HE:Hid (R=-1):=by show R=-1;rw [HS.out,if_pos HZ.out];rfl
       go_wp2
       go_ret
       exact ⟨ret_int HE.out.symm,gb_drew GB.out _⟩
      | false =>
       have HE:Hid (R=0):=by show R=0;rw [HS.out,if_pos HZ.out];rfl
       go_wp2
       go_ret
       exact ⟨ret_int HE.out.symm,gb_drew GB.out _⟩
  ·rw [<-hO] at ho
   rw [hv1] at D1
   rw [hv2] at D2
   have H0:Hid (∀w,Calls Tryz.prog 201 #[.string X1,.iface T2 (.string X2)] w fun e w'=>e=.returned (.int .i64 O)/\∃n,w'=w.drewN n):=ho
   clear ho hv1 hv2 hO
   have na:∀w,(nilAhead 334 191 (.string X1) "pantry/ver.order").run Tryz.prog w=.ok (some false) w:=fun w=>by kernel_rfl
   have hm:∀w,(method 334 191 (.string X1) "pantry/ver.order").run Tryz.prog w=.ok (201,.string X1) w:=fun w=>by kernel_rfl
   go_wp2_with (go_at_call 130;refine (HC1.out _).mono ?_)
   rintro e w1 ⟨rfl,n1,rfl⟩
   go_wp2_with (go_at_call 130;refine (HC2.out _).mono ?_)
   rintro e w1 ⟨rfl,n2,rfl⟩
   go_wp2
   go_region_with (first | (go_at_call_of 131 (Value.string ⟨P1.toArray⟩);refine (D1.out _).mono ?_;rintro e w3 ⟨rfl,hg3⟩) | (go_at_call_of 131 (Value.string ⟨Q1.toArray⟩);refine (D2.out _).mono ?_;rintro e w4 ⟨rfl,hg4⟩) | (go_at_call 201;refine (H0.out _).mono ?_;rintro e w5 ⟨rfl,n5,rfl⟩))
   all_goals
    have GB:Hid (w.grownBy w4 none):=gb_trans (gb_trans (gb_drew HG.out _) hg3) hg4
    clear hg3 hg4 na hm
    cases hz:(O == 0) with
    | false =>
     have HZ:Hid (R=O):=by
      show R=O
      rw [HS.out,if_neg (by simpa using hz)]
     go_wp2
     go_ret
     exact ⟨ret_int HZ.out.symm,gb_drew GB.out _⟩
    | true =>
     have HZ:Hid (O=0):=by
      show O=0
      simpa using hz
     cases P3 with
     | true =>
      cases Q3 with
      | true =>
       go_wp2
       go_roundw
       case rel =>
        refine ⟨⟨P2.toArray⟩,⟨Q2.toArray⟩,rfl,rfl,?_,?_,?_,gb_drew GB.out _⟩
        ·show P2.toArray.size < _
         have:=HL.out.2.1;simpa using this
        ·show Q2.toArray.size < _
         have:=HL.out.2.2;simpa using this
        ·rw [HS.out,if_pos HZ.out];rfl
       case measure =>
        have:=HL.out.1 rfl
        show P2.toArray.size < x.size
        simpa using this
      | false =>
       have HE:Hid (R=1):=by show R=1;rw [HS.out,if_pos HZ.out];rfl
       go_wp2
       go_ret
       exact ⟨ret_int HE.out.symm,gb_drew GB.out _⟩
     | false =>
      cases Q3 with
      | true =>
       have HE:Hid (R=-1):=by show R=-1;rw [HS.out,if_pos HZ.out];rfl
       go_wp2
       go_ret
       exact ⟨ret_int HE.out.symm,gb_drew GB.out _⟩
      | false =>
       have HE:Hid (R=0):=by show R=0;rw [HS.out,if_pos HZ.out];rfl
       go_wp2
       go_ret
       exact ⟨ret_int HE.out.symm,gb_drew GB.out _⟩
theorem pre_any (a b:ByteArray) (w:World) (hs:a.size < 2 ^ 62) (hs':b.size < 2 ^ 62) :
  Calls Tryz.prog 102 #[.string a,.string b] w fun e w'=>e=.returned (.int .i64 (preC a.data.toList b.data.toList))/\w.grownBy w' none:=by
 by_cases h:a.size=0\/b.size=0
 ·exact pre_e a b w h
 ·have ha:a.size ≠ 0:=fun e=>h (Or.inl e)
  have hb:b.size ≠ 0:=fun e=>h (Or.inr e)
  rw [pre_full a.data.toList b.data.toList (fun e=>ha (by show a.data.size=0;rw [<-Array.length_toList,e];rfl)) (fun e=>hb (by show b.data.size=0;rw [<-Array.length_toList,e];rfl))]
  exact pre_f a b w ha hb hs hs'
open Go.RowKit
set_option linter.unusedVariables false
def or3 (x y z:Int):Int:=if x=0 then (if y=0 then z else y) else x
set_option maxHeartbeats 400000 in
theorem or_any (x y z:Int) (b:Nat) (w:World) (h0:w.cell? ⟨b,0,none⟩=some (.int .i64 x)) (h1:w.cell? ⟨b,1,none⟩=some (.int .i64 y)) (h2:w.cell? ⟨b,2,none⟩=some (.int .i64 z)) :
  Calls Tryz.prog 100 #[.slice (some ⟨b,0,none⟩) 3 3] w fun e w'=>e=.returned (.int .i64 (or3 x y z))/\w'=w:=by
 obtain ⟨R,hR⟩:∃R,R=or3 x y z:=⟨_,rfl⟩
 have HR:Hid (R=or3 x y z):=hR
 rw [<-hR]
 clear hR
 go_enter Tryz.func100,Tryz.ntmps100
 go_wp2
 go_loop [8] (fun i=>∃k:Nat,k<=3/\i=.int .i64 k/\(1<=k->x=0)/\(2<=k->y=0)/\(3<=k->z=0)) (fun i=>3 - (intOf i).toNat)
 case atStart=>exact ⟨0,by omega,rfl,by omega,by omega,by omega⟩
 case round =>
  obtain ⟨k,hk,rfl,k1,k2,k3⟩:=hrel
  rcases (show k=0\/k=1\/k=2\/k=3 by omega) with rfl | rfl | rfl | rfl
  ·clear k1 k2 k3 hk
   cases hz:(x == 0) with
   | true =>
    have hx:x=0:=by simpa using hz
    go_wp2
    go_round
    case rel=>exact ⟨1,by omega,rfl,fun _=>hx,by omega,by omega⟩
    case measure=>simp [intOf]
   | false =>
    have HZ:Hid (R=x):=by show R=x;rw [HR.out];unfold or3;rw [if_neg (by simpa using hz)]
    go_wp2
    go_ret
    exact ⟨ret_int HZ.out.symm,rfl⟩
  ·have hx:Hid (x=0):=k1 (by omega)
   clear k1 k2 k3 hk
   cases hz:(y == 0) with
   | true =>
    have hy:y=0:=by simpa using hz
    go_wp2
    go_round
    case rel=>exact ⟨2,by omega,rfl,fun _=>hx.out,fun _=>hy,by omega⟩
    case measure=>simp [intOf]
   | false =>
    have HZ:Hid (R=y):=by show R=y;rw [HR.out];unfold or3;rw [if_pos hx.out,if_neg (by simpa using hz)]
    go_wp2
    go_ret
    exact ⟨ret_int HZ.out.symm,rfl⟩
  ·have hx:Hid (x=0):=k1 (by omega)
   have hy:Hid (y=0):=k2 (by omega)
   clear k1 k2 k3 hk
   have HZ:Hid (R=z):=by show R=z;rw [HR.out];unfold or3;rw [if_pos hx.out,if_pos hy.out]
   cases hz:(z == 0) with
   | true =>
    have hy':z=0:=by simpa using hz
    go_wp2
    go_round
    case rel=>exact ⟨3,by omega,rfl,fun _=>hx.out,fun _=>hy.out,fun _=>hy'⟩
    case measure=>simp [intOf]
   | false =>
    go_wp2
    go_ret
    exact ⟨ret_int HZ.out.symm,rfl⟩
  ·have HZ:Hid (R=0):=by show R=0;rw [HR.out];unfold or3;rw [if_pos (k1 (by omega)),if_pos (k2 (by omega)),k3 (by omega)]
   clear k1 k2 k3 hk
   go_wp2
   go_ret
   exact ⟨ret_int HZ.out.symm,rfl⟩
theorem verC_or (a b:V):verC a b=if or3 (Lib.compareInt a.major b.major) (Lib.compareInt a.minor b.minor) (Lib.compareInt a.patch b.patch)=0 then preC a.pre b.pre else or3 (Lib.compareInt a.major b.major) (Lib.compareInt a.minor b.minor) (Lib.compareInt a.patch b.patch):=by
 rw [verC_eq];unfold or3
 repeat' split
 all_goals first | rfl | (exfalso;omega) | omega
set_option maxHeartbeats 800000 in
theorem compare_any (a1 a2 a3 b1 b2 b3:Int) (a4 a5 b4 b5:ByteArray) (w:World) (hs:a4.size < 2 ^ 62) (hs':b4.size < 2 ^ 62) :
  Calls Tryz.prog 71 #[.agg #[.int .i64 a1,.int .i64 a2,.int .i64 a3,.string a4,.string a5],.agg #[.int .i64 b1,.int .i64 b2,.int .i64 b3,.string b4,.string b5]] w fun e w'=>e=.returned (.int .i64 (verC ⟨a1,a2,a3,a4.data.toList⟩ ⟨b1,b2,b3,b4.data.toList⟩))/\w.grownBy w' none:=by
 obtain ⟨R,hR⟩:∃R,R=verC ⟨a1,a2,a3,a4.data.toList⟩ ⟨b1,b2,b3,b4.data.toList⟩:=⟨_,rfl⟩
 obtain ⟨x,hx⟩:∃x,x=Lib.compareInt a1 b1:=⟨_,rfl⟩
 obtain ⟨y,hy⟩:∃y,y=Lib.compareInt a2 b2:=⟨_,rfl⟩
 obtain ⟨z,hz⟩:∃z,z=Lib.compareInt a3 b3:=⟨_,rfl⟩
 obtain ⟨p,hp⟩:∃p,p=preC a4.data.toList b4.data.toList:=⟨_,rfl⟩
 obtain ⟨o,ho⟩:∃o,o=or3 x y z:=⟨_,rfl⟩
 have HR:Hid (R=if o=0 then p else o):=by
  show R=if o=0 then p else o
  rw [hR,verC_or,ho,hx,hy,hz,hp]
 have C1:Hid (∀w,Calls Tryz.prog 101 #[.int .i64 a1,.int .i64 b1] w fun e w'=>e=.returned (.int .i64 x)/\w'=w):=fun w=>by rw [hx];exact cmpInt_any _ _ w
 have C2:Hid (∀w,Calls Tryz.prog 101 #[.int .i64 a2,.int .i64 b2] w fun e w'=>e=.returned (.int .i64 y)/\w'=w):=fun w=>by rw [hy];exact cmpInt_any _ _ w
 have C3:Hid (∀w,Calls Tryz.prog 101 #[.int .i64 a3,.int .i64 b3] w fun e w'=>e=.returned (.int .i64 z)/\w'=w):=fun w=>by rw [hz];exact cmpInt_any _ _ w
 have CP:Hid (∀w,Calls Tryz.prog 102 #[.string a4,.string b4] w fun e w'=>e=.returned (.int .i64 p)/\w.grownBy w' none):=fun w=>by rw [hp];exact pre_any a4 b4 w hs hs'
 have CO:Hid (∀(b:Nat) (w:World),w.cell? ⟨b,0,none⟩=some (.int .i64 x)->w.cell? ⟨b,1,none⟩=some (.int .i64 y)->w.cell? ⟨b,2,none⟩=some (.int .i64 z)->Calls Tryz.prog 100 #[.slice (some ⟨b,0,none⟩) 3 3] w fun e w'=>e=.returned (.int .i64 o)/\w'=w):=fun b w h0 h1 h2=>by rw [ho];exact or_any x y z b w h0 h1 h2
 rw [<-hR]
 clear hR hx hy hz hp ho hs hs'
 go_enter Tryz.func71,Tryz.ntmps71
 go_wp2
 obtain ⟨W,hW⟩:∃W,(w.alloc (.cells #[.int .i64 a1,.int .i64 a2,.int .i64 a3,.string a4,.string a5] 105)).alloc (.cells #[.int .i64 b1,.int .i64 b2,.int .i64 b3,.string b4,.string b5] 105)=W:=⟨_,rfl⟩
 rw [hW]
 have g1:W.heap[w.heap.size]?=some (.cells #[.int .i64 a1,.int .i64 a2,.int .i64 a3,.string a4,.string a5] 105 (0,0)):=by
  rw [<-hW,Lib.alloc_old _ _ _ (by simp)]
  exact heap_alloc_new w _
 have g2:W.heap[w.heap.size+1]?=some (.cells #[.int .i64 b1,.int .i64 b2,.int .i64 b3,.string b4,.string b5] 105 (0,0)):=by
  rw [<-hW]
  have:=heap_alloc_new (w.alloc (.cells #[.int .i64 a1,.int .i64 a2,.int .i64 a3,.string a4,.string a5] 105)) (.cells #[.int .i64 b1,.int .i64 b2,.int .i64 b3,.string b4,.string b5] 105)
  rw [show (w.alloc (.cells #[.int .i64 a1,.int .i64 a2,.int .i64 a3,.string a4,.string a5] 105)).heap.size=w.heap.size+1 by simp] at this
  exact this
 have HGW:Hid (w.grownBy W none):=by
  show w.grownBy W none
  rw [<-hW]
  exact ⟨rfl,rfl,rfl,by simp;omega,fun k hk _=>by rw [Lib.alloc_old _ _ _ (by simp;omega),Lib.alloc_old _ _ _ hk]⟩
 have HSZ:Hid (W.heap.size=w.heap.size+2):=by
  show W.heap.size=w.heap.size+2
  rw [<-hW];simp
 obtain ⟨A,hA⟩:∃A,w.heap.size=A:=⟨_,rfl⟩
 rw [hA] at g1 g2
 rw [hA]
 have HA:Hid (W.heap.size=A+2):=by
  show W.heap.size=A+2
  rw [<-hA];exact HSZ.out
 have c0:W.cell? ⟨A,0,none⟩=some (.int .i64 a1):=by rw [Lib.cell_of_heap g1];rfl
 have c1:W.cell? ⟨A,1,none⟩=some (.int .i64 a2):=by rw [Lib.cell_of_heap g1];rfl
 have c2:W.cell? ⟨A,2,none⟩=some (.int .i64 a3):=by rw [Lib.cell_of_heap g1];rfl
 have c3:Hid (W.cell? ⟨A,3,none⟩=some (.string a4)):=by show W.cell? _=_;rw [Lib.cell_of_heap g1];rfl
 have d0:W.cell? ⟨A+1,0,none⟩=some (.int .i64 b1):=by rw [Lib.cell_of_heap g2];rfl
 have d1:W.cell? ⟨A+1,1,none⟩=some (.int .i64 b2):=by rw [Lib.cell_of_heap g2];rfl
 have d2:W.cell? ⟨A+1,2,none⟩=some (.int .i64 b3):=by rw [Lib.cell_of_heap g2];rfl
 have d3:Hid (W.cell? ⟨A+1,3,none⟩=some (.string b4)):=by show W.cell? _=_;rw [Lib.cell_of_heap g2];rfl
 clear hW hA HSZ g1 g2
 go_region_held3 (fun w'=>w'.cell? ⟨A,0,none⟩=some (.int .i64 a1)/\w'.cell? ⟨A,1,none⟩=some (.int .i64 a2)/\w'.cell? ⟨A,2,none⟩=some (.int .i64 a3)/\w'.cell? ⟨A+1,0,none⟩=some (.int .i64 b1)/\w'.cell? ⟨A+1,1,none⟩=some (.int .i64 b2)/\w'.cell? ⟨A+1,2,none⟩=some (.int .i64 b3)) (go_keep) (first | (go_at_call_of 101 (Value.int .i64 a1);refine (C1.out _).mono ?_;rintro e w' ⟨rfl,rfl⟩) | (go_at_call_of 101 (Value.int .i64 a2);refine (C2.out _).mono ?_;rintro e w' ⟨rfl,rfl⟩) | (go_at_call_of 101 (Value.int .i64 a3);refine (C3.out _).mono ?_;rintro e w' ⟨rfl,rfl⟩) | (go_at_call 100;refine (CO.out _ _ (by simp) (by simp) (by simp)).mono ?_;rintro e w' ⟨rfl,rfl⟩))
 obtain ⟨W2,hW2⟩:∃W2,(W.alloc (.cells #[.int .i64 x,.int .i64 y,.int .i64 z] 3)).drew=W2:=⟨_,rfl⟩
 rw [hW2]
 have hlt:A < W.heap.size/\A+1 < W.heap.size:=by have:=HA.out;omega
 have e3:W2.cell? ⟨A,3,none⟩=some (.string a4):=by
  rw [<-hW2]
  exact (World.cell?_of_block (show ((W.alloc _).drew).heap[A]?=W.heap[A]? from Lib.alloc_old W _ A hlt.1)).trans c3.out
 have f3:W2.cell? ⟨A+1,3,none⟩=some (.string b4):=by
  rw [<-hW2]
  exact (World.cell?_of_block (show ((W.alloc _).drew).heap[A+1]?=W.heap[A+1]? from Lib.alloc_old W _ (A+1) hlt.2)).trans d3.out
 have HG2:Hid (w.grownBy W2 none):=by
  show w.grownBy W2 none
  rw [<-hW2]
  have h1:W.grownBy ((W.alloc (.cells #[.int .i64 x,.int .i64 y,.int .i64 z] 3)).drew) none:=⟨rfl,rfl,rfl,by simp,fun k hk _=>Lib.alloc_old W _ k hk⟩
  exact gb_trans HGW.out h1
 clear hW2 hlt c0 c1 c2 c3 d0 d1 d2 d3 HA HGW C1 C2 C3 CO
 cases hz:(o == 0) with
 | false =>
  have HZ:Hid (R=o):=by show R=o;rw [HR.out,if_neg (by simpa using hz)]
  go_wp2
  go_ret
  exact ⟨ret_int HZ.out.symm,HG2.out⟩
 | true =>
  have HZ:Hid (R=p):=by show R=p;rw [HR.out,if_pos (by simpa using hz)]
  go_wp2_with (first | (go_at_call 102;refine (CP.out _).mono ?_;rintro e w4 ⟨rfl,hg4⟩))
  go_ret
  exact ⟨ret_int HZ.out.symm,gb_trans HG2.out hg4⟩
open Go.RowKit
set_option linter.unusedVariables false
set_option maxHeartbeats 400000 in
theorem rorder_any (x y:Int) (w:World):Calls Tryz.prog 72 #[.int .i64 x,.int .i64 y] w fun e w'=>e=.returned (.int .i64 (Lib.compareInt x y))/\w'=w:=by
 go_enter Tryz.func72,Tryz.ntmps72
 go_wp2
 all_goals go_ret
 all_goals (refine ⟨ret_int ?_,rfl⟩;unfold Lib.compareInt;repeat' split)
 all_goals omega
set_option maxHeartbeats 400000 in
theorem rorderText_any (a b:ByteArray) (w:World):Calls Tryz.prog 133 #[.string a,.string b] w fun e w'=>e=.returned (.int .i64 (Lib.compareBytes a.data.toList b.data.toList))/\w'=w:=by
 cases h1:Op.bytesLess a.toList b.toList with
 | true =>
  rw [less_m1 h1]
  go_enter Tryz.func133,Tryz.ntmps133
  go_wp2
  go_ret
  exact ⟨rfl,rfl⟩
 | false =>
  cases h2:(!a.toList == b.toList) with
  | true =>
   rw [less_p1 h1 h2]
   go_enter Tryz.func133,Tryz.ntmps133
   go_wp2
   go_ret
   exact ⟨rfl,rfl⟩
  | false =>
   rw [less_0 h2]
   go_enter Tryz.func133,Tryz.ntmps133
   go_wp2
   go_ret
   exact ⟨rfl,rfl⟩
theorem bareR_stop (l:List UInt8) (h:l.length<=1\/l[0]? ≠ some 48):bareR l=l:=by
 match l with
 | []=>rfl
 | [c]=>rfl
 | c :: d :: r =>
  have:c ≠ 48:=by
   rcases h with h | h
   ·simp at h
   ·simpa using h
  unfold bareR;rw [if_neg this]
theorem bareR_step (l:List UInt8) (h1:1 < l.length) (h:l[0]?=some 48):bareR l=bareR (l.drop 1):=by
 match l with
 | []=>simp at h1
 | [c]=>simp at h1
 | c :: d :: r =>
  have:c=48:=by simpa using h
  conv=>lhs;unfold bareR
  rw [if_pos this];rfl
theorem mk_data (x:ByteArray):(⟨x.data.toList.toArray⟩:ByteArray)=x:=by cases x;simp
set_option maxHeartbeats 400000 in
theorem rbare_any (s:ByteArray) (w:World) (hs:s.size < 2 ^ 62) :
  Calls Tryz.prog 134 #[.string s] w fun e w'=>e=.returned (.string ⟨(bareR s.data.toList).toArray⟩)/\w'=w:=by
 obtain ⟨R,hR⟩:∃R,R=bareR s.data.toList:=⟨_,rfl⟩
 have HR:Hid (R=bareR s.data.toList):=hR
 rw [<-hR]
 clear hR
 go_enter Tryz.func134,Tryz.ntmps134
 go_wp2
 go_loop [0] (fun v=>∃x:ByteArray,v=.string x/\R=bareR x.data.toList) (fun v=>sizeV v)
 case atStart=>exact ⟨s,rfl,HR.out⟩
 case round =>
  obtain ⟨x,rfl,hr⟩:=hrel
  have HX:Hid (R=bareR x.data.toList):=hr
  clear hr
  by_cases h1:1 < x.size
  ·have h0:0 < x.size:=by omega
   cases hz:((x[0].toNat:Int) == 48) with
   | true =>
    have hc:x[0]=48:=UInt8.toNat_inj.1 (by have:=eq_of_beq hz;have e48:(48:UInt8).toNat=48:=rfl;omega)
    obtain ⟨Y,hY⟩:∃Y:ByteArray,Y=⟨(x.data.toList.drop 1).toArray⟩:=⟨_,rfl⟩
    have HY:Hid (R=bareR Y.data.toList):=by
     show R=bareR Y.data.toList
     rw [HX.out,bareR_step _ (by simpa using h1) (by rw [get_data x 0 h0,hc]),hY]
    have HL:Hid (Y.size < x.size):=by
     show Y.size < x.size
     rw [hY];show (x.data.toList.drop 1).toArray.size < x.size
     simp;omega
    have sl:∀wx,(Instr.slice 9 (.string x) (some (.int .i64 1)) none none).run Tryz.prog wx=.ok (.string Y) wx:=fun wx=>by rw [hY];exact run_suf x 1 (by omega) wx
    clear hY hc
    go_wp2
    go_round
    case rel=>exact ⟨Y,rfl,HY.out⟩
    case measure=>exact HL.out
   | false =>
    have HS:Hid (R=x.data.toList):=by
     show R=x.data.toList
     rw [HX.out]
     refine bareR_stop _ (Or.inr ?_)
     rw [get_data x 0 h0]
     intro e
     have e':x[0]=48:=Option.some.inj e
     rw [e'] at hz
     exact absurd hz (by decide)
    go_wp2
    go_ret
    exact ⟨by rw [HS.out,mk_data];rfl,rfl⟩
  ·have HS:Hid (R=x.data.toList):=by
    show R=x.data.toList
    rw [HX.out]
    exact bareR_stop _ (Or.inl (by simp;exact Nat.le_of_not_lt h1))
   go_wp2
   go_ret
   exact ⟨by rw [HS.out,mk_data];rfl,rfl⟩
open Go.RowKit
set_option linter.unusedVariables false
theorem below_drewN {B:Nat} {a w:World} (h:Below B a w) (n:Nat):Below B a (w.drewN n):=⟨h.os,h.tape,h.output,h.size,h.block⟩
theorem owns_slice {w:World} {base:Nat} {v:Value} {D:List (List UInt8)} (h:w.ownsRow base 9 1 v D.length (strL D)) (hne:D ≠ []) :
  ∃g cap,v=.slice (some ⟨g,0,none⟩) D.length cap/\base<=g/\g < w.heap.size/\∀j,(hj:j < D.length)->w.cell? ⟨g,j,none⟩=some (.string ⟨D[j].toArray⟩):=by
 have hpos:0 < D.length:=List.length_pos_iff.2 hne
 rcases h.2 with ⟨_,hz⟩ | ⟨g,cap,cur,hv,hbg,hg,hnc,hcm,hcs,htake⟩
 ·simp at hz;exact absurd hz hne
 ·refine ⟨g,cap,hv,hbg,(Array.getElem?_eq_some_iff.1 hg).1,fun j hj=>?_⟩
  have ht:cur.toList.take D.length=strL D:=by simpa using htake
  rw [Lib.cell_of_heap hg]
  have h1:(strL D)[j]?=some (.string ⟨D[j].toArray⟩):=by unfold strL;rw [List.getElem?_map,List.getElem?_eq_getElem hj];rfl
  rw [<-ht,List.getElem?_take_of_lt hj] at h1
  simpa using h1
theorem split_slice (s:ByteArray) (w:World) (hs:s.size<=1048576) :
  Calls Tryz.prog 103 #[.string s] w fun e w'=>∃g cap,e=.returned (.slice (some ⟨g,0,none⟩) (splitD s.data.toList).length cap)/\w.heap.size<=g/\g < w'.heap.size/\(∀j,(hj:j < (splitD s.data.toList).length)->w'.cell? ⟨g,j,none⟩=some (.string ⟨(splitD s.data.toList)[j].toArray⟩))/\Below w.heap.size w w':=by
 refine (split_any s w hs).mono ?_
 rintro e w' ⟨v,rfl,hrow,hb⟩
 obtain ⟨g,cap,rfl,h1,h2,h3⟩:=owns_slice hrow (splitD_ne _)
 exact ⟨g,cap,rfl,h1,h2,h3,hb⟩
theorem part_len:∀(l:List UInt8) (p:List UInt8),p ∈ splitD l->p.length<=l.length
 | [],p,h=>by simp [splitD] at h;rw [h];exact Nat.le_refl _
 | c :: l,p,h=>by
  rw [splitD_cons] at h
  split at h
  ·rcases List.mem_cons.1 h with rfl | h
   ·simp
   ·have:=part_len l p h;simp;omega
  ·cases hs:splitD l with
   | nil=>exact absurd hs (splitD_ne l)
   | cons q qs =>
    rw [hs] at h
    rcases List.mem_cons.1 h with rfl | h
    ·have:=part_len l q (by rw [hs];simp);simp;omega
    ·have:=part_len l p (by rw [hs];simp [h]);simp;omega
theorem split_len:∀(l:List UInt8),(splitD l).length<=l.length+1
 | []=>by simp [splitD]
 | c :: l=>by
  have ih:=split_len l
  rw [splitD_cons]
  split
  ·simp;exact ih
  ·cases hs:splitD l with
   | nil=>exact absurd hs (splitD_ne l)
   | cons q qs=>rw [hs] at ih;simp at ih ⊢;omega
end Go.Proofs.YtpeghomkaphdcaaGreatDoor
