import Derived.Test.YtonfldbigenfhaaGreatDoorM43
namespace Go.Proofs.YtonfldbigenfhaaGreatDoor
open Go.RowKit
set_option linter.unusedVariables false
set_option maxRecDepth 100000 in
set_option maxHeartbeats 6400000 in
theorem rangeCaretsLaw (a b c:Int) (w:World) :
  Calls Tryz.prog 8 #[.int .i64 a,.int .i64 b,.int .i64 c] w fun e w'=>e=.returned (.bool true)/\w.grownBy w' none:=by
 have FY:Hid (∀n w,(0<=n/\n < 999999999)->Calls Tryz.prog 27 #[.int .i64 n] w fun e w'=>e=.returned (.bool true)/\w.grownBy w' none):=fun n w h=>fits_yes n w h.1 h.2
 have FN:Hid (∀n w,¬ (0<=n/\n < 999999999)->Calls Tryz.prog 27 #[.int .i64 n] w fun e w'=>e=.returned (.bool false)/\w.grownBy w' none):=fun n w h=>fits_no n w h
 by_cases fa:0<=a/\a < 999999999
 ·have FA:Hid (0<=a/\a < 999999999):=fa
  by_cases fb:0<=b/\b < 999999999
  ·have FB:Hid (0<=b/\b < 999999999):=fb
   by_cases fc:0<=c/\c < 999999999
   ·have FC:Hid (0<=c/\c < 999999999):=fc
    have na:Nn a:=⟨fa.1,by omega⟩
    have nb:Nn b:=⟨fb.1,by omega⟩
    have nc:Nn c:=⟨fc.1,by omega⟩
    have n0:Nn 0:=by unfold Nn;omega
    have nt1:Nn (caretTo a b c).1:=by
     unfold caretTo Nn
     repeat' split
     all_goals simp only [];omega
    have nt2:Nn (caretTo a b c).2.1:=by
     unfold caretTo Nn
     repeat' split
     all_goals simp only [];omega
    have nt3:Nn (caretTo a b c).2.2:=by
     unfold caretTo Nn
     repeat' split
     all_goals simp only [];omega
    obtain ⟨X,hX⟩:∃X,textV ⟨a,b,c,[],[]⟩=X:=⟨_,rfl⟩
    obtain ⟨X0,hX0⟩:∃X,textV ⟨a,b,0,[],[]⟩=X:=⟨_,rfl⟩
    obtain ⟨Y,hY⟩:∃X,textV ⟨(caretTo a b c).1,(caretTo a b c).2.1,(caretTo a b c).2.2,[],[]⟩=X:=⟨_,rfl⟩
    have lX:=three_len na nb nc
    have lX0:=three_len na nb n0
    have lY:=three_len nt1 nt2 nt3
    rw [hX] at lX
    rw [hX0] at lX0
    rw [hY] at lY
    have C1:Hid (∀w,Calls Tryz.prog 28 #[.int .i64 a,.int .i64 b,.int .i64 c] w fun e w'=>e=.returned (.string ⟨X.toArray⟩)/\w.grownBy w' none):=fun w=>by rw [<-hX];exact three_any a b c w na nb nc
    have C5:Hid (∀w,Calls Tryz.prog 28 #[.int .i64 a,.int .i64 b,.int .i64 0] w fun e w'=>e=.returned (.string ⟨X0.toArray⟩)/\w.grownBy w' none):=fun w=>by rw [<-hX0];exact three_any a b 0 w na nb n0
    have C2:Hid (∀w,Calls Tryz.prog 28 #[.int .i64 (a+1),.int .i64 0,.int .i64 0] w fun e w'=>(∃Q:List UInt8,e=.returned (.string ⟨Q.toArray⟩)/\(¬ a=0->Q=Y))/\w.grownBy w' none):=fun w=>(three_any (a+1) 0 0 w ⟨by omega,by omega⟩ n0 n0).mono fun e w' ⟨h1,h2⟩=>⟨⟨_,h1,fun h=>by rw [<-hY];unfold caretTo;rw [if_neg h]⟩,h2⟩
    have C3:Hid (∀w,Calls Tryz.prog 28 #[.int .i64 0,.int .i64 (b+1),.int .i64 0] w fun e w'=>(∃Q:List UInt8,e=.returned (.string ⟨Q.toArray⟩)/\(a=0->¬ b=0->Q=Y))/\w.grownBy w' none):=fun w=>(three_any 0 (b+1) 0 w n0 ⟨by omega,by omega⟩ n0).mono fun e w' ⟨h1,h2⟩=>⟨⟨_,h1,fun h h'=>by rw [<-hY];unfold caretTo;rw [if_pos h,if_neg h']⟩,h2⟩
    have C4:Hid (∀w,Calls Tryz.prog 28 #[.int .i64 0,.int .i64 0,.int .i64 (c+1)] w fun e w'=>(∃Q:List UInt8,e=.returned (.string ⟨Q.toArray⟩)/\(a=0->b=0->Q=Y))/\w.grownBy w' none):=fun w=>(three_any 0 0 (c+1) w n0 n0 ⟨by omega,by omega⟩).mono fun e w' ⟨h1,h2⟩=>⟨⟨_,h1,fun h h'=>by rw [<-hY];unfold caretTo;rw [if_pos h,if_pos h']⟩,h2⟩
    obtain ⟨Z1,e1,l1,z1⟩:=add_z [94] X (by simp only [List.length_cons,List.length_nil];omega)
    obtain ⟨Z2,e2,l2,z2⟩:=add_z [62,61] X (by simp only [List.length_cons,List.length_nil];omega)
    obtain ⟨Z3,e3,l3,z3⟩:=add_z Z2 [32,60] (by simp only [List.length_cons,List.length_nil] at *;omega)
    obtain ⟨Z4,e4,l4,z4⟩:=add_z Z3 Y (by simp only [List.length_cons,List.length_nil] at *;omega)
    obtain ⟨Z5,e5,l5,z5⟩:=add_z Z4 [45,48] (by simp only [List.length_cons,List.length_nil] at *;omega)
    obtain ⟨Z6,e6,l6,z6⟩:=add_z [94] X0 (by simp only [List.length_cons,List.length_nil];omega)
    obtain ⟨Z7,e7,l7,z7⟩:=add_z Z6 [32,124,124,32,94] (by simp only [List.length_cons,List.length_nil] at *;omega)
    obtain ⟨Z8,e8,l8,z8⟩:=add_z Z7 X (by simp only [List.length_cons,List.length_nil] at *;omega)
    simp only [List.length_cons,List.length_nil] at l1 l2 l3 l4 l5 l6 l7 l8
    have hp:PT X ⟨3,a,b,c,[]⟩:=by rw [<-hX];exact pt3 na nb nc (ok_nil _) (ok_nil _)
    have hp0:PT X0 ⟨3,a,b,0,[]⟩:=by rw [<-hX0];exact pt3 na nb n0 (ok_nil _) (ok_nil _)
    have hq:PT (Y++[45,48]) ⟨3,(caretTo a b c).1,(caretTo a b c).2.1,(caretTo a b c).2.2,[48]⟩:=by rw [<-hY,three_pre];exact pt3 nt1 nt2 nt3 ok_48 (ok_nil _)
    have A1:Hid (∀w,Calls Tryz.prog 29 #[.string ⟨Z1.toArray⟩,.string ⟨Z5.toArray⟩] w fun e w'=>e=.returned (.bool true)/\w.grownBy w' none):=fun w=>by
     have r1:RT Z1 [[⟨5,⟨3,a,b,c,[]⟩⟩]]:=by rw [e1];exact rt1 SgT.ca hp
     have r2:RT Z5 [[⟨1,⟨3,a,b,c,[]⟩⟩,⟨4,⟨3,(caretTo a b c).1,(caretTo a b c).2.1,(caretTo a b c).2.2,[48]⟩⟩]]:=by
      have:=rt2 SgT.ge hp SgT.lt hq
      rw [e5,e4,e3,e2]
      simpa [signOr] using this
     exact alike_yes Z1 Z5 _ _ w r1 r2 (by omega) (by omega) (fun v hv=>caret_one na nb nc nt1 nt2 nt3 hv)
    have A2:Hid (∀w,Calls Tryz.prog 29 #[.string ⟨Z6.toArray⟩,.string ⟨Z8.toArray⟩] w fun e w'=>(∃b':Bool,e=.returned (.bool b')/\((0 < b\/0 < a)->b'=true))/\w.grownBy w' none):=fun w=>by
     have r1:RT Z6 [[⟨5,⟨3,a,b,0,[]⟩⟩]]:=by rw [e6];exact rt1 SgT.ca hp0
     have r2:RT Z8 [[⟨5,⟨3,a,b,0,[]⟩⟩],[⟨5,⟨3,a,b,c,[]⟩⟩]]:=by
      have h1:=set1 SgT.ca hp0
      have:=rt_sp h1.1 h1.2 (rt1 SgT.ca hp)
      rw [e8,e7,e6]
      simpa [signOr] using this
     refine (alike_some Z6 Z8 _ _ w r1 r2 (by omega) (by omega)).mono ?_
     rintro e w' ⟨⟨b',h1,h2⟩,hg⟩
     exact ⟨⟨b',h1,fun h=>h2 (fun v hv=>caret_two na nb nc h hv)⟩,hg⟩
    have y1:∀wx,(Op.stringOp .add ⟨#[94]⟩ ⟨X.toArray⟩).run Tryz.prog wx=.ok (.string ⟨Z1.toArray⟩) wx:=z1
    have y2:∀wx,(Op.stringOp .add ⟨#[62,61]⟩ ⟨X.toArray⟩).run Tryz.prog wx=.ok (.string ⟨Z2.toArray⟩) wx:=z2
    have y3:∀wx,(Op.stringOp .add ⟨Z2.toArray⟩ ⟨#[32,60]⟩).run Tryz.prog wx=.ok (.string ⟨Z3.toArray⟩) wx:=z3
    have y5:∀wx,(Op.stringOp .add ⟨Z4.toArray⟩ ⟨#[45,48]⟩).run Tryz.prog wx=.ok (.string ⟨Z5.toArray⟩) wx:=z5
    have y6:∀wx,(Op.stringOp .add ⟨#[94]⟩ ⟨X0.toArray⟩).run Tryz.prog wx=.ok (.string ⟨Z6.toArray⟩) wx:=z6
    have y7:∀wx,(Op.stringOp .add ⟨Z6.toArray⟩ ⟨#[32,124,124,32,94]⟩).run Tryz.prog wx=.ok (.string ⟨Z7.toArray⟩) wx:=z7
    have q1:=fa.1
    have q2:=fa.2
    have q3:=fb.1
    have q4:=fb.2
    have q5:=fc.1
    have q6:=fc.2
    clear z1 z2 z3 z5 z6 z7 e1 e2 e3 e4 e5 e6 e7 e8 l1 l2 l3 l4 l5 l6 l7 l8 hp hp0 hq hX hX0 hY lX lX0 lY na nb nc n0 nt1 nt2 nt3 fa fb fc
    have HG:Hid (w.grownBy w none):=gb_refl _ _
    go_enter Tryz.func8,Tryz.ntmps8
    go_wp2_with (first | (go_at_call_of 27 a;refine (FY.out _ _ FA.out).mono ?_;rintro e w' ⟨rfl,hg⟩;replace HG:Hid (w.grownBy w' none):=gb_trans HG.out hg;clear hg) | (go_at_call_of 27 b;refine (FY.out _ _ FB.out).mono ?_;rintro e w' ⟨rfl,hg⟩;replace HG:Hid (w.grownBy w' none):=gb_trans HG.out hg;clear hg) | (go_at_call_of 27 c;refine (FY.out _ _ FC.out).mono ?_;rintro e w' ⟨rfl,hg⟩;replace HG:Hid (w.grownBy w' none):=gb_trans HG.out hg;clear hg) | (go_at_call 28;refine (C1.out _).mono ?_))
    rintro e w1 ⟨rfl,hg⟩
    replace HG:Hid (w.grownBy w1 none):=gb_trans HG.out hg
    clear hg
    go_wp2_with (first | (go_at_call 28;refine (C2.out _).mono ?_))
    rintro e w2 ⟨⟨Q,rfl,hQ⟩,hg⟩
    replace HG:Hid (w.grownBy w2 none):=gb_trans HG.out hg
    clear hg
    by_cases ha0:a=0
    ·clear hQ
     have ha0':(a == 0)=true:=by simp [ha0]
     have HA0:Hid (a=0):=ha0
     clear ha0
     go_wp2_with (first | (go_at_call 28;refine (C3.out _).mono ?_))
     rintro e w3 ⟨⟨Q',rfl,hQ⟩,hg⟩
     replace HG:Hid (w.grownBy w3 none):=gb_trans HG.out hg
     clear hg
     by_cases hb0:b=0
     ·clear hQ
      have hb0':(b == 0)=true:=by simp [hb0]
      have HB0:Hid (b=0):=hb0
      clear hb0
      go_wp2_with (first | (go_at_call 28;refine (C4.out _).mono ?_))
      rintro e w4 ⟨⟨Q'',rfl,hQ⟩,hg⟩
      replace HG:Hid (w.grownBy w4 none):=gb_trans HG.out hg
      clear hg
      have hQY:=hQ HA0.out HB0.out
      subst hQY
      clear hQ
      go_wp2_with (first | (go_at_call 29;refine (A1.out _).mono ?_))
      rintro e wa ⟨rfl,hg⟩
      replace HG:Hid (w.grownBy wa none):=gb_trans HG.out hg
      clear hg
      go_wp2_with (first | (go_at_call 28;refine (C5.out _).mono ?_))
      rintro e wb ⟨rfl,hg⟩
      replace HG:Hid (w.grownBy wb none):=gb_trans HG.out hg
      clear hg
      go_wp2_with (first | (go_at_call 28;refine (C5.out _).mono ?_))
      rintro e wd ⟨rfl,hg⟩
      replace HG:Hid (w.grownBy wd none):=gb_trans HG.out hg
      clear hg
      go_wp2_with (first | (go_at_call 29;refine (A2.out _).mono ?_))
      rintro e we ⟨⟨b',rfl,hb'⟩,hg⟩
      replace HG:Hid (w.grownBy we none):=gb_trans HG.out hg
      clear hg
      have g1:¬ 0 < b:=by have:=HB0.out;omega
      have g2:¬ 0 < a:=by have:=HA0.out;omega
      clear hb'
      go_wp2
      go_ret
      exact ⟨rfl,HG.out⟩
     ·have hb0':(b == 0)=false:=by simp [hb0]
      have hQY:=hQ HA0.out hb0
      subst hQY
      have HB0:Hid (¬ b=0):=hb0
      clear hQ hb0
      go_wp2_with (first | (go_at_call 29;refine (A1.out _).mono ?_))
      rintro e wa ⟨rfl,hg⟩
      replace HG:Hid (w.grownBy wa none):=gb_trans HG.out hg
      clear hg
      go_wp2_with (first | (go_at_call 28;refine (C5.out _).mono ?_))
      rintro e wb ⟨rfl,hg⟩
      replace HG:Hid (w.grownBy wb none):=gb_trans HG.out hg
      clear hg
      go_wp2_with (first | (go_at_call 28;refine (C5.out _).mono ?_))
      rintro e wd ⟨rfl,hg⟩
      replace HG:Hid (w.grownBy wd none):=gb_trans HG.out hg
      clear hg
      go_wp2_with (first | (go_at_call 29;refine (A2.out _).mono ?_))
      rintro e we ⟨⟨b',rfl,hb'⟩,hg⟩
      replace HG:Hid (w.grownBy we none):=gb_trans HG.out hg
      clear hg
      have g1:0 < b:=by have:=HB0.out;omega
      have hb2:=hb' (Or.inl g1)
      subst hb2
      clear hb'
      go_wp2
      go_ret
      exact ⟨rfl,HG.out⟩
    ·have ha0':(a == 0)=false:=by simp [ha0]
     have hQY:=hQ ha0
     subst hQY
     have HA0:Hid (¬ a=0):=ha0
     clear hQ ha0
     go_wp2_with (first | (go_at_call 29;refine (A1.out _).mono ?_))
     rintro e wa ⟨rfl,hg⟩
     replace HG:Hid (w.grownBy wa none):=gb_trans HG.out hg
     clear hg
     go_wp2_with (first | (go_at_call 28;refine (C5.out _).mono ?_))
     rintro e wb ⟨rfl,hg⟩
     replace HG:Hid (w.grownBy wb none):=gb_trans HG.out hg
     clear hg
     go_wp2_with (first | (go_at_call 28;refine (C5.out _).mono ?_))
     rintro e wd ⟨rfl,hg⟩
     replace HG:Hid (w.grownBy wd none):=gb_trans HG.out hg
     clear hg
     go_wp2_with (first | (go_at_call 29;refine (A2.out _).mono ?_))
     rintro e we ⟨⟨b',rfl,hb'⟩,hg⟩
     replace HG:Hid (w.grownBy we none):=gb_trans HG.out hg
     clear hg
     have g2:0 < a:=by have:=HA0.out;omega
     have hb2:=hb' (Or.inr g2)
     subst hb2
     clear hb'
     by_cases g1:0 < b
     ·go_wp2
      go_ret
      exact ⟨rfl,HG.out⟩
     ·go_wp2
      go_ret
      exact ⟨rfl,HG.out⟩
   ·have FC:Hid (¬ (0<=c/\c < 999999999)):=fc
    clear fa fb fc
    have HG:Hid (w.grownBy w none):=gb_refl _ _
    go_enter Tryz.func8,Tryz.ntmps8
    go_wp2_with (first | (go_at_call_of 27 a;refine (FY.out _ _ FA.out).mono ?_;rintro e w' ⟨rfl,hg⟩;replace HG:Hid (w.grownBy w' none):=gb_trans HG.out hg;clear hg) | (go_at_call_of 27 b;refine (FY.out _ _ FB.out).mono ?_;rintro e w' ⟨rfl,hg⟩;replace HG:Hid (w.grownBy w' none):=gb_trans HG.out hg;clear hg) | (go_at_call_of 27 c;refine (FN.out _ _ FC.out).mono ?_;rintro e w' ⟨rfl,hg⟩;replace HG:Hid (w.grownBy w' none):=gb_trans HG.out hg;clear hg))
    go_ret
    exact ⟨rfl,HG.out⟩
  ·have FB:Hid (¬ (0<=b/\b < 999999999)):=fb
   clear fa fb
   have HG:Hid (w.grownBy w none):=gb_refl _ _
   go_enter Tryz.func8,Tryz.ntmps8
   go_wp2_with (first | (go_at_call_of 27 a;refine (FY.out _ _ FA.out).mono ?_;rintro e w' ⟨rfl,hg⟩;replace HG:Hid (w.grownBy w' none):=gb_trans HG.out hg;clear hg) | (go_at_call_of 27 b;refine (FN.out _ _ FB.out).mono ?_;rintro e w' ⟨rfl,hg⟩;replace HG:Hid (w.grownBy w' none):=gb_trans HG.out hg;clear hg))
   go_ret
   exact ⟨rfl,HG.out⟩
 ·have FA:Hid (¬ (0<=a/\a < 999999999)):=fa
  clear fa
  have HG:Hid (w.grownBy w none):=gb_refl _ _
  go_enter Tryz.func8,Tryz.ntmps8
  go_wp2_with (first | (go_at_call_of 27 a;refine (FN.out _ _ FA.out).mono ?_;rintro e w' ⟨rfl,hg⟩;replace HG:Hid (w.grownBy w' none):=gb_trans HG.out hg;clear hg))
  go_ret
  exact ⟨rfl,HG.out⟩
end Go.Proofs.YtonfldbigenfhaaGreatDoor
