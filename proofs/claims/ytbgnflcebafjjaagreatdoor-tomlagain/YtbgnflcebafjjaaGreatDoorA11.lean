import Derived.Test.YtbgnflcebafjjaaGreatDoorA10
import Derived.Test.YtbgnflcebafjjaaGreatDoorA02
import Derived.Laws.BytesString
namespace Go.Proofs.YtbgnflcebafjjaaGreatDoor
open Go.RowKit Go.Joins
set_option linter.unusedVariables false
set_option maxRecDepth 100000 in
theorem dDigit_any (c:UInt8) (w:World):Calls Tryz.prog 84 #[.int .u8 (c.toNat:Int)] w fun e w'=>e=.returned (.bool (isDg (c.toNat:Int)))/\w'=w:=by
 have:=c.toNat_lt
 go_enter Tryz.func84,Tryz.ntmps84
 go_wp2
 all_goals go_ret
 all_goals (refine ⟨ret_bool ?_,rfl⟩;rw [Bool.eq_iff_iff];unfold isDg;simp;try omega)
set_option maxRecDepth 100000 in
set_option maxHeartbeats 800000 in
theorem dBare_any (c:UInt8) (w:World):Calls Tryz.prog 67 #[.int .u8 (c.toNat:Int)] w fun e w'=>e=.returned (.bool (isBa (c.toNat:Int)))/\w'=w:=by
 have hc:=c.toNat_lt
 have CD:Hid (∀w,Calls Tryz.prog 84 #[.int .u8 (c.toNat:Int)] w fun e w'=>e=.returned (.bool (isDg (c.toNat:Int)))/\w'=w):=dDigit_any c
 have HB:Hid (isBa (c.toNat:Int)=(decide (97<=(c.toNat:Int)/\(c.toNat:Int)<=122) || decide (65<=(c.toNat:Int)/\(c.toNat:Int)<=90) || isDg (c.toNat:Int) || decide ((c.toNat:Int)=95) || decide ((c.toNat:Int)=45))):=rfl
 obtain ⟨b,hb⟩:∃b,isDg (c.toNat:Int)=b:=⟨_,rfl⟩
 obtain ⟨r,hr⟩:∃r,isBa (c.toNat:Int)=r:=⟨_,rfl⟩
 rw [hb] at CD HB
 rw [hr] at HB ⊢
 clear hb hr
 obtain ⟨x,hx⟩:∃x:Int,(c.toNat:Int)=x:=⟨_,rfl⟩
 have hx0:0<=x:=by omega
 rw [hx] at CD HB ⊢
 clear hx hc
 cases b with
 | true =>
  go_enter Tryz.func67,Tryz.ntmps67
  go_wp2_with (first | (go_at_call 84;refine (CD.out _).mono ?_;rintro e w' ⟨rfl,rfl⟩))
  all_goals go_ret
  all_goals (refine ⟨ret_bool ?_,rfl⟩;rw [HB.out,Bool.eq_iff_iff];simp;try omega)
 | false =>
  go_enter Tryz.func67,Tryz.ntmps67
  go_wp2_with (first | (go_at_call 84;refine (CD.out _).mono ?_;rintro e w' ⟨rfl,rfl⟩))
  all_goals go_ret
  all_goals (refine ⟨ret_bool ?_,rfl⟩;rw [HB.out,Bool.eq_iff_iff];simp;try omega)
def sgN (c:Int):Int:=if 48<=c/\c<=57 then c - 48 else if 97<=c/\c<=102 then c - 87 else -1
set_option maxRecDepth 100000 in
theorem dSign_any (c:Int) (h0:0<=c) (h1:c < 256) (w:World):Calls Tryz.prog 144 #[.int .u8 c] w fun e w'=>e=.returned (.int .i64 (sgN c))/\w'=w:=by
 obtain ⟨r,hr⟩:∃r,sgN c=r:=⟨_,rfl⟩
 have HR:Hid ((if 48<=c/\c<=57 then c - 48 else if 97<=c/\c<=102 then c - 87 else -1)=r):=hr
 rw [hr]
 clear hr
 go_enter Tryz.func144,Tryz.ntmps144
 go_wp2
 all_goals go_ret
 all_goals (refine ⟨ret_int ?_,rfl⟩;rw [<-HR.out];repeat' split)
 all_goals (first | rfl | omega)
set_option maxRecDepth 100000 in
set_option maxHeartbeats 800000 in
theorem dGoes_any (s:ByteArray) (i:Nat) (lo hi:Int) (hlo:0<=lo) (w:World) (hs:s.size<=1048576) :
  Calls Tryz.prog 125 #[.string s,.int .i64 (i:Nat),.int .u8 lo,.int .u8 hi] w fun e w'=>e=.returned (.bool (goesB s.data.toList i lo hi))/\w'=w:=by
 have hl:s.data.toList.length=s.size:=by simp
 by_cases hlt:i < s.size
 ·have HG:Hid (goesB s.data.toList i lo hi=decide (lo<=(s[i].toNat:Int)/\(s[i].toNat:Int)<=hi)):=by
   show _=_
   unfold goesB
   rw [byte_at s i hlt]
  obtain ⟨r,hr⟩:∃r,goesB s.data.toList i lo hi=r:=⟨_,rfl⟩
  rw [hr] at HG ⊢
  clear hr
  go_enter Tryz.func125,Tryz.ntmps125
  go_wp2
  all_goals go_ret
  all_goals (refine ⟨ret_bool ?_,rfl⟩;rw [HG.out,Bool.eq_iff_iff];simp;try omega)
 ·have HG:Hid (goesB s.data.toList i lo hi=false):=by
   show _=_
   unfold goesB
   rw [nx_end _ _ (by omega),decide_eq_false (by omega)]
  rw [HG.out]
  go_enter Tryz.func125,Tryz.ntmps125
  go_wp2
  all_goals go_ret
  all_goals exact ⟨rfl,rfl⟩
theorem seqN_val (l:List UInt8) (i:Nat) (x:Int) (hx:nx l i=x):seqN l i=if x < 0 then 0 else if x < 128 then 1 else if x < 194\/244 < x then 0 else if goesB l (i+1) (if x=224 then 160 else if x=240 then 144 else 128) (if x=237 then 159 else if x=244 then 143 else 191)=false then 0 else if x < 224 then 2 else if goesB l (i+2) 128 191=false then 0 else if x < 240 then 3 else if goesB l (i+3) 128 191=false then 0 else 4:=by
 subst hx;rfl
set_option maxRecDepth 100000 in
set_option maxHeartbeats 1600000 in
theorem dSeq_a (s:ByteArray) (i:Nat) (hi:i < s.size) (w:World) (hs:s.size<=1048576) (x:Int) (hx:(s[i].toNat:Int)=x) (h0:0<=x) (hc:x < 128) :
  Calls Tryz.prog 108 #[.string s,.int .i64 (i:Nat)] w fun e w'=>e=.returned (.int .i64 (seqN s.data.toList i:Nat))/\w'=w:=by
 have hv:=seqN_val s.data.toList i x ((byte_at s i hi).trans hx)
 have t0:decide (x < 128)=true:=by simp;omega
 have p0:x < 128:=by omega
 have t1:decide (x < 194)=true:=by simp;omega
 have p1:x < 194:=by omega
 have t2:decide (244 < x)=false:=by simp;omega
 have p2:¬ 244 < x:=by omega
 have t3:decide (224<=x)=false:=by simp;omega
 have p3:¬ 224<=x:=by omega
 have t4:decide (240<=x)=false:=by simp;omega
 have p4:¬ 240<=x:=by omega
 have t5:(x == 224)=false:=by simp;omega
 have p5:¬ x=224:=by omega
 have t6:(x == 237)=false:=by simp;omega
 have p6:¬ x=237:=by omega
 have t7:(x == 240)=false:=by simp;omega
 have p7:¬ x=240:=by omega
 have t8:(x == 244)=false:=by simp;omega
 have p8:¬ x=244:=by omega
 rw [if_neg (by omega),if_pos p0] at hv
 rw [hv]
 have hk:s[i].toNat=x.toNat:=by omega
 clear hv hc
 go_enter Tryz.func108,Tryz.ntmps108
 go_wp2
 go_ret
 exact ⟨rfl,rfl⟩
set_option maxRecDepth 100000 in
set_option maxHeartbeats 1600000 in
theorem dSeq_b (s:ByteArray) (i:Nat) (hi:i < s.size) (w:World) (hs:s.size<=1048576) (x:Int) (hx:(s[i].toNat:Int)=x) (h0:0<=x) (hc:128<=x/\x < 194) :
  Calls Tryz.prog 108 #[.string s,.int .i64 (i:Nat)] w fun e w'=>e=.returned (.int .i64 (seqN s.data.toList i:Nat))/\w'=w:=by
 have hv:=seqN_val s.data.toList i x ((byte_at s i hi).trans hx)
 have t0:decide (x < 128)=false:=by simp;omega
 have p0:¬ x < 128:=by omega
 have t1:decide (x < 194)=true:=by simp;omega
 have p1:x < 194:=by omega
 have t2:decide (244 < x)=false:=by simp;omega
 have p2:¬ 244 < x:=by omega
 have t3:decide (224<=x)=false:=by simp;omega
 have p3:¬ 224<=x:=by omega
 have t4:decide (240<=x)=false:=by simp;omega
 have p4:¬ 240<=x:=by omega
 have t5:(x == 224)=false:=by simp;omega
 have p5:¬ x=224:=by omega
 have t6:(x == 237)=false:=by simp;omega
 have p6:¬ x=237:=by omega
 have t7:(x == 240)=false:=by simp;omega
 have p7:¬ x=240:=by omega
 have t8:(x == 244)=false:=by simp;omega
 have p8:¬ x=244:=by omega
 rw [if_neg (by omega),if_neg p0,if_pos (by omega)] at hv
 rw [hv]
 have hk:s[i].toNat=x.toNat:=by omega
 clear hv hc
 go_enter Tryz.func108,Tryz.ntmps108
 go_wp2
 go_ret
 exact ⟨rfl,rfl⟩
set_option maxRecDepth 100000 in
set_option maxHeartbeats 1600000 in
theorem dSeq_c (s:ByteArray) (i:Nat) (hi:i < s.size) (w:World) (hs:s.size<=1048576) (x:Int) (hx:(s[i].toNat:Int)=x) (h0:0<=x) (hc:244 < x) :
  Calls Tryz.prog 108 #[.string s,.int .i64 (i:Nat)] w fun e w'=>e=.returned (.int .i64 (seqN s.data.toList i:Nat))/\w'=w:=by
 have hv:=seqN_val s.data.toList i x ((byte_at s i hi).trans hx)
 have t0:decide (x < 128)=false:=by simp;omega
 have p0:¬ x < 128:=by omega
 have t1:decide (x < 194)=false:=by simp;omega
 have p1:¬ x < 194:=by omega
 have t2:decide (244 < x)=true:=by simp;omega
 have p2:244 < x:=by omega
 have t3:decide (224<=x)=true:=by simp;omega
 have p3:224<=x:=by omega
 have t4:decide (240<=x)=true:=by simp;omega
 have p4:240<=x:=by omega
 have t5:(x == 224)=false:=by simp;omega
 have p5:¬ x=224:=by omega
 have t6:(x == 237)=false:=by simp;omega
 have p6:¬ x=237:=by omega
 have t7:(x == 240)=false:=by simp;omega
 have p7:¬ x=240:=by omega
 have t8:(x == 244)=false:=by simp;omega
 have p8:¬ x=244:=by omega
 rw [if_neg (by omega),if_neg p0,if_pos (by omega)] at hv
 rw [hv]
 have hk:s[i].toNat=x.toNat:=by omega
 clear hv hc
 go_enter Tryz.func108,Tryz.ntmps108
 go_wp2
 go_ret
 exact ⟨rfl,rfl⟩
set_option maxRecDepth 100000 in
set_option maxHeartbeats 1600000 in
theorem dSeq_d (s:ByteArray) (i:Nat) (hi:i < s.size) (w:World) (hs:s.size<=1048576) (x:Int) (hx:(s[i].toNat:Int)=x) (h0:0<=x) (hc:194<=x/\x < 224) :
  Calls Tryz.prog 108 #[.string s,.int .i64 (i:Nat)] w fun e w'=>e=.returned (.int .i64 (seqN s.data.toList i:Nat))/\w'=w:=by
 have hv:=seqN_val s.data.toList i x ((byte_at s i hi).trans hx)
 have t0:decide (x < 128)=false:=by simp;omega
 have p0:¬ x < 128:=by omega
 have t1:decide (x < 194)=false:=by simp;omega
 have p1:¬ x < 194:=by omega
 have t2:decide (244 < x)=false:=by simp;omega
 have p2:¬ 244 < x:=by omega
 have t3:decide (224<=x)=false:=by simp;omega
 have p3:¬ 224<=x:=by omega
 have t4:decide (240<=x)=false:=by simp;omega
 have p4:¬ 240<=x:=by omega
 have t5:(x == 224)=false:=by simp;omega
 have p5:¬ x=224:=by omega
 have t6:(x == 237)=false:=by simp;omega
 have p6:¬ x=237:=by omega
 have t7:(x == 240)=false:=by simp;omega
 have p7:¬ x=240:=by omega
 have t8:(x == 244)=false:=by simp;omega
 have p8:¬ x=244:=by omega
 rw [if_neg (by omega),if_neg p0,if_neg (by omega)] at hv
 rw [if_neg p5,if_neg p7,if_neg p6,if_neg p8] at hv
 rw [if_pos (show x < 224 by omega)] at hv
 have C1:Hid (∀w,Calls Tryz.prog 125 #[.string s,.int .i64 ((i:Int)+1),.int .u8 128,.int .u8 191] w fun e w'=>e=.returned (.bool (goesB s.data.toList (i+1) 128 191))/\w'=w):=fun w=>dGoes_any s (i+1) 128 191 (by decide) w hs
 obtain ⟨b1,hb1⟩:∃b,goesB s.data.toList (i+1) 128 191=b:=⟨_,rfl⟩
 rw [hb1] at C1 hv
 rw [hv]
 clear hv hc hb1
 cases b1 with
 | false =>
  go_enter Tryz.func108,Tryz.ntmps108
  go_wp2_with (first | (go_at_call 125;refine (C1.out _).mono ?_;rintro e w' ⟨rfl,rfl⟩))
  go_ret
  exact ⟨rfl,rfl⟩
 | true =>
  go_enter Tryz.func108,Tryz.ntmps108
  go_wp2_with (first | (go_at_call 125;refine (C1.out _).mono ?_;rintro e w' ⟨rfl,rfl⟩))
  refine wp_loop_rounds 1 ?_
  rw [rounds_succ]
  go_wp2
  go_ret
  exact ⟨rfl,rfl⟩
set_option maxRecDepth 100000 in
set_option maxHeartbeats 1600000 in
theorem dSeq_e (s:ByteArray) (i:Nat) (hi:i < s.size) (w:World) (hs:s.size<=1048576) (x:Int) (hx:(s[i].toNat:Int)=x) (h0:0<=x) (hc:x=224) :
  Calls Tryz.prog 108 #[.string s,.int .i64 (i:Nat)] w fun e w'=>e=.returned (.int .i64 (seqN s.data.toList i:Nat))/\w'=w:=by
 have hv:=seqN_val s.data.toList i x ((byte_at s i hi).trans hx)
 have t0:decide (x < 128)=false:=by simp;omega
 have p0:¬ x < 128:=by omega
 have t1:decide (x < 194)=false:=by simp;omega
 have p1:¬ x < 194:=by omega
 have t2:decide (244 < x)=false:=by simp;omega
 have p2:¬ 244 < x:=by omega
 have t3:decide (224<=x)=true:=by simp;omega
 have p3:224<=x:=by omega
 have t4:decide (240<=x)=false:=by simp;omega
 have p4:¬ 240<=x:=by omega
 have t5:(x == 224)=true:=by simp;omega
 have p5:x=224:=by omega
 have t6:(x == 237)=false:=by simp;omega
 have p6:¬ x=237:=by omega
 have t7:(x == 240)=false:=by simp;omega
 have p7:¬ x=240:=by omega
 have t8:(x == 244)=false:=by simp;omega
 have p8:¬ x=244:=by omega
 rw [if_neg (by omega),if_neg p0,if_neg (by omega)] at hv
 rw [if_pos p5,if_neg p6,if_neg p8] at hv
 rw [if_neg (show ¬ x < 224 by omega),if_pos (show x < 240 by omega)] at hv
 have C1:Hid (∀w,Calls Tryz.prog 125 #[.string s,.int .i64 ((i:Int)+1),.int .u8 160,.int .u8 191] w fun e w'=>e=.returned (.bool (goesB s.data.toList (i+1) 160 191))/\w'=w):=fun w=>dGoes_any s (i+1) 160 191 (by decide) w hs
 have C2:Hid (∀w,Calls Tryz.prog 125 #[.string s,.int .i64 ((i:Int)+2),.int .u8 128,.int .u8 191] w fun e w'=>e=.returned (.bool (goesB s.data.toList (i+2) 128 191))/\w'=w):=fun w=>dGoes_any s (i+2) 128 191 (by decide) w hs
 obtain ⟨b1,hb1⟩:∃b,goesB s.data.toList (i+1) 160 191=b:=⟨_,rfl⟩
 obtain ⟨b2,hb2⟩:∃b,goesB s.data.toList (i+2) 128 191=b:=⟨_,rfl⟩
 rw [hb1] at C1 hv
 rw [hb2] at C2 hv
 rw [hv]
 clear hv hc hb1 hb2
 cases b1 with
 | false =>
  go_enter Tryz.func108,Tryz.ntmps108
  go_wp2_with (first | (go_at_call 125;refine (C1.out _).mono ?_;rintro e w' ⟨rfl,rfl⟩))
  go_ret
  exact ⟨rfl,rfl⟩
 | true =>
  cases b2 with
  | false =>
   go_enter Tryz.func108,Tryz.ntmps108
   go_wp2_with (first | (go_at_call 125;refine (C1.out _).mono ?_;rintro e w' ⟨rfl,rfl⟩))
   refine wp_loop_rounds 1 ?_
   rw [rounds_succ]
   go_wp2_with (first | (go_at_call 125;refine (C2.out _).mono ?_;rintro e w' ⟨rfl,rfl⟩))
   go_ret
   exact ⟨rfl,rfl⟩
  | true =>
   go_enter Tryz.func108,Tryz.ntmps108
   go_wp2_with (first | (go_at_call 125;refine (C1.out _).mono ?_;rintro e w' ⟨rfl,rfl⟩))
   refine wp_loop_rounds 2 ?_
   rw [rounds_succ]
   go_wp2_with (first | (go_at_call 125;refine (C2.out _).mono ?_;rintro e w' ⟨rfl,rfl⟩))
   rw [rounds_succ]
   go_wp2
   go_ret
   exact ⟨rfl,rfl⟩
set_option maxRecDepth 100000 in
set_option maxHeartbeats 1600000 in
theorem dSeq_f (s:ByteArray) (i:Nat) (hi:i < s.size) (w:World) (hs:s.size<=1048576) (x:Int) (hx:(s[i].toNat:Int)=x) (h0:0<=x) (hc:225<=x/\x<=236) :
  Calls Tryz.prog 108 #[.string s,.int .i64 (i:Nat)] w fun e w'=>e=.returned (.int .i64 (seqN s.data.toList i:Nat))/\w'=w:=by
 have hv:=seqN_val s.data.toList i x ((byte_at s i hi).trans hx)
 have t0:decide (x < 128)=false:=by simp;omega
 have p0:¬ x < 128:=by omega
 have t1:decide (x < 194)=false:=by simp;omega
 have p1:¬ x < 194:=by omega
 have t2:decide (244 < x)=false:=by simp;omega
 have p2:¬ 244 < x:=by omega
 have t3:decide (224<=x)=true:=by simp;omega
 have p3:224<=x:=by omega
 have t4:decide (240<=x)=false:=by simp;omega
 have p4:¬ 240<=x:=by omega
 have t5:(x == 224)=false:=by simp;omega
 have p5:¬ x=224:=by omega
 have t6:(x == 237)=false:=by simp;omega
 have p6:¬ x=237:=by omega
 have t7:(x == 240)=false:=by simp;omega
 have p7:¬ x=240:=by omega
 have t8:(x == 244)=false:=by simp;omega
 have p8:¬ x=244:=by omega
 rw [if_neg (by omega),if_neg p0,if_neg (by omega)] at hv
 rw [if_neg p5,if_neg p7,if_neg p6,if_neg p8] at hv
 rw [if_neg (show ¬ x < 224 by omega),if_pos (show x < 240 by omega)] at hv
 have C1:Hid (∀w,Calls Tryz.prog 125 #[.string s,.int .i64 ((i:Int)+1),.int .u8 128,.int .u8 191] w fun e w'=>e=.returned (.bool (goesB s.data.toList (i+1) 128 191))/\w'=w):=fun w=>dGoes_any s (i+1) 128 191 (by decide) w hs
 have C2:Hid (∀w,Calls Tryz.prog 125 #[.string s,.int .i64 ((i:Int)+2),.int .u8 128,.int .u8 191] w fun e w'=>e=.returned (.bool (goesB s.data.toList (i+2) 128 191))/\w'=w):=fun w=>dGoes_any s (i+2) 128 191 (by decide) w hs
 obtain ⟨b1,hb1⟩:∃b,goesB s.data.toList (i+1) 128 191=b:=⟨_,rfl⟩
 obtain ⟨b2,hb2⟩:∃b,goesB s.data.toList (i+2) 128 191=b:=⟨_,rfl⟩
 rw [hb1] at C1 hv
 rw [hb2] at C2 hv
 rw [hv]
 clear hv hc hb1 hb2
 cases b1 with
 | false =>
  go_enter Tryz.func108,Tryz.ntmps108
  go_wp2_with (first | (go_at_call 125;refine (C1.out _).mono ?_;rintro e w' ⟨rfl,rfl⟩))
  go_ret
  exact ⟨rfl,rfl⟩
 | true =>
  cases b2 with
  | false =>
   go_enter Tryz.func108,Tryz.ntmps108
   go_wp2_with (first | (go_at_call 125;refine (C1.out _).mono ?_;rintro e w' ⟨rfl,rfl⟩))
   refine wp_loop_rounds 1 ?_
   rw [rounds_succ]
   go_wp2_with (first | (go_at_call 125;refine (C2.out _).mono ?_;rintro e w' ⟨rfl,rfl⟩))
   go_ret
   exact ⟨rfl,rfl⟩
  | true =>
   go_enter Tryz.func108,Tryz.ntmps108
   go_wp2_with (first | (go_at_call 125;refine (C1.out _).mono ?_;rintro e w' ⟨rfl,rfl⟩))
   refine wp_loop_rounds 2 ?_
   rw [rounds_succ]
   go_wp2_with (first | (go_at_call 125;refine (C2.out _).mono ?_;rintro e w' ⟨rfl,rfl⟩))
   rw [rounds_succ]
   go_wp2
   go_ret
   exact ⟨rfl,rfl⟩
set_option maxRecDepth 100000 in
set_option maxHeartbeats 1600000 in
theorem dSeq_g (s:ByteArray) (i:Nat) (hi:i < s.size) (w:World) (hs:s.size<=1048576) (x:Int) (hx:(s[i].toNat:Int)=x) (h0:0<=x) (hc:x=237) :
  Calls Tryz.prog 108 #[.string s,.int .i64 (i:Nat)] w fun e w'=>e=.returned (.int .i64 (seqN s.data.toList i:Nat))/\w'=w:=by
 have hv:=seqN_val s.data.toList i x ((byte_at s i hi).trans hx)
 have t0:decide (x < 128)=false:=by simp;omega
 have p0:¬ x < 128:=by omega
 have t1:decide (x < 194)=false:=by simp;omega
 have p1:¬ x < 194:=by omega
 have t2:decide (244 < x)=false:=by simp;omega
 have p2:¬ 244 < x:=by omega
 have t3:decide (224<=x)=true:=by simp;omega
 have p3:224<=x:=by omega
 have t4:decide (240<=x)=false:=by simp;omega
 have p4:¬ 240<=x:=by omega
 have t5:(x == 224)=false:=by simp;omega
 have p5:¬ x=224:=by omega
 have t6:(x == 237)=true:=by simp;omega
 have p6:x=237:=by omega
 have t7:(x == 240)=false:=by simp;omega
 have p7:¬ x=240:=by omega
 have t8:(x == 244)=false:=by simp;omega
 have p8:¬ x=244:=by omega
 rw [if_neg (by omega),if_neg p0,if_neg (by omega)] at hv
 rw [if_neg p5,if_neg p7,if_pos p6] at hv
 rw [if_neg (show ¬ x < 224 by omega),if_pos (show x < 240 by omega)] at hv
 have C1:Hid (∀w,Calls Tryz.prog 125 #[.string s,.int .i64 ((i:Int)+1),.int .u8 128,.int .u8 159] w fun e w'=>e=.returned (.bool (goesB s.data.toList (i+1) 128 159))/\w'=w):=fun w=>dGoes_any s (i+1) 128 159 (by decide) w hs
 have C2:Hid (∀w,Calls Tryz.prog 125 #[.string s,.int .i64 ((i:Int)+2),.int .u8 128,.int .u8 191] w fun e w'=>e=.returned (.bool (goesB s.data.toList (i+2) 128 191))/\w'=w):=fun w=>dGoes_any s (i+2) 128 191 (by decide) w hs
 obtain ⟨b1,hb1⟩:∃b,goesB s.data.toList (i+1) 128 159=b:=⟨_,rfl⟩
 obtain ⟨b2,hb2⟩:∃b,goesB s.data.toList (i+2) 128 191=b:=⟨_,rfl⟩
 rw [hb1] at C1 hv
 rw [hb2] at C2 hv
 rw [hv]
 clear hv hc hb1 hb2
 cases b1 with
 | false =>
  go_enter Tryz.func108,Tryz.ntmps108
  go_wp2_with (first | (go_at_call 125;refine (C1.out _).mono ?_;rintro e w' ⟨rfl,rfl⟩))
  go_ret
  exact ⟨rfl,rfl⟩
 | true =>
  cases b2 with
  | false =>
   go_enter Tryz.func108,Tryz.ntmps108
   go_wp2_with (first | (go_at_call 125;refine (C1.out _).mono ?_;rintro e w' ⟨rfl,rfl⟩))
   refine wp_loop_rounds 1 ?_
   rw [rounds_succ]
   go_wp2_with (first | (go_at_call 125;refine (C2.out _).mono ?_;rintro e w' ⟨rfl,rfl⟩))
   go_ret
   exact ⟨rfl,rfl⟩
  | true =>
   go_enter Tryz.func108,Tryz.ntmps108
   go_wp2_with (first | (go_at_call 125;refine (C1.out _).mono ?_;rintro e w' ⟨rfl,rfl⟩))
   refine wp_loop_rounds 2 ?_
   rw [rounds_succ]
   go_wp2_with (first | (go_at_call 125;refine (C2.out _).mono ?_;rintro e w' ⟨rfl,rfl⟩))
   rw [rounds_succ]
   go_wp2
   go_ret
   exact ⟨rfl,rfl⟩
set_option maxRecDepth 100000 in
set_option maxHeartbeats 1600000 in
theorem dSeq_h (s:ByteArray) (i:Nat) (hi:i < s.size) (w:World) (hs:s.size<=1048576) (x:Int) (hx:(s[i].toNat:Int)=x) (h0:0<=x) (hc:238<=x/\x<=239) :
  Calls Tryz.prog 108 #[.string s,.int .i64 (i:Nat)] w fun e w'=>e=.returned (.int .i64 (seqN s.data.toList i:Nat))/\w'=w:=by
 have hv:=seqN_val s.data.toList i x ((byte_at s i hi).trans hx)
 have t0:decide (x < 128)=false:=by simp;omega
 have p0:¬ x < 128:=by omega
 have t1:decide (x < 194)=false:=by simp;omega
 have p1:¬ x < 194:=by omega
 have t2:decide (244 < x)=false:=by simp;omega
 have p2:¬ 244 < x:=by omega
 have t3:decide (224<=x)=true:=by simp;omega
 have p3:224<=x:=by omega
 have t4:decide (240<=x)=false:=by simp;omega
 have p4:¬ 240<=x:=by omega
 have t5:(x == 224)=false:=by simp;omega
 have p5:¬ x=224:=by omega
 have t6:(x == 237)=false:=by simp;omega
 have p6:¬ x=237:=by omega
 have t7:(x == 240)=false:=by simp;omega
 have p7:¬ x=240:=by omega
 have t8:(x == 244)=false:=by simp;omega
 have p8:¬ x=244:=by omega
 rw [if_neg (by omega),if_neg p0,if_neg (by omega)] at hv
 rw [if_neg p5,if_neg p7,if_neg p6,if_neg p8] at hv
 rw [if_neg (show ¬ x < 224 by omega),if_pos (show x < 240 by omega)] at hv
 have C1:Hid (∀w,Calls Tryz.prog 125 #[.string s,.int .i64 ((i:Int)+1),.int .u8 128,.int .u8 191] w fun e w'=>e=.returned (.bool (goesB s.data.toList (i+1) 128 191))/\w'=w):=fun w=>dGoes_any s (i+1) 128 191 (by decide) w hs
 have C2:Hid (∀w,Calls Tryz.prog 125 #[.string s,.int .i64 ((i:Int)+2),.int .u8 128,.int .u8 191] w fun e w'=>e=.returned (.bool (goesB s.data.toList (i+2) 128 191))/\w'=w):=fun w=>dGoes_any s (i+2) 128 191 (by decide) w hs
 obtain ⟨b1,hb1⟩:∃b,goesB s.data.toList (i+1) 128 191=b:=⟨_,rfl⟩
 obtain ⟨b2,hb2⟩:∃b,goesB s.data.toList (i+2) 128 191=b:=⟨_,rfl⟩
 rw [hb1] at C1 hv
 rw [hb2] at C2 hv
 rw [hv]
 clear hv hc hb1 hb2
 cases b1 with
 | false =>
  go_enter Tryz.func108,Tryz.ntmps108
  go_wp2_with (first | (go_at_call 125;refine (C1.out _).mono ?_;rintro e w' ⟨rfl,rfl⟩))
  go_ret
  exact ⟨rfl,rfl⟩
 | true =>
  cases b2 with
  | false =>
   go_enter Tryz.func108,Tryz.ntmps108
   go_wp2_with (first | (go_at_call 125;refine (C1.out _).mono ?_;rintro e w' ⟨rfl,rfl⟩))
   refine wp_loop_rounds 1 ?_
   rw [rounds_succ]
   go_wp2_with (first | (go_at_call 125;refine (C2.out _).mono ?_;rintro e w' ⟨rfl,rfl⟩))
   go_ret
   exact ⟨rfl,rfl⟩
  | true =>
   go_enter Tryz.func108,Tryz.ntmps108
   go_wp2_with (first | (go_at_call 125;refine (C1.out _).mono ?_;rintro e w' ⟨rfl,rfl⟩))
   refine wp_loop_rounds 2 ?_
   rw [rounds_succ]
   go_wp2_with (first | (go_at_call 125;refine (C2.out _).mono ?_;rintro e w' ⟨rfl,rfl⟩))
   rw [rounds_succ]
   go_wp2
   go_ret
   exact ⟨rfl,rfl⟩
set_option maxRecDepth 100000 in
set_option maxHeartbeats 1600000 in
theorem dSeq_i (s:ByteArray) (i:Nat) (hi:i < s.size) (w:World) (hs:s.size<=1048576) (x:Int) (hx:(s[i].toNat:Int)=x) (h0:0<=x) (hc:x=240) :
  Calls Tryz.prog 108 #[.string s,.int .i64 (i:Nat)] w fun e w'=>e=.returned (.int .i64 (seqN s.data.toList i:Nat))/\w'=w:=by
 have hv:=seqN_val s.data.toList i x ((byte_at s i hi).trans hx)
 have t0:decide (x < 128)=false:=by simp;omega
 have p0:¬ x < 128:=by omega
 have t1:decide (x < 194)=false:=by simp;omega
 have p1:¬ x < 194:=by omega
 have t2:decide (244 < x)=false:=by simp;omega
 have p2:¬ 244 < x:=by omega
 have t3:decide (224<=x)=true:=by simp;omega
 have p3:224<=x:=by omega
 have t4:decide (240<=x)=true:=by simp;omega
 have p4:240<=x:=by omega
 have t5:(x == 224)=false:=by simp;omega
 have p5:¬ x=224:=by omega
 have t6:(x == 237)=false:=by simp;omega
 have p6:¬ x=237:=by omega
 have t7:(x == 240)=true:=by simp;omega
 have p7:x=240:=by omega
 have t8:(x == 244)=false:=by simp;omega
 have p8:¬ x=244:=by omega
 rw [if_neg (by omega),if_neg p0,if_neg (by omega)] at hv
 rw [if_neg p5,if_pos p7,if_neg p6,if_neg p8] at hv
 rw [if_neg (show ¬ x < 224 by omega),if_neg (show ¬ x < 240 by omega)] at hv
 have C1:Hid (∀w,Calls Tryz.prog 125 #[.string s,.int .i64 ((i:Int)+1),.int .u8 144,.int .u8 191] w fun e w'=>e=.returned (.bool (goesB s.data.toList (i+1) 144 191))/\w'=w):=fun w=>dGoes_any s (i+1) 144 191 (by decide) w hs
 have C2:Hid (∀w,Calls Tryz.prog 125 #[.string s,.int .i64 ((i:Int)+2),.int .u8 128,.int .u8 191] w fun e w'=>e=.returned (.bool (goesB s.data.toList (i+2) 128 191))/\w'=w):=fun w=>dGoes_any s (i+2) 128 191 (by decide) w hs
 have C3:Hid (∀w,Calls Tryz.prog 125 #[.string s,.int .i64 ((i:Int)+3),.int .u8 128,.int .u8 191] w fun e w'=>e=.returned (.bool (goesB s.data.toList (i+3) 128 191))/\w'=w):=fun w=>dGoes_any s (i+3) 128 191 (by decide) w hs
 obtain ⟨b1,hb1⟩:∃b,goesB s.data.toList (i+1) 144 191=b:=⟨_,rfl⟩
 obtain ⟨b2,hb2⟩:∃b,goesB s.data.toList (i+2) 128 191=b:=⟨_,rfl⟩
 obtain ⟨b3,hb3⟩:∃b,goesB s.data.toList (i+3) 128 191=b:=⟨_,rfl⟩
 rw [hb1] at C1 hv
 rw [hb2] at C2 hv
 rw [hb3] at C3 hv
 rw [hv]
 clear hv hc hb1 hb2 hb3
 cases b1 with
 | false =>
  go_enter Tryz.func108,Tryz.ntmps108
  go_wp2_with (first | (go_at_call 125;refine (C1.out _).mono ?_;rintro e w' ⟨rfl,rfl⟩))
  go_ret
  exact ⟨rfl,rfl⟩
 | true =>
  cases b2 with
  | false =>
   go_enter Tryz.func108,Tryz.ntmps108
   go_wp2_with (first | (go_at_call 125;refine (C1.out _).mono ?_;rintro e w' ⟨rfl,rfl⟩))
   refine wp_loop_rounds 1 ?_
   rw [rounds_succ]
   go_wp2_with (first | (go_at_call 125;refine (C2.out _).mono ?_;rintro e w' ⟨rfl,rfl⟩))
   go_ret
   exact ⟨rfl,rfl⟩
  | true =>
   cases b3 with
   | false =>
    go_enter Tryz.func108,Tryz.ntmps108
    go_wp2_with (first | (go_at_call 125;refine (C1.out _).mono ?_;rintro e w' ⟨rfl,rfl⟩))
    refine wp_loop_rounds 2 ?_
    rw [rounds_succ]
    go_wp2_with (first | (go_at_call 125;refine (C2.out _).mono ?_;rintro e w' ⟨rfl,rfl⟩))
    rw [rounds_succ]
    go_wp2_with (first | (go_at_call 125;refine (C3.out _).mono ?_;rintro e w' ⟨rfl,rfl⟩))
    go_ret
    exact ⟨rfl,rfl⟩
   | true =>
    go_enter Tryz.func108,Tryz.ntmps108
    go_wp2_with (first | (go_at_call 125;refine (C1.out _).mono ?_;rintro e w' ⟨rfl,rfl⟩))
    refine wp_loop_rounds 3 ?_
    rw [rounds_succ]
    go_wp2_with (first | (go_at_call 125;refine (C2.out _).mono ?_;rintro e w' ⟨rfl,rfl⟩))
    rw [rounds_succ]
    go_wp2_with (first | (go_at_call 125;refine (C3.out _).mono ?_;rintro e w' ⟨rfl,rfl⟩))
    rw [rounds_succ]
    go_wp2
    go_ret
    exact ⟨rfl,rfl⟩
set_option maxRecDepth 100000 in
set_option maxHeartbeats 1600000 in
theorem dSeq_j (s:ByteArray) (i:Nat) (hi:i < s.size) (w:World) (hs:s.size<=1048576) (x:Int) (hx:(s[i].toNat:Int)=x) (h0:0<=x) (hc:241<=x/\x<=243) :
  Calls Tryz.prog 108 #[.string s,.int .i64 (i:Nat)] w fun e w'=>e=.returned (.int .i64 (seqN s.data.toList i:Nat))/\w'=w:=by
 have hv:=seqN_val s.data.toList i x ((byte_at s i hi).trans hx)
 have t0:decide (x < 128)=false:=by simp;omega
 have p0:¬ x < 128:=by omega
 have t1:decide (x < 194)=false:=by simp;omega
 have p1:¬ x < 194:=by omega
 have t2:decide (244 < x)=false:=by simp;omega
 have p2:¬ 244 < x:=by omega
 have t3:decide (224<=x)=true:=by simp;omega
 have p3:224<=x:=by omega
 have t4:decide (240<=x)=true:=by simp;omega
 have p4:240<=x:=by omega
 have t5:(x == 224)=false:=by simp;omega
 have p5:¬ x=224:=by omega
 have t6:(x == 237)=false:=by simp;omega
 have p6:¬ x=237:=by omega
 have t7:(x == 240)=false:=by simp;omega
 have p7:¬ x=240:=by omega
 have t8:(x == 244)=false:=by simp;omega
 have p8:¬ x=244:=by omega
 rw [if_neg (by omega),if_neg p0,if_neg (by omega)] at hv
 rw [if_neg p5,if_neg p7,if_neg p6,if_neg p8] at hv
 rw [if_neg (show ¬ x < 224 by omega),if_neg (show ¬ x < 240 by omega)] at hv
 have C1:Hid (∀w,Calls Tryz.prog 125 #[.string s,.int .i64 ((i:Int)+1),.int .u8 128,.int .u8 191] w fun e w'=>e=.returned (.bool (goesB s.data.toList (i+1) 128 191))/\w'=w):=fun w=>dGoes_any s (i+1) 128 191 (by decide) w hs
 have C2:Hid (∀w,Calls Tryz.prog 125 #[.string s,.int .i64 ((i:Int)+2),.int .u8 128,.int .u8 191] w fun e w'=>e=.returned (.bool (goesB s.data.toList (i+2) 128 191))/\w'=w):=fun w=>dGoes_any s (i+2) 128 191 (by decide) w hs
 have C3:Hid (∀w,Calls Tryz.prog 125 #[.string s,.int .i64 ((i:Int)+3),.int .u8 128,.int .u8 191] w fun e w'=>e=.returned (.bool (goesB s.data.toList (i+3) 128 191))/\w'=w):=fun w=>dGoes_any s (i+3) 128 191 (by decide) w hs
 obtain ⟨b1,hb1⟩:∃b,goesB s.data.toList (i+1) 128 191=b:=⟨_,rfl⟩
 obtain ⟨b2,hb2⟩:∃b,goesB s.data.toList (i+2) 128 191=b:=⟨_,rfl⟩
 obtain ⟨b3,hb3⟩:∃b,goesB s.data.toList (i+3) 128 191=b:=⟨_,rfl⟩
 rw [hb1] at C1 hv
 rw [hb2] at C2 hv
 rw [hb3] at C3 hv
 rw [hv]
 clear hv hc hb1 hb2 hb3
 cases b1 with
 | false =>
  go_enter Tryz.func108,Tryz.ntmps108
  go_wp2_with (first | (go_at_call 125;refine (C1.out _).mono ?_;rintro e w' ⟨rfl,rfl⟩))
  go_ret
  exact ⟨rfl,rfl⟩
 | true =>
  cases b2 with
  | false =>
   go_enter Tryz.func108,Tryz.ntmps108
   go_wp2_with (first | (go_at_call 125;refine (C1.out _).mono ?_;rintro e w' ⟨rfl,rfl⟩))
   refine wp_loop_rounds 1 ?_
   rw [rounds_succ]
   go_wp2_with (first | (go_at_call 125;refine (C2.out _).mono ?_;rintro e w' ⟨rfl,rfl⟩))
   go_ret
   exact ⟨rfl,rfl⟩
  | true =>
   cases b3 with
   | false =>
    go_enter Tryz.func108,Tryz.ntmps108
    go_wp2_with (first | (go_at_call 125;refine (C1.out _).mono ?_;rintro e w' ⟨rfl,rfl⟩))
    refine wp_loop_rounds 2 ?_
    rw [rounds_succ]
    go_wp2_with (first | (go_at_call 125;refine (C2.out _).mono ?_;rintro e w' ⟨rfl,rfl⟩))
    rw [rounds_succ]
    go_wp2_with (first | (go_at_call 125;refine (C3.out _).mono ?_;rintro e w' ⟨rfl,rfl⟩))
    go_ret
    exact ⟨rfl,rfl⟩
   | true =>
    go_enter Tryz.func108,Tryz.ntmps108
    go_wp2_with (first | (go_at_call 125;refine (C1.out _).mono ?_;rintro e w' ⟨rfl,rfl⟩))
    refine wp_loop_rounds 3 ?_
    rw [rounds_succ]
    go_wp2_with (first | (go_at_call 125;refine (C2.out _).mono ?_;rintro e w' ⟨rfl,rfl⟩))
    rw [rounds_succ]
    go_wp2_with (first | (go_at_call 125;refine (C3.out _).mono ?_;rintro e w' ⟨rfl,rfl⟩))
    rw [rounds_succ]
    go_wp2
    go_ret
    exact ⟨rfl,rfl⟩
set_option maxRecDepth 100000 in
set_option maxHeartbeats 1600000 in
theorem dSeq_k (s:ByteArray) (i:Nat) (hi:i < s.size) (w:World) (hs:s.size<=1048576) (x:Int) (hx:(s[i].toNat:Int)=x) (h0:0<=x) (hc:x=244) :
  Calls Tryz.prog 108 #[.string s,.int .i64 (i:Nat)] w fun e w'=>e=.returned (.int .i64 (seqN s.data.toList i:Nat))/\w'=w:=by
 have hv:=seqN_val s.data.toList i x ((byte_at s i hi).trans hx)
 have t0:decide (x < 128)=false:=by simp;omega
 have p0:¬ x < 128:=by omega
 have t1:decide (x < 194)=false:=by simp;omega
 have p1:¬ x < 194:=by omega
 have t2:decide (244 < x)=false:=by simp;omega
 have p2:¬ 244 < x:=by omega
 have t3:decide (224<=x)=true:=by simp;omega
 have p3:224<=x:=by omega
 have t4:decide (240<=x)=true:=by simp;omega
 have p4:240<=x:=by omega
 have t5:(x == 224)=false:=by simp;omega
 have p5:¬ x=224:=by omega
 have t6:(x == 237)=false:=by simp;omega
 have p6:¬ x=237:=by omega
 have t7:(x == 240)=false:=by simp;omega
 have p7:¬ x=240:=by omega
 have t8:(x == 244)=true:=by simp;omega
 have p8:x=244:=by omega
 rw [if_neg (by omega),if_neg p0,if_neg (by omega)] at hv
 rw [if_neg p5,if_neg p7,if_neg p6,if_pos p8] at hv
 rw [if_neg (show ¬ x < 224 by omega),if_neg (show ¬ x < 240 by omega)] at hv
 have C1:Hid (∀w,Calls Tryz.prog 125 #[.string s,.int .i64 ((i:Int)+1),.int .u8 128,.int .u8 143] w fun e w'=>e=.returned (.bool (goesB s.data.toList (i+1) 128 143))/\w'=w):=fun w=>dGoes_any s (i+1) 128 143 (by decide) w hs
 have C2:Hid (∀w,Calls Tryz.prog 125 #[.string s,.int .i64 ((i:Int)+2),.int .u8 128,.int .u8 191] w fun e w'=>e=.returned (.bool (goesB s.data.toList (i+2) 128 191))/\w'=w):=fun w=>dGoes_any s (i+2) 128 191 (by decide) w hs
 have C3:Hid (∀w,Calls Tryz.prog 125 #[.string s,.int .i64 ((i:Int)+3),.int .u8 128,.int .u8 191] w fun e w'=>e=.returned (.bool (goesB s.data.toList (i+3) 128 191))/\w'=w):=fun w=>dGoes_any s (i+3) 128 191 (by decide) w hs
 obtain ⟨b1,hb1⟩:∃b,goesB s.data.toList (i+1) 128 143=b:=⟨_,rfl⟩
 obtain ⟨b2,hb2⟩:∃b,goesB s.data.toList (i+2) 128 191=b:=⟨_,rfl⟩
 obtain ⟨b3,hb3⟩:∃b,goesB s.data.toList (i+3) 128 191=b:=⟨_,rfl⟩
 rw [hb1] at C1 hv
 rw [hb2] at C2 hv
 rw [hb3] at C3 hv
 rw [hv]
 clear hv hc hb1 hb2 hb3
 cases b1 with
 | false =>
  go_enter Tryz.func108,Tryz.ntmps108
  go_wp2_with (first | (go_at_call 125;refine (C1.out _).mono ?_;rintro e w' ⟨rfl,rfl⟩))
  go_ret
  exact ⟨rfl,rfl⟩
 | true =>
  cases b2 with
  | false =>
   go_enter Tryz.func108,Tryz.ntmps108
   go_wp2_with (first | (go_at_call 125;refine (C1.out _).mono ?_;rintro e w' ⟨rfl,rfl⟩))
   refine wp_loop_rounds 1 ?_
   rw [rounds_succ]
   go_wp2_with (first | (go_at_call 125;refine (C2.out _).mono ?_;rintro e w' ⟨rfl,rfl⟩))
   go_ret
   exact ⟨rfl,rfl⟩
  | true =>
   cases b3 with
   | false =>
    go_enter Tryz.func108,Tryz.ntmps108
    go_wp2_with (first | (go_at_call 125;refine (C1.out _).mono ?_;rintro e w' ⟨rfl,rfl⟩))
    refine wp_loop_rounds 2 ?_
    rw [rounds_succ]
    go_wp2_with (first | (go_at_call 125;refine (C2.out _).mono ?_;rintro e w' ⟨rfl,rfl⟩))
    rw [rounds_succ]
    go_wp2_with (first | (go_at_call 125;refine (C3.out _).mono ?_;rintro e w' ⟨rfl,rfl⟩))
    go_ret
    exact ⟨rfl,rfl⟩
   | true =>
    go_enter Tryz.func108,Tryz.ntmps108
    go_wp2_with (first | (go_at_call 125;refine (C1.out _).mono ?_;rintro e w' ⟨rfl,rfl⟩))
    refine wp_loop_rounds 3 ?_
    rw [rounds_succ]
    go_wp2_with (first | (go_at_call 125;refine (C2.out _).mono ?_;rintro e w' ⟨rfl,rfl⟩))
    rw [rounds_succ]
    go_wp2_with (first | (go_at_call 125;refine (C3.out _).mono ?_;rintro e w' ⟨rfl,rfl⟩))
    rw [rounds_succ]
    go_wp2
    go_ret
    exact ⟨rfl,rfl⟩
theorem dSeq_any (s:ByteArray) (i:Nat) (hi:i < s.size) (w:World) (hs:s.size<=1048576) :
  Calls Tryz.prog 108 #[.string s,.int .i64 (i:Nat)] w fun e w'=>e=.returned (.int .i64 (seqN s.data.toList i:Nat))/\w'=w:=by
 obtain ⟨x,hx⟩:∃x:Int,(s[i].toNat:Int)=x:=⟨_,rfl⟩
 have h0:0<=x:=by omega
 have hor:x < 128\/(128<=x/\x < 194)\/244 < x\/(194<=x/\x < 224)\/x=224\/(225<=x/\x<=236)\/x=237\/(238<=x/\x<=239)\/x=240\/(241<=x/\x<=243)\/x=244:=by omega
 rcases hor with h | h | h | h | h | h | h | h | h | h | h
 ·exact dSeq_a s i hi w hs x hx h0 h
 ·exact dSeq_b s i hi w hs x hx h0 h
 ·exact dSeq_c s i hi w hs x hx h0 h
 ·exact dSeq_d s i hi w hs x hx h0 h
 ·exact dSeq_e s i hi w hs x hx h0 h
 ·exact dSeq_f s i hi w hs x hx h0 h
 ·exact dSeq_g s i hi w hs x hx h0 h
 ·exact dSeq_h s i hi w hs x hx h0 h
 ·exact dSeq_i s i hi w hs x hx h0 h
 ·exact dSeq_j s i hi w hs x hx h0 h
 ·exact dSeq_k s i hi w hs x hx h0 h
theorem cv_one (w:World) (c:Int):(convert 74 9 (.slice (some ⟨w.heap.size,0,none⟩) 1 1)).run Tryz.prog (w.alloc (.cells #[.int .u8 c] 5))=.ok (.string ⟨#[UInt8.ofNat c.toNat]⟩) (w.alloc (.cells #[.int .u8 c] 5)):=by
 rw [run_convert_bytes_string _ 74 9 5 _ 1 1 Tryz.underlying74 Tryz.underlying5 Tryz.underlying9]
 rw [run_bytesToString _ _ 1 1 [c] (run_loadCells_list _ _ [.int .u8 c] (by
  intro j v hj
  match j,hj with
  | 0,hj=>simp at hj;subst hj;simp [Addr.add]))]
 rfl
theorem cv_two (w:World) (c d:Int):(convert 74 9 (.slice (some ⟨w.heap.size,0,none⟩) 2 2)).run Tryz.prog (w.alloc (.cells #[.int .u8 c,.int .u8 d] 5))=.ok (.string ⟨#[UInt8.ofNat c.toNat,UInt8.ofNat d.toNat]⟩) (w.alloc (.cells #[.int .u8 c,.int .u8 d] 5)):=by
 rw [run_convert_bytes_string _ 74 9 5 _ 2 2 Tryz.underlying74 Tryz.underlying5 Tryz.underlying9]
 rw [run_bytesToString _ _ 2 2 [c,d] (run_loadCells_list _ _ [.int .u8 c,.int .u8 d] (by
  intro j v hj
  match j,hj with
  | 0,hj=>simp at hj;subst hj;simp [Addr.add]
  | 1,hj=>simp at hj;subst hj;simp [Addr.add]))]
 rfl
theorem cv_three (w:World) (c d e:Int):(convert 74 9 (.slice (some ⟨w.heap.size,0,none⟩) 3 3)).run Tryz.prog (w.alloc (.cells #[.int .u8 c,.int .u8 d,.int .u8 e] 5))=.ok (.string ⟨#[UInt8.ofNat c.toNat,UInt8.ofNat d.toNat,UInt8.ofNat e.toNat]⟩) (w.alloc (.cells #[.int .u8 c,.int .u8 d,.int .u8 e] 5)):=by
 rw [run_convert_bytes_string _ 74 9 5 _ 3 3 Tryz.underlying74 Tryz.underlying5 Tryz.underlying9]
 rw [run_bytesToString _ _ 3 3 [c,d,e] (run_loadCells_list _ _ [.int .u8 c,.int .u8 d,.int .u8 e] (by
  intro j v hj
  match j,hj with
  | 0,hj=>simp at hj;subst hj;simp [Addr.add]
  | 1,hj=>simp at hj;subst hj;simp [Addr.add]
  | 2,hj=>simp at hj;subst hj;simp [Addr.add]))]
 rfl
theorem add_str (x y:List UInt8) (wx:World) (h:x.length+y.length<=9223372036854775807):(Op.stringOp .add ⟨x.toArray⟩ ⟨y.toArray⟩).run Tryz.prog wx=.ok (.string ⟨(x++y).toArray⟩) wx:=by
 rw [run_string_add_sum wx _ _ (by
  show x.toArray.size+y.toArray.size<=_
  simpa using h),ByteArray.mk_append_mk]
theorem ret_str {a b:List UInt8} (h:a=b):Ending.returned (.string ⟨a.toArray⟩)=.returned (.string ⟨b.toArray⟩):=by rw [h]
set_option maxRecDepth 100000 in
set_option maxHeartbeats 1600000 in
theorem dWritten_any (n:Nat) (hn:n < 65536) (w:World):Calls Tryz.prog 124 #[.int .i64 (n:Nat)] w fun e w'=>e=.returned (.string ⟨(wrt n).toArray⟩)/\w.grownBy w' none:=by
 have k1:=cv_one w
 have k2:=cv_two w
 have k3:=cv_three w
 have e64:(n:Int).tdiv 64=((n / 64:Nat):Int):=by rw [Int.tdiv_eq_ediv_of_nonneg (by omega)];omega
 have m64:(n:Int).tmod 64=((n % 64:Nat):Int):=by rw [Int.tmod_eq_emod_of_nonneg (by omega)];omega
 have e4096:(n:Int).tdiv 4096=((n / 4096:Nat):Int):=by rw [Int.tdiv_eq_ediv_of_nonneg (by omega)];omega
 have m6464:((n / 64:Nat):Int).tmod 64=((n / 64 % 64:Nat):Int):=by rw [Int.tmod_eq_emod_of_nonneg (by omega)];omega
 by_cases h1:n < 128
 ·have HW:Hid (wrt n=[UInt8.ofNat n]):=by show _=_;unfold wrt;rw [if_pos h1]
  clear k2 k3 e64 m64 e4096 m6464
  go_enter Tryz.func124,Tryz.ntmps124
  go_wp2
  go_ret
  refine ⟨ret_str ?_,World.grownBy_alloc _ _ none⟩
  rw [HW.out]
 ·by_cases h2:n < 2048
  ·have HW:Hid (wrt n=[UInt8.ofNat (192+n / 64),UInt8.ofNat (128+n % 64)]):=by show _=_;unfold wrt;rw [if_neg h1,if_pos h2]
   clear k1 k3 e4096 m6464
   go_enter Tryz.func124,Tryz.ntmps124
   go_wp2
   go_ret
   refine ⟨ret_str ?_,World.grownBy_alloc _ _ none⟩
   rw [HW.out]
  ·have HW:Hid (wrt n=[UInt8.ofNat (224+n / 4096),UInt8.ofNat (128+n / 64 % 64),UInt8.ofNat (128+n % 64)]):=by show _=_;unfold wrt;rw [if_neg h1,if_neg h2]
   clear k1 k2
   go_enter Tryz.func124,Tryz.ntmps124
   go_wp2
   go_ret
   refine ⟨ret_str ?_,World.grownBy_alloc _ _ none⟩
   rw [HW.out]
theorem hexV_sign (x:Int) (h0:0<=x) (h1:x < 256):hexV x=sgN (if 65<=x/\x<=70 then x+32 else x):=by
 unfold hexV sgN isDg
 simp only [decide_eq_true_eq]
 repeat' split
 all_goals omega
def FoPost (R:Nat) (s:ByteArray) (L O:Value) (now de:Nat) (g:Rs (Nat × Nat)) (w:World) (e:Ending) (w':World):Prop:=(∀n j,g=.ok (n,j)->e=.returned (.int .i64 (n:Nat))/\Ds w' R s L O now de (.ok j))/\(∀c p,g=.error (c,p)->e=.returned (.int .i64 0)/\Ds w' R s L O now de (.error (c,p)))/\w.grownBy w' (some R)
set_option maxRecDepth 100000 in
set_option maxHeartbeats 1600000 in
theorem dFour_any (R:Nat) (s:ByteArray) (L O:Value) (now de i:Nat) (w:World) (h:Dd w R s L O now de i 0 0) (hi:i<=s.size) (hs:s.size<=1048576) :
  Calls Tryz.prog 123 #[.pointer (some ⟨R,0,none⟩)] w (FoPost R s L O now de (four s.data.toList 4 i 0) w):=by
 have hl:s.data.toList.length=s.size:=by simp
 have HFS:Hid (∀k i n,four s.data.toList (k+1) i n=if hexV (nx s.data.toList i) < 0 then .error (2,i) else four s.data.toList k (i+1) (16 * n+(hexV (nx s.data.toList i)).toNat)):=four_step _
 have HHB:Hid (∀c,-1<=hexV c/\hexV c < 16):=hexV_bound
 have HX:Hid (∀k (hk:k < s.size),nx s.data.toList k=(s[k].toNat:Int)):=byte_at s
 have HXE:Hid (∀k,s.size<=k->hexV (nx s.data.toList k)=-1):=fun k hk=>by rw [nx_end _ _ (by omega)];exact hexV_end
 have CS:Hid (∀c,0<=c->c < 256->∀w,Calls Tryz.prog 144 #[.int .u8 c] w fun e w'=>e=.returned (.int .i64 (sgN c))/\w'=w):=fun c h0 h1 w=>dSign_any c h0 h1 w
 have HSG:Hid (∀x,0<=x->x < 256->hexV x=sgN (if 65<=x/\x<=70 then x+32 else x)):=hexV_sign
 obtain ⟨F,hF⟩:∃F,four s.data.toList 4 i 0=F:=⟨_,rfl⟩
 have HF:Hid (four s.data.toList 4 i 0=F):=hF
 rw [hF]
 have H0:Hid (Dd w R s L O now de i 0 0):=h
 clear h hF
 go_enter Tryz.func123,Tryz.ntmps123
 go_wp2
 go_loopw [3,4] (fun vn vk wr=>∃k n j:Nat,vn=.int .i64 (n:Nat)/\vk=.int .i64 (k:Nat)/\k<=4/\n < 16 ^ k/\four s.data.toList (4 - k) j n=F/\Dd wr R s L O now de j 0 0/\j<=s.size/\w.grownBy wr (some R)) (fun _ vk _=>4 - (intOf vk).toNat)
 case atStart=>exact ⟨0,0,i,rfl,rfl,by omega,by omega,HF.out,H0.out,hi,gb_refl _ _⟩
 case round =>
  obtain ⟨k,n,j,rfl,rfl,hk,hn,hf,hd,hj,hg⟩:=hrel
  have HD:Hid (Dd _ R s L O now de j 0 0):=hd
  have HG:Hid (w.grownBy _ (some R)):=hg
  by_cases hk4:k=4
  ·subst hk4
   have HFF:Hid (F=.ok (n,j)):=hf.symm
   clear hd hg hf hn hk
   go_wp2
   refine bodyPost_ret (results_tmp (t:=2) rfl _ _ _) rfl ?_
   rw [HFF.out]
   exact ⟨fun n j hh=>(by cases hh;exact ⟨rfl,hj,HD.out⟩),fun c p hh=>(by cases hh),HG.out⟩
  ·have hk3:k < 4:=by omega
   obtain ⟨m,hm⟩:∃m,4 - k=m+1:=⟨3 - k,by omega⟩
   have hm2:4 - (k+1)=m:=by omega
   rw [hm,HFS.out] at hf
   have hn4:n < 4096:=Nat.lt_of_lt_of_le hn (Nat.pow_le_pow_right (by decide) (show k<=3 by omega))
   have HN:Hid (n < 16 ^ k):=hn
   have hxb:=HHB.out (nx s.data.toList j)
   obtain ⟨c0,c1,-,-,-,c5,-,-,df⟩:=hd.cells
   have df1:=df 1
   have HXE1:=HXE.out j
   obtain ⟨d,hdx⟩:∃d,hexV (nx s.data.toList j)=d:=⟨_,rfl⟩
   rw [hdx] at hf hxb HXE1
   have HFF:Hid ((if d < 0 then .error (2,j) else four s.data.toList m (j+1) (16 * n+d.toNat))=F):=hf
   obtain ⟨hd1,hd2⟩:=hxb
   have CF:Hid (∀wx,Dd wx R s L O now de j 0 0->Calls Tryz.prog 55 #[.pointer (some ⟨R,0,none⟩),.int .i64 2,.int .i64 (j:Nat)] wx fun en w'=>en=.returned (.tuple #[])/\Dd w' R s L O now de j 2 j/\wx.grownBy w' (some R)):=fun wx hg=>dFail_yes R s L O now de j 2 j wx hg
   by_cases hlt:j < s.size
   ·have hlt':decide ((j:Int) < (s.size:Int))=true:=by simp;omega
    have hxj:=HX.out j hlt
    have hu:=s[j].toNat_lt
    have hsg:=HSG.out (nx s.data.toList j) (by omega) (by omega)
    rw [hdx,hxj] at hsg
    by_cases hA:65<=(s[j].toNat:Int)/\(s[j].toNat:Int)<=70
    ·have CS1:Hid (∀w,Calls Tryz.prog 144 #[.int .u8 ((s[j].toNat:Int)+32)] w fun e w'=>e=.returned (.int .i64 d)/\w'=w):=fun w=>by
      rw [if_pos hA] at hsg
      rw [hsg]
      exact CS.out _ (by omega) (by omega) w
     have h65:65<=(s[j].toNat:Int):=hA.1
     have h70:(s[j].toNat:Int)<=70:=hA.2
     have hwr:IntKind.u8.wrap ((s[j].toNat:Int)+32)=(s[j].toNat:Int)+32:=by simp [IntKind.wrap,IntKind.bits,IntKind.signed];omega
     clear hsg hd hg hf hm hk4 hk hn hdx hxj df HXE1
     by_cases hd0:d < 0
     ·have HGG:Hid (F=.error (2,j)):=by
       have:=HFF.out
       rw [if_pos hd0] at this
       exact this.symm
      go_wp2
      go_quiet (fail)
      have HDA:Hid (Dd (wr.drewN nq) R s L O now de j 0 0):=HD.out
      have HGA:Hid (w.grownBy (wr.drewN nq) (some R)):=gb_drew HG.out nq
      obtain ⟨wA,hwA⟩:∃W,wr.drewN nq=W:=⟨_,rfl⟩
      rw [hwA] at HDA HGA ⊢
      obtain ⟨g0,g1,-,-,-,g5,-,-,dg⟩:=HDA.out.cells
      have dg1:=dg 1
      clear hwA dg
      go_wp2
      go_quiet (fail)
      have HDB:Hid (Dd (wA.drewN nq) R s L O now de j 0 0):=HDA.out
      have HGB:Hid (w.grownBy (wA.drewN nq) (some R)):=gb_drew HGA.out nq
      obtain ⟨wB,hwB⟩:∃W,wA.drewN nq=W:=⟨_,rfl⟩
      rw [hwB] at HDB HGB ⊢
      obtain ⟨g0',g1',-,-,-,g5',-,-,dg⟩:=HDB.out.cells
      have dg2:=dg 1
      clear hwB dg
      go_wp2_with (first | (go_at_call 144;refine (CS1.out _).mono ?_;rintro e w' ⟨rfl,rfl⟩) | (go_at_call 55;refine (CF.out _ HDB.out).mono ?_;rintro e w2 ⟨rfl,hd2,hg2⟩))
      refine bodyPost_ret (results_tmp (t:=2) rfl _ _ _) rfl ?_
      rw [HGG.out]
      exact ⟨fun n j hh=>(by cases hh),fun c p hh=>(by cases hh;exact ⟨rfl,by decide,j,hj,hd2⟩),gb_two HGB.out hg2⟩
     ·obtain ⟨d,rfl⟩:∃d':Nat,d=(d':Int):=⟨d.toNat,by omega⟩
      have HFN:Hid (four s.data.toList m (j+1) (16 * n+d)=F):=by
       have:=HFF.out
       rw [if_neg hd0] at this
       show _=_
       simpa using this
      have HN2:Hid (16 * n+d < 16 ^ (k+1)):=by
       have:=HN.out
       show _ < _
       rw [Nat.pow_succ]
       omega
      go_wp2
      go_quiet (fail)
      have HDA:Hid (Dd (wr.drewN nq) R s L O now de j 0 0):=HD.out
      have HGA:Hid (w.grownBy (wr.drewN nq) (some R)):=gb_drew HG.out nq
      obtain ⟨wA,hwA⟩:∃W,wr.drewN nq=W:=⟨_,rfl⟩
      rw [hwA] at HDA HGA ⊢
      obtain ⟨g0,g1,-,-,-,g5,-,-,dg⟩:=HDA.out.cells
      have dg1:=dg 1
      clear hwA dg
      go_wp2
      go_quiet (fail)
      have HDB:Hid (Dd (wA.drewN nq) R s L O now de j 0 0):=HDA.out
      have HGB:Hid (w.grownBy (wA.drewN nq) (some R)):=gb_drew HGA.out nq
      obtain ⟨wB,hwB⟩:∃W,wA.drewN nq=W:=⟨_,rfl⟩
      rw [hwB] at HDB HGB ⊢
      obtain ⟨g0',g1',-,-,-,g5',-,-,dg⟩:=HDB.out.cells
      have dg2:=dg 1
      clear hwB dg
      go_wp2_with (first | (go_at_call 144;refine (CS1.out _).mono ?_;rintro e w' ⟨rfl,rfl⟩))
      go_roundw
      case rel =>
       exact ⟨k+1,16 * n+d,j+1,by go_num,by go_num,by omega,HN2.out,by rw [hm2];exact HFN.out,HDB.out.setI (j+1),by omega,gb_set HGB.out 1 _⟩
      case measure=>simp [intOf];omega
    ·have CS1:Hid (∀w,Calls Tryz.prog 144 #[.int .u8 ((s[j].toNat:Int))] w fun e w'=>e=.returned (.int .i64 d)/\w'=w):=fun w=>by
      rw [if_neg hA] at hsg
      rw [hsg]
      exact CS.out _ (by omega) (by omega) w
     have hA':¬ (65<=(s[j].toNat:Int)/\(s[j].toNat:Int)<=70):=hA
     clear hsg hd hg hf hm hk4 hk hn hdx hxj df HXE1
     by_cases hd0:d < 0
     ·have HGG:Hid (F=.error (2,j)):=by
       have:=HFF.out
       rw [if_pos hd0] at this
       exact this.symm
      go_wp2
      go_quiet (fail)
      have HDA:Hid (Dd (wr.drewN nq) R s L O now de j 0 0):=HD.out
      have HGA:Hid (w.grownBy (wr.drewN nq) (some R)):=gb_drew HG.out nq
      obtain ⟨wA,hwA⟩:∃W,wr.drewN nq=W:=⟨_,rfl⟩
      rw [hwA] at HDA HGA ⊢
      obtain ⟨g0,g1,-,-,-,g5,-,-,dg⟩:=HDA.out.cells
      have dg1:=dg 1
      clear hwA dg
      go_wp2
      go_quiet (fail)
      have HDB:Hid (Dd (wA.drewN nq) R s L O now de j 0 0):=HDA.out
      have HGB:Hid (w.grownBy (wA.drewN nq) (some R)):=gb_drew HGA.out nq
      obtain ⟨wB,hwB⟩:∃W,wA.drewN nq=W:=⟨_,rfl⟩
      rw [hwB] at HDB HGB ⊢
      obtain ⟨g0',g1',-,-,-,g5',-,-,dg⟩:=HDB.out.cells
      have dg2:=dg 1
      clear hwB dg
      by_cases h65:65<=(s[j].toNat:Int)
      ·have h7:¬ (s[j].toNat:Int)<=70:=by omega
       go_wp2_with (first | (go_at_call 144;refine (CS1.out _).mono ?_;rintro e w' ⟨rfl,rfl⟩) | (go_at_call 55;refine (CF.out _ HDB.out).mono ?_;rintro e w2 ⟨rfl,hd2,hg2⟩))
       refine bodyPost_ret (results_tmp (t:=2) rfl _ _ _) rfl ?_
       rw [HGG.out]
       exact ⟨fun n j hh=>(by cases hh),fun c p hh=>(by cases hh;exact ⟨rfl,by decide,j,hj,hd2⟩),gb_two HGB.out hg2⟩
      ·have h7:(s[j].toNat:Int) < 65:=by omega
       go_wp2_with (first | (go_at_call 144;refine (CS1.out _).mono ?_;rintro e w' ⟨rfl,rfl⟩) | (go_at_call 55;refine (CF.out _ HDB.out).mono ?_;rintro e w2 ⟨rfl,hd2,hg2⟩))
       refine bodyPost_ret (results_tmp (t:=2) rfl _ _ _) rfl ?_
       rw [HGG.out]
       exact ⟨fun n j hh=>(by cases hh),fun c p hh=>(by cases hh;exact ⟨rfl,by decide,j,hj,hd2⟩),gb_two HGB.out hg2⟩
     ·obtain ⟨d,rfl⟩:∃d':Nat,d=(d':Int):=⟨d.toNat,by omega⟩
      have HFN:Hid (four s.data.toList m (j+1) (16 * n+d)=F):=by
       have:=HFF.out
       rw [if_neg hd0] at this
       show _=_
       simpa using this
      have HN2:Hid (16 * n+d < 16 ^ (k+1)):=by
       have:=HN.out
       show _ < _
       rw [Nat.pow_succ]
       omega
      go_wp2
      go_quiet (fail)
      have HDA:Hid (Dd (wr.drewN nq) R s L O now de j 0 0):=HD.out
      have HGA:Hid (w.grownBy (wr.drewN nq) (some R)):=gb_drew HG.out nq
      obtain ⟨wA,hwA⟩:∃W,wr.drewN nq=W:=⟨_,rfl⟩
      rw [hwA] at HDA HGA ⊢
      obtain ⟨g0,g1,-,-,-,g5,-,-,dg⟩:=HDA.out.cells
      have dg1:=dg 1
      clear hwA dg
      go_wp2
      go_quiet (fail)
      have HDB:Hid (Dd (wA.drewN nq) R s L O now de j 0 0):=HDA.out
      have HGB:Hid (w.grownBy (wA.drewN nq) (some R)):=gb_drew HGA.out nq
      obtain ⟨wB,hwB⟩:∃W,wA.drewN nq=W:=⟨_,rfl⟩
      rw [hwB] at HDB HGB ⊢
      obtain ⟨g0',g1',-,-,-,g5',-,-,dg⟩:=HDB.out.cells
      have dg2:=dg 1
      clear hwB dg
      by_cases h65:65<=(s[j].toNat:Int)
      ·have h7:¬ (s[j].toNat:Int)<=70:=by omega
       go_wp2_with (first | (go_at_call 144;refine (CS1.out _).mono ?_;rintro e w' ⟨rfl,rfl⟩))
       go_roundw
       case rel =>
        exact ⟨k+1,16 * n+d,j+1,by go_num,by go_num,by omega,HN2.out,by rw [hm2];exact HFN.out,HDB.out.setI (j+1),by omega,gb_set HGB.out 1 _⟩
       case measure=>simp [intOf];omega
      ·have h7:(s[j].toNat:Int) < 65:=by omega
       go_wp2_with (first | (go_at_call 144;refine (CS1.out _).mono ?_;rintro e w' ⟨rfl,rfl⟩))
       go_roundw
       case rel =>
        exact ⟨k+1,16 * n+d,j+1,by go_num,by go_num,by omega,HN2.out,by rw [hm2];exact HFN.out,HDB.out.setI (j+1),by omega,gb_set HGB.out 1 _⟩
       case measure=>simp [intOf];omega
   ·have hge:decide ((j:Int) < (s.size:Int))=false:=by simp;omega
    have hdm:d=-1:=HXE1 (by omega)
    have HGG:Hid (F=.error (2,j)):=by
     have:=HFF.out
     rw [if_pos (by omega)] at this
     exact this.symm
    clear hd hg hf hm hk4 hk hn hdx hdm HXE1 df
    go_wp2
    go_quiet (fail)
    go_wp2_with (first | (go_at_call 55;refine (CF.out _ ?_).mono ?_;exact HD.out;rintro e w2 ⟨rfl,hd2,hg2⟩))
    refine bodyPost_ret (results_tmp (t:=2) rfl _ _ _) rfl ?_
    rw [HGG.out]
    exact ⟨fun n j hh=>(by cases hh),fun c p hh=>(by cases hh;exact ⟨rfl,by decide,j,hj,hd2⟩),gb_two HG.out ⟨hg2.os,hg2.tape,hg2.output,hg2.size,hg2.block⟩⟩
end Go.Proofs.YtbgnflcebafjjaaGreatDoor
