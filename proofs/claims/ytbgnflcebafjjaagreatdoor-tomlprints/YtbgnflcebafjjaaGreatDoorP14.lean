import Derived.Test.YtbgnflcebafjjaaGreatDoorP13
namespace Go.Proofs.YtbgnflcebafjjaaGreatDoor
open Go.RowKit Go.Joins
set_option linter.unusedVariables false
set_option maxRecDepth 100000 in
theorem dDigit_any (c:UInt8) (w:World):Calls Tryz.prog 84 #[.int .u8 (c.toNat:Int)] w fun e w'=>e=.returned (.bool (isDg (c.toNat:Int)))/\w'=w:=by
 have:=c.toNat_lt
 go_enter Tryz.func84,Tryz.ntmps84
 go_wp2
 all_goals go_ret
 all_goals (refine ⟨ret_bool ?_,rfl⟩;rw [Bool.eq_iff_iff];unfold isDg;simp;try omega)
set_option maxRecDepth 100000 in
set_option maxHeartbeats 800000 in
theorem dBare_any (c:UInt8) (w:World):Calls Tryz.prog 67 #[.int .u8 (c.toNat:Int)] w fun e w'=>e=.returned (.bool (isBa (c.toNat:Int)))/\w'=w:=by
 have hc:=c.toNat_lt
 have CD:Hid (∀w,Calls Tryz.prog 84 #[.int .u8 (c.toNat:Int)] w fun e w'=>e=.returned (.bool (isDg (c.toNat:Int)))/\w'=w):=dDigit_any c
 have HB:Hid (isBa (c.toNat:Int)=(decide (97<=(c.toNat:Int)/\(c.toNat:Int)<=122) || decide (65<=(c.toNat:Int)/\(c.toNat:Int)<=90) || isDg (c.toNat:Int) || decide ((c.toNat:Int)=95) || decide ((c.toNat:Int)=45))):=rfl
 obtain ⟨b,hb⟩:∃b,isDg (c.toNat:Int)=b:=⟨_,rfl⟩
 obtain ⟨r,hr⟩:∃r,isBa (c.toNat:Int)=r:=⟨_,rfl⟩
 rw [hb] at CD HB
 rw [hr] at HB ⊢
 clear hb hr
 obtain ⟨x,hx⟩:∃x:Int,(c.toNat:Int)=x:=⟨_,rfl⟩
 have hx0:0<=x:=by omega
 rw [hx] at CD HB ⊢
 clear hx hc
 cases b with
 | true =>
  go_enter Tryz.func67,Tryz.ntmps67
  go_wp2_with (first | (go_at_call 84;refine (CD.out _).mono ?_;rintro e w' ⟨rfl,rfl⟩))
  all_goals go_ret
  all_goals (refine ⟨ret_bool ?_,rfl⟩;rw [HB.out,Bool.eq_iff_iff];simp;try omega)
 | false =>
  go_enter Tryz.func67,Tryz.ntmps67
  go_wp2_with (first | (go_at_call 84;refine (CD.out _).mono ?_;rintro e w' ⟨rfl,rfl⟩))
  all_goals go_ret
  all_goals (refine ⟨ret_bool ?_,rfl⟩;rw [HB.out,Bool.eq_iff_iff];simp;try omega)
def sgN (c:Int):Int:=if 48<=c/\c<=57 then c - 48 else if 97<=c/\c<=102 then c - 87 else -1
set_option maxRecDepth 100000 in
theorem dSign_any (c:Int) (h0:0<=c) (h1:c < 256) (w:World):Calls Tryz.prog 144 #[.int .u8 c] w fun e w'=>e=.returned (.int .i64 (sgN c))/\w'=w:=by
 obtain ⟨r,hr⟩:∃r,sgN c=r:=⟨_,rfl⟩
 have HR:Hid ((if 48<=c/\c<=57 then c - 48 else if 97<=c/\c<=102 then c - 87 else -1)=r):=hr
 rw [hr]
 clear hr
 go_enter Tryz.func144,Tryz.ntmps144
 go_wp2
 all_goals go_ret
 all_goals (refine ⟨ret_int ?_,rfl⟩;rw [<-HR.out];repeat' split)
 all_goals (first | rfl | omega)
set_option maxRecDepth 100000 in
set_option maxHeartbeats 800000 in
theorem dGoes_any (s:ByteArray) (i:Nat) (lo hi:Int) (hlo:0<=lo) (w:World) (hs:s.size<=1048576) :
  Calls Tryz.prog 125 #[.string s,.int .i64 (i:Nat),.int .u8 lo,.int .u8 hi] w fun e w'=>e=.returned (.bool (goesB s.data.toList i lo hi))/\w'=w:=by
 have hl:s.data.toList.length=s.size:=by simp
 by_cases hlt:i < s.size
 ·have HG:Hid (goesB s.data.toList i lo hi=decide (lo<=(s[i].toNat:Int)/\(s[i].toNat:Int)<=hi)):=by
   show _=_
   unfold goesB
   rw [byte_at s i hlt]
  obtain ⟨r,hr⟩:∃r,goesB s.data.toList i lo hi=r:=⟨_,rfl⟩
  rw [hr] at HG ⊢
  clear hr
  go_enter Tryz.func125,Tryz.ntmps125
  go_wp2
  all_goals go_ret
  all_goals (refine ⟨ret_bool ?_,rfl⟩;rw [HG.out,Bool.eq_iff_iff];simp;try omega)
 ·have HG:Hid (goesB s.data.toList i lo hi=false):=by
   show _=_
   unfold goesB
   rw [nx_end _ _ (by omega),decide_eq_false (by omega)]
  rw [HG.out]
  go_enter Tryz.func125,Tryz.ntmps125
  go_wp2
  all_goals go_ret
  all_goals exact ⟨rfl,rfl⟩
theorem seqN_val (l:List UInt8) (i:Nat) (x:Int) (hx:nx l i=x):seqN l i=if x < 0 then 0 else if x < 128 then 1 else if x < 194\/244 < x then 0 else if goesB l (i+1) (if x=224 then 160 else if x=240 then 144 else 128) (if x=237 then 159 else if x=244 then 143 else 191)=false then 0 else if x < 224 then 2 else if goesB l (i+2) 128 191=false then 0 else if x < 240 then 3 else if goesB l (i+3) 128 191=false then 0 else 4:=by
 subst hx;rfl
set_option maxRecDepth 100000 in
set_option maxHeartbeats 1600000 in
theorem dSeq_a (s:ByteArray) (i:Nat) (hi:i < s.size) (w:World) (hs:s.size<=1048576) (x:Int) (hx:(s[i].toNat:Int)=x) (h0:0<=x) (hc:x < 128) :
  Calls Tryz.prog 108 #[.string s,.int .i64 (i:Nat)] w fun e w'=>e=.returned (.int .i64 (seqN s.data.toList i:Nat))/\w'=w:=by
 have hv:=seqN_val s.data.toList i x ((byte_at s i hi).trans hx)
 have t0:decide (x < 128)=true:=by simp;omega
 have p0:x < 128:=by omega
 have t1:decide (x < 194)=true:=by simp;omega
 have p1:x < 194:=by omega
 have t2:decide (244 < x)=false:=by simp;omega
 have p2:¬ 244 < x:=by omega
 have t3:decide (224<=x)=false:=by simp;omega
 have p3:¬ 224<=x:=by omega
 have t4:decide (240<=x)=false:=by simp;omega
 have p4:¬ 240<=x:=by omega
 have t5:(x == 224)=false:=by simp;omega
 have p5:¬ x=224:=by omega
 have t6:(x == 237)=false:=by simp;omega
 have p6:¬ x=237:=by omega
 have t7:(x == 240)=false:=by simp;omega
 have p7:¬ x=240:=by omega
 have t8:(x == 244)=false:=by simp;omega
 have p8:¬ x=244:=by omega
 rw [if_neg (by omega),if_pos p0] at hv
 rw [hv]
 have hk:s[i].toNat=x.toNat:=by omega
 clear hv hc
 go_enter Tryz.func108,Tryz.ntmps108
 go_wp2
 go_ret
 exact ⟨rfl,rfl⟩
set_option maxRecDepth 100000 in
set_option maxHeartbeats 1600000 in
theorem dSeq_b (s:ByteArray) (i:Nat) (hi:i < s.size) (w:World) (hs:s.size<=1048576) (x:Int) (hx:(s[i].toNat:Int)=x) (h0:0<=x) (hc:128<=x/\x < 194) :
  Calls Tryz.prog 108 #[.string s,.int .i64 (i:Nat)] w fun e w'=>e=.returned (.int .i64 (seqN s.data.toList i:Nat))/\w'=w:=by
 have hv:=seqN_val s.data.toList i x ((byte_at s i hi).trans hx)
 have t0:decide (x < 128)=false:=by simp;omega
 have p0:¬ x < 128:=by omega
 have t1:decide (x < 194)=true:=by simp;omega
 have p1:x < 194:=by omega
 have t2:decide (244 < x)=false:=by simp;omega
 have p2:¬ 244 < x:=by omega
 have t3:decide (224<=x)=false:=by simp;omega
 have p3:¬ 224<=x:=by omega
 have t4:decide (240<=x)=false:=by simp;omega
 have p4:¬ 240<=x:=by omega
 have t5:(x == 224)=false:=by simp;omega
 have p5:¬ x=224:=by omega
 have t6:(x == 237)=false:=by simp;omega
 have p6:¬ x=237:=by omega
 have t7:(x == 240)=false:=by simp;omega
 have p7:¬ x=240:=by omega
 have t8:(x == 244)=false:=by simp;omega
 have p8:¬ x=244:=by omega
 rw [if_neg (by omega),if_neg p0,if_pos (by omega)] at hv
 rw [hv]
 have hk:s[i].toNat=x.toNat:=by omega
 clear hv hc
 go_enter Tryz.func108,Tryz.ntmps108
 go_wp2
 go_ret
 exact ⟨rfl,rfl⟩
set_option maxRecDepth 100000 in
set_option maxHeartbeats 1600000 in
theorem dSeq_c (s:ByteArray) (i:Nat) (hi:i < s.size) (w:World) (hs:s.size<=1048576) (x:Int) (hx:(s[i].toNat:Int)=x) (h0:0<=x) (hc:244 < x) :
  Calls Tryz.prog 108 #[.string s,.int .i64 (i:Nat)] w fun e w'=>e=.returned (.int .i64 (seqN s.data.toList i:Nat))/\w'=w:=by
 have hv:=seqN_val s.data.toList i x ((byte_at s i hi).trans hx)
 have t0:decide (x < 128)=false:=by simp;omega
 have p0:¬ x < 128:=by omega
 have t1:decide (x < 194)=false:=by simp;omega
 have p1:¬ x < 194:=by omega
 have t2:decide (244 < x)=true:=by simp;omega
 have p2:244 < x:=by omega
 have t3:decide (224<=x)=true:=by simp;omega
 have p3:224<=x:=by omega
 have t4:decide (240<=x)=true:=by simp;omega
 have p4:240<=x:=by omega
 have t5:(x == 224)=false:=by simp;omega
 have p5:¬ x=224:=by omega
 have t6:(x == 237)=false:=by simp;omega
 have p6:¬ x=237:=by omega
 have t7:(x == 240)=false:=by simp;omega
 have p7:¬ x=240:=by omega
 have t8:(x == 244)=false:=by simp;omega
 have p8:¬ x=244:=by omega
 rw [if_neg (by omega),if_neg p0,if_pos (by omega)] at hv
 rw [hv]
 have hk:s[i].toNat=x.toNat:=by omega
 clear hv hc
 go_enter Tryz.func108,Tryz.ntmps108
 go_wp2
 go_ret
 exact ⟨rfl,rfl⟩
set_option maxRecDepth 100000 in
set_option maxHeartbeats 1600000 in
theorem dSeq_d (s:ByteArray) (i:Nat) (hi:i < s.size) (w:World) (hs:s.size<=1048576) (x:Int) (hx:(s[i].toNat:Int)=x) (h0:0<=x) (hc:194<=x/\x < 224) :
  Calls Tryz.prog 108 #[.string s,.int .i64 (i:Nat)] w fun e w'=>e=.returned (.int .i64 (seqN s.data.toList i:Nat))/\w'=w:=by
 have hv:=seqN_val s.data.toList i x ((byte_at s i hi).trans hx)
 have t0:decide (x < 128)=false:=by simp;omega
 have p0:¬ x < 128:=by omega
 have t1:decide (x < 194)=false:=by simp;omega
 have p1:¬ x < 194:=by omega
 have t2:decide (244 < x)=false:=by simp;omega
 have p2:¬ 244 < x:=by omega
 have t3:decide (224<=x)=false:=by simp;omega
 have p3:¬ 224<=x:=by omega
 have t4:decide (240<=x)=false:=by simp;omega
 have p4:¬ 240<=x:=by omega
 have t5:(x == 224)=false:=by simp;omega
 have p5:¬ x=224:=by omega
 have t6:(x == 237)=false:=by simp;omega
 have p6:¬ x=237:=by omega
 have t7:(x == 240)=false:=by simp;omega
 have p7:¬ x=240:=by omega
 have t8:(x == 244)=false:=by simp;omega
 have p8:¬ x=244:=by omega
 rw [if_neg (by omega),if_neg p0,if_neg (by omega)] at hv
 rw [if_neg p5,if_neg p7,if_neg p6,if_neg p8] at hv
 rw [if_pos (show x < 224 by omega)] at hv
 have C1:Hid (∀w,Calls Tryz.prog 125 #[.string s,.int .i64 ((i:Int)+1),.int .u8 128,.int .u8 191] w fun e w'=>e=.returned (.bool (goesB s.data.toList (i+1) 128 191))/\w'=w):=fun w=>dGoes_any s (i+1) 128 191 (by decide) w hs
 obtain ⟨b1,hb1⟩:∃b,goesB s.data.toList (i+1) 128 191=b:=⟨_,rfl⟩
 rw [hb1] at C1 hv
 rw [hv]
 clear hv hc hb1
 cases b1 with
 | false =>
  go_enter Tryz.func108,Tryz.ntmps108
  go_wp2_with (first | (go_at_call 125;refine (C1.out _).mono ?_;rintro e w' ⟨rfl,rfl⟩))
  go_ret
  exact ⟨rfl,rfl⟩
 | true =>
  go_enter Tryz.func108,Tryz.ntmps108
  go_wp2_with (first | (go_at_call 125;refine (C1.out _).mono ?_;rintro e w' ⟨rfl,rfl⟩))
  refine wp_loop_rounds 1 ?_
  rw [rounds_succ]
  go_wp2
  go_ret
  exact ⟨rfl,rfl⟩
set_option maxRecDepth 100000 in
set_option maxHeartbeats 1600000 in
theorem dSeq_e (s:ByteArray) (i:Nat) (hi:i < s.size) (w:World) (hs:s.size<=1048576) (x:Int) (hx:(s[i].toNat:Int)=x) (h0:0<=x) (hc:x=224) :
  Calls Tryz.prog 108 #[.string s,.int .i64 (i:Nat)] w fun e w'=>e=.returned (.int .i64 (seqN s.data.toList i:Nat))/\w'=w:=by
 have hv:=seqN_val s.data.toList i x ((byte_at s i hi).trans hx)
 have t0:decide (x < 128)=false:=by simp;omega
 have p0:¬ x < 128:=by omega
 have t1:decide (x < 194)=false:=by simp;omega
 have p1:¬ x < 194:=by omega
 have t2:decide (244 < x)=false:=by simp;omega
 have p2:¬ 244 < x:=by omega
 have t3:decide (224<=x)=true:=by simp;omega
 have p3:224<=x:=by omega
 have t4:decide (240<=x)=false:=by simp;omega
 have p4:¬ 240<=x:=by omega
 have t5:(x == 224)=true:=by simp;omega
 have p5:x=224:=by omega
 have t6:(x == 237)=false:=by simp;omega
 have p6:¬ x=237:=by omega
 have t7:(x == 240)=false:=by simp;omega
 have p7:¬ x=240:=by omega
 have t8:(x == 244)=false:=by simp;omega
 have p8:¬ x=244:=by omega
 rw [if_neg (by omega),if_neg p0,if_neg (by omega)] at hv
 rw [if_pos p5,if_neg p6,if_neg p8] at hv
 rw [if_neg (show ¬ x < 224 by omega),if_pos (show x < 240 by omega)] at hv
 have C1:Hid (∀w,Calls Tryz.prog 125 #[.string s,.int .i64 ((i:Int)+1),.int .u8 160,.int .u8 191] w fun e w'=>e=.returned (.bool (goesB s.data.toList (i+1) 160 191))/\w'=w):=fun w=>dGoes_any s (i+1) 160 191 (by decide) w hs
 have C2:Hid (∀w,Calls Tryz.prog 125 #[.string s,.int .i64 ((i:Int)+2),.int .u8 128,.int .u8 191] w fun e w'=>e=.returned (.bool (goesB s.data.toList (i+2) 128 191))/\w'=w):=fun w=>dGoes_any s (i+2) 128 191 (by decide) w hs
 obtain ⟨b1,hb1⟩:∃b,goesB s.data.toList (i+1) 160 191=b:=⟨_,rfl⟩
 obtain ⟨b2,hb2⟩:∃b,goesB s.data.toList (i+2) 128 191=b:=⟨_,rfl⟩
 rw [hb1] at C1 hv
 rw [hb2] at C2 hv
 rw [hv]
 clear hv hc hb1 hb2
 cases b1 with
 | false =>
  go_enter Tryz.func108,Tryz.ntmps108
  go_wp2_with (first | (go_at_call 125;refine (C1.out _).mono ?_;rintro e w' ⟨rfl,rfl⟩))
  go_ret
  exact ⟨rfl,rfl⟩
 | true =>
  cases b2 with
  | false =>
   go_enter Tryz.func108,Tryz.ntmps108
   go_wp2_with (first | (go_at_call 125;refine (C1.out _).mono ?_;rintro e w' ⟨rfl,rfl⟩))
   refine wp_loop_rounds 1 ?_
   rw [rounds_succ]
   go_wp2_with (first | (go_at_call 125;refine (C2.out _).mono ?_;rintro e w' ⟨rfl,rfl⟩))
   go_ret
   exact ⟨rfl,rfl⟩
  | true =>
   go_enter Tryz.func108,Tryz.ntmps108
   go_wp2_with (first | (go_at_call 125;refine (C1.out _).mono ?_;rintro e w' ⟨rfl,rfl⟩))
   refine wp_loop_rounds 2 ?_
   rw [rounds_succ]
   go_wp2_with (first | (go_at_call 125;refine (C2.out _).mono ?_;rintro e w' ⟨rfl,rfl⟩))
   rw [rounds_succ]
   go_wp2
   go_ret
   exact ⟨rfl,rfl⟩
set_option maxRecDepth 100000 in
set_option maxHeartbeats 1600000 in
theorem dSeq_f (s:ByteArray) (i:Nat) (hi:i < s.size) (w:World) (hs:s.size<=1048576) (x:Int) (hx:(s[i].toNat:Int)=x) (h0:0<=x) (hc:225<=x/\x<=236) :
  Calls Tryz.prog 108 #[.string s,.int .i64 (i:Nat)] w fun e w'=>e=.returned (.int .i64 (seqN s.data.toList i:Nat))/\w'=w:=by
 have hv:=seqN_val s.data.toList i x ((byte_at s i hi).trans hx)
 have t0:decide (x < 128)=false:=by simp;omega
 have p0:¬ x < 128:=by omega
 have t1:decide (x < 194)=false:=by simp;omega
 have p1:¬ x < 194:=by omega
 have t2:decide (244 < x)=false:=by simp;omega
 have p2:¬ 244 < x:=by omega
 have t3:decide (224<=x)=true:=by simp;omega
 have p3:224<=x:=by omega
 have t4:decide (240<=x)=false:=by simp;omega
 have p4:¬ 240<=x:=by omega
 have t5:(x == 224)=false:=by simp;omega
 have p5:¬ x=224:=by omega
 have t6:(x == 237)=false:=by simp;omega
 have p6:¬ x=237:=by omega
 have t7:(x == 240)=false:=by simp;omega
 have p7:¬ x=240:=by omega
 have t8:(x == 244)=false:=by simp;omega
 have p8:¬ x=244:=by omega
 rw [if_neg (by omega),if_neg p0,if_neg (by omega)] at hv
 rw [if_neg p5,if_neg p7,if_neg p6,if_neg p8] at hv
 rw [if_neg (show ¬ x < 224 by omega),if_pos (show x < 240 by omega)] at hv
 have C1:Hid (∀w,Calls Tryz.prog 125 #[.string s,.int .i64 ((i:Int)+1),.int .u8 128,.int .u8 191] w fun e w'=>e=.returned (.bool (goesB s.data.toList (i+1) 128 191))/\w'=w):=fun w=>dGoes_any s (i+1) 128 191 (by decide) w hs
 have C2:Hid (∀w,Calls Tryz.prog 125 #[.string s,.int .i64 ((i:Int)+2),.int .u8 128,.int .u8 191] w fun e w'=>e=.returned (.bool (goesB s.data.toList (i+2) 128 191))/\w'=w):=fun w=>dGoes_any s (i+2) 128 191 (by decide) w hs
 obtain ⟨b1,hb1⟩:∃b,goesB s.data.toList (i+1) 128 191=b:=⟨_,rfl⟩
 obtain ⟨b2,hb2⟩:∃b,goesB s.data.toList (i+2) 128 191=b:=⟨_,rfl⟩
 rw [hb1] at C1 hv
 rw [hb2] at C2 hv
 rw [hv]
 clear hv hc hb1 hb2
 cases b1 with
 | false =>
  go_enter Tryz.func108,Tryz.ntmps108
  go_wp2_with (first | (go_at_call 125;refine (C1.out _).mono ?_;rintro e w' ⟨rfl,rfl⟩))
  go_ret
  exact ⟨rfl,rfl⟩
 | true =>
  cases b2 with
  | false =>
   go_enter Tryz.func108,Tryz.ntmps108
   go_wp2_with (first | (go_at_call 125;refine (C1.out _).mono ?_;rintro e w' ⟨rfl,rfl⟩))
   refine wp_loop_rounds 1 ?_
   rw [rounds_succ]
   go_wp2_with (first | (go_at_call 125;refine (C2.out _).mono ?_;rintro e w' ⟨rfl,rfl⟩))
   go_ret
   exact ⟨rfl,rfl⟩
  | true =>
   go_enter Tryz.func108,Tryz.ntmps108
   go_wp2_with (first | (go_at_call 125;refine (C1.out _).mono ?_;rintro e w' ⟨rfl,rfl⟩))
   refine wp_loop_rounds 2 ?_
   rw [rounds_succ]
   go_wp2_with (first | (go_at_call 125;refine (C2.out _).mono ?_;rintro e w' ⟨rfl,rfl⟩))
   rw [rounds_succ]
   go_wp2
   go_ret
   exact ⟨rfl,rfl⟩
set_option maxRecDepth 100000 in
set_option maxHeartbeats 1600000 in
theorem dSeq_g (s:ByteArray) (i:Nat) (hi:i < s.size) (w:World) (hs:s.size<=1048576) (x:Int) (hx:(s[i].toNat:Int)=x) (h0:0<=x) (hc:x=237) :
  Calls Tryz.prog 108 #[.string s,.int .i64 (i:Nat)] w fun e w'=>e=.returned (.int .i64 (seqN s.data.toList i:Nat))/\w'=w:=by
 have hv:=seqN_val s.data.toList i x ((byte_at s i hi).trans hx)
 have t0:decide (x < 128)=false:=by simp;omega
 have p0:¬ x < 128:=by omega
 have t1:decide (x < 194)=false:=by simp;omega
 have p1:¬ x < 194:=by omega
 have t2:decide (244 < x)=false:=by simp;omega
 have p2:¬ 244 < x:=by omega
 have t3:decide (224<=x)=true:=by simp;omega
 have p3:224<=x:=by omega
 have t4:decide (240<=x)=false:=by simp;omega
 have p4:¬ 240<=x:=by omega
 have t5:(x == 224)=false:=by simp;omega
 have p5:¬ x=224:=by omega
 have t6:(x == 237)=true:=by simp;omega
 have p6:x=237:=by omega
 have t7:(x == 240)=false:=by simp;omega
 have p7:¬ x=240:=by omega
 have t8:(x == 244)=false:=by simp;omega
 have p8:¬ x=244:=by omega
 rw [if_neg (by omega),if_neg p0,if_neg (by omega)] at hv
 rw [if_neg p5,if_neg p7,if_pos p6] at hv
 rw [if_neg (show ¬ x < 224 by omega),if_pos (show x < 240 by omega)] at hv
 have C1:Hid (∀w,Calls Tryz.prog 125 #[.string s,.int .i64 ((i:Int)+1),.int .u8 128,.int .u8 159] w fun e w'=>e=.returned (.bool (goesB s.data.toList (i+1) 128 159))/\w'=w):=fun w=>dGoes_any s (i+1) 128 159 (by decide) w hs
 have C2:Hid (∀w,Calls Tryz.prog 125 #[.string s,.int .i64 ((i:Int)+2),.int .u8 128,.int .u8 191] w fun e w'=>e=.returned (.bool (goesB s.data.toList (i+2) 128 191))/\w'=w):=fun w=>dGoes_any s (i+2) 128 191 (by decide) w hs
 obtain ⟨b1,hb1⟩:∃b,goesB s.data.toList (i+1) 128 159=b:=⟨_,rfl⟩
 obtain ⟨b2,hb2⟩:∃b,goesB s.data.toList (i+2) 128 191=b:=⟨_,rfl⟩
 rw [hb1] at C1 hv
 rw [hb2] at C2 hv
 rw [hv]
 clear hv hc hb1 hb2
 cases b1 with
 | false =>
  go_enter Tryz.func108,Tryz.ntmps108
  go_wp2_with (first | (go_at_call 125;refine (C1.out _).mono ?_;rintro e w' ⟨rfl,rfl⟩))
  go_ret
  exact ⟨rfl,rfl⟩
 | true =>
  cases b2 with
  | false =>
   go_enter Tryz.func108,Tryz.ntmps108
   go_wp2_with (first | (go_at_call 125;refine (C1.out _).mono ?_;rintro e w' ⟨rfl,rfl⟩))
   refine wp_loop_rounds 1 ?_
   rw [rounds_succ]
   go_wp2_with (first | (go_at_call 125;refine (C2.out _).mono ?_;rintro e w' ⟨rfl,rfl⟩))
   go_ret
   exact ⟨rfl,rfl⟩
  | true =>
   go_enter Tryz.func108,Tryz.ntmps108
   go_wp2_with (first | (go_at_call 125;refine (C1.out _).mono ?_;rintro e w' ⟨rfl,rfl⟩))
   refine wp_loop_rounds 2 ?_
   rw [rounds_succ]
   go_wp2_with (first | (go_at_call 125;refine (C2.out _).mono ?_;rintro e w' ⟨rfl,rfl⟩))
   rw [rounds_succ]
   go_wp2
   go_ret
   exact ⟨rfl,rfl⟩
set_option maxRecDepth 100000 in
set_option maxHeartbeats 1600000 in
theorem dSeq_h (s:ByteArray) (i:Nat) (hi:i < s.size) (w:World) (hs:s.size<=1048576) (x:Int) (hx:(s[i].toNat:Int)=x) (h0:0<=x) (hc:238<=x/\x<=239) :
  Calls Tryz.prog 108 #[.string s,.int .i64 (i:Nat)] w fun e w'=>e=.returned (.int .i64 (seqN s.data.toList i:Nat))/\w'=w:=by
 have hv:=seqN_val s.data.toList i x ((byte_at s i hi).trans hx)
 have t0:decide (x < 128)=false:=by simp;omega
 have p0:¬ x < 128:=by omega
 have t1:decide (x < 194)=false:=by simp;omega
 have p1:¬ x < 194:=by omega
 have t2:decide (244 < x)=false:=by simp;omega
 have p2:¬ 244 < x:=by omega
 have t3:decide (224<=x)=true:=by simp;omega
 have p3:224<=x:=by omega
 have t4:decide (240<=x)=false:=by simp;omega
 have p4:¬ 240<=x:=by omega
 have t5:(x == 224)=false:=by simp;omega
 have p5:¬ x=224:=by omega
 have t6:(x == 237)=false:=by simp;omega
 have p6:¬ x=237:=by omega
 have t7:(x == 240)=false:=by simp;omega
 have p7:¬ x=240:=by omega
 have t8:(x == 244)=false:=by simp;omega
 have p8:¬ x=244:=by omega
 rw [if_neg (by omega),if_neg p0,if_neg (by omega)] at hv
 rw [if_neg p5,if_neg p7,if_neg p6,if_neg p8] at hv
 rw [if_neg (show ¬ x < 224 by omega),if_pos (show x < 240 by omega)] at hv
 have C1:Hid (∀w,Calls Tryz.prog 125 #[.string s,.int .i64 ((i:Int)+1),.int .u8 128,.int .u8 191] w fun e w'=>e=.returned (.bool (goesB s.data.toList (i+1) 128 191))/\w'=w):=fun w=>dGoes_any s (i+1) 128 191 (by decide) w hs
 have C2:Hid (∀w,Calls Tryz.prog 125 #[.string s,.int .i64 ((i:Int)+2),.int .u8 128,.int .u8 191] w fun e w'=>e=.returned (.bool (goesB s.data.toList (i+2) 128 191))/\w'=w):=fun w=>dGoes_any s (i+2) 128 191 (by decide) w hs
 obtain ⟨b1,hb1⟩:∃b,goesB s.data.toList (i+1) 128 191=b:=⟨_,rfl⟩
 obtain ⟨b2,hb2⟩:∃b,goesB s.data.toList (i+2) 128 191=b:=⟨_,rfl⟩
 rw [hb1] at C1 hv
 rw [hb2] at C2 hv
 rw [hv]
 clear hv hc hb1 hb2
 cases b1 with
 | false =>
  go_enter Tryz.func108,Tryz.ntmps108
  go_wp2_with (first | (go_at_call 125;refine (C1.out _).mono ?_;rintro e w' ⟨rfl,rfl⟩))
  go_ret
  exact ⟨rfl,rfl⟩
 | true =>
  cases b2 with
  | false =>
   go_enter Tryz.func108,Tryz.ntmps108
   go_wp2_with (first | (go_at_call 125;refine (C1.out _).mono ?_;rintro e w' ⟨rfl,rfl⟩))
   refine wp_loop_rounds 1 ?_
   rw [rounds_succ]
   go_wp2_with (first | (go_at_call 125;refine (C2.out _).mono ?_;rintro e w' ⟨rfl,rfl⟩))
   go_ret
   exact ⟨rfl,rfl⟩
  | true =>
   go_enter Tryz.func108,Tryz.ntmps108
   go_wp2_with (first | (go_at_call 125;refine (C1.out _).mono ?_;rintro e w' ⟨rfl,rfl⟩))
   refine wp_loop_rounds 2 ?_
   rw [rounds_succ]
   go_wp2_with (first | (go_at_call 125;refine (C2.out _).mono ?_;rintro e w' ⟨rfl,rfl⟩))
   rw [rounds_succ]
   go_wp2
   go_ret
   exact ⟨rfl,rfl⟩
set_option maxRecDepth 100000 in
set_option maxHeartbeats 1600000 in
theorem dSeq_i (s:ByteArray) (i:Nat) (hi:i < s.size) (w:World) (hs:s.size<=1048576) (x:Int) (hx:(s[i].toNat:Int)=x) (h0:0<=x) (hc:x=240) :
  Calls Tryz.prog 108 #[.string s,.int .i64 (i:Nat)] w fun e w'=>e=.returned (.int .i64 (seqN s.data.toList i:Nat))/\w'=w:=by
 have hv:=seqN_val s.data.toList i x ((byte_at s i hi).trans hx)
 have t0:decide (x < 128)=false:=by simp;omega
 have p0:¬ x < 128:=by omega
 have t1:decide (x < 194)=false:=by simp;omega
 have p1:¬ x < 194:=by omega
 have t2:decide (244 < x)=false:=by simp;omega
 have p2:¬ 244 < x:=by omega
 have t3:decide (224<=x)=true:=by simp;omega
 have p3:224<=x:=by omega
 have t4:decide (240<=x)=true:=by simp;omega
 have p4:240<=x:=by omega
 have t5:(x == 224)=false:=by simp;omega
 have p5:¬ x=224:=by omega
 have t6:(x == 237)=false:=by simp;omega
 have p6:¬ x=237:=by omega
 have t7:(x == 240)=true:=by simp;omega
 have p7:x=240:=by omega
 have t8:(x == 244)=false:=by simp;omega
 have p8:¬ x=244:=by omega
 rw [if_neg (by omega),if_neg p0,if_neg (by omega)] at hv
 rw [if_neg p5,if_pos p7,if_neg p6,if_neg p8] at hv
 rw [if_neg (show ¬ x < 224 by omega),if_neg (show ¬ x < 240 by omega)] at hv
 have C1:Hid (∀w,Calls Tryz.prog 125 #[.string s,.int .i64 ((i:Int)+1),.int .u8 144,.int .u8 191] w fun e w'=>e=.returned (.bool (goesB s.data.toList (i+1) 144 191))/\w'=w):=fun w=>dGoes_any s (i+1) 144 191 (by decide) w hs
 have C2:Hid (∀w,Calls Tryz.prog 125 #[.string s,.int .i64 ((i:Int)+2),.int .u8 128,.int .u8 191] w fun e w'=>e=.returned (.bool (goesB s.data.toList (i+2) 128 191))/\w'=w):=fun w=>dGoes_any s (i+2) 128 191 (by decide) w hs
 have C3:Hid (∀w,Calls Tryz.prog 125 #[.string s,.int .i64 ((i:Int)+3),.int .u8 128,.int .u8 191] w fun e w'=>e=.returned (.bool (goesB s.data.toList (i+3) 128 191))/\w'=w):=fun w=>dGoes_any s (i+3) 128 191 (by decide) w hs
 obtain ⟨b1,hb1⟩:∃b,goesB s.data.toList (i+1) 144 191=b:=⟨_,rfl⟩
 obtain ⟨b2,hb2⟩:∃b,goesB s.data.toList (i+2) 128 191=b:=⟨_,rfl⟩
 obtain ⟨b3,hb3⟩:∃b,goesB s.data.toList (i+3) 128 191=b:=⟨_,rfl⟩
 rw [hb1] at C1 hv
 rw [hb2] at C2 hv
 rw [hb3] at C3 hv
 rw [hv]
 clear hv hc hb1 hb2 hb3
 cases b1 with
 | false =>
  go_enter Tryz.func108,Tryz.ntmps108
  go_wp2_with (first | (go_at_call 125;refine (C1.out _).mono ?_;rintro e w' ⟨rfl,rfl⟩))
  go_ret
  exact ⟨rfl,rfl⟩
 | true =>
  cases b2 with
  | false =>
   go_enter Tryz.func108,Tryz.ntmps108
   go_wp2_with (first | (go_at_call 125;refine (C1.out _).mono ?_;rintro e w' ⟨rfl,rfl⟩))
   refine wp_loop_rounds 1 ?_
   rw [rounds_succ]
   go_wp2_with (first | (go_at_call 125;refine (C2.out _).mono ?_;rintro e w' ⟨rfl,rfl⟩))
   go_ret
   exact ⟨rfl,rfl⟩
  | true =>
   cases b3 with
   | false =>
    go_enter Tryz.func108,Tryz.ntmps108
    go_wp2_with (first | (go_at_call 125;refine (C1.out _).mono ?_;rintro e w' ⟨rfl,rfl⟩))
    refine wp_loop_rounds 2 ?_
    rw [rounds_succ]
    go_wp2_with (first | (go_at_call 125;refine (C2.out _).mono ?_;rintro e w' ⟨rfl,rfl⟩))
    rw [rounds_succ]
    go_wp2_with (first | (go_at_call 125;refine (C3.out _).mono ?_;rintro e w' ⟨rfl,rfl⟩))
    go_ret
    exact ⟨rfl,rfl⟩
   | true =>
    go_enter Tryz.func108,Tryz.ntmps108
    go_wp2_with (first | (go_at_call 125;refine (C1.out _).mono ?_;rintro e w' ⟨rfl,rfl⟩))
    refine wp_loop_rounds 3 ?_
    rw [rounds_succ]
    go_wp2_with (first | (go_at_call 125;refine (C2.out _).mono ?_;rintro e w' ⟨rfl,rfl⟩))
    rw [rounds_succ]
    go_wp2_with (first | (go_at_call 125;refine (C3.out _).mono ?_;rintro e w' ⟨rfl,rfl⟩))
    rw [rounds_succ]
    go_wp2
    go_ret
    exact ⟨rfl,rfl⟩
set_option maxRecDepth 100000 in
set_option maxHeartbeats 1600000 in
theorem dSeq_j (s:ByteArray) (i:Nat) (hi:i < s.size) (w:World) (hs:s.size<=1048576) (x:Int) (hx:(s[i].toNat:Int)=x) (h0:0<=x) (hc:241<=x/\x<=243) :
  Calls Tryz.prog 108 #[.string s,.int .i64 (i:Nat)] w fun e w'=>e=.returned (.int .i64 (seqN s.data.toList i:Nat))/\w'=w:=by
 have hv:=seqN_val s.data.toList i x ((byte_at s i hi).trans hx)
 have t0:decide (x < 128)=false:=by simp;omega
 have p0:¬ x < 128:=by omega
 have t1:decide (x < 194)=false:=by simp;omega
 have p1:¬ x < 194:=by omega
 have t2:decide (244 < x)=false:=by simp;omega
 have p2:¬ 244 < x:=by omega
 have t3:decide (224<=x)=true:=by simp;omega
 have p3:224<=x:=by omega
 have t4:decide (240<=x)=true:=by simp;omega
 have p4:240<=x:=by omega
 have t5:(x == 224)=false:=by simp;omega
 have p5:¬ x=224:=by omega
 have t6:(x == 237)=false:=by simp;omega
 have p6:¬ x=237:=by omega
 have t7:(x == 240)=false:=by simp;omega
 have p7:¬ x=240:=by omega
 have t8:(x == 244)=false:=by simp;omega
 have p8:¬ x=244:=by omega
 rw [if_neg (by omega),if_neg p0,if_neg (by omega)] at hv
 rw [if_neg p5,if_neg p7,if_neg p6,if_neg p8] at hv
 rw [if_neg (show ¬ x < 224 by omega),if_neg (show ¬ x < 240 by omega)] at hv
 have C1:Hid (∀w,Calls Tryz.prog 125 #[.string s,.int .i64 ((i:Int)+1),.int .u8 128,.int .u8 191] w fun e w'=>e=.returned (.bool (goesB s.data.toList (i+1) 128 191))/\w'=w):=fun w=>dGoes_any s (i+1) 128 191 (by decide) w hs
 have C2:Hid (∀w,Calls Tryz.prog 125 #[.string s,.int .i64 ((i:Int)+2),.int .u8 128,.int .u8 191] w fun e w'=>e=.returned (.bool (goesB s.data.toList (i+2) 128 191))/\w'=w):=fun w=>dGoes_any s (i+2) 128 191 (by decide) w hs
 have C3:Hid (∀w,Calls Tryz.prog 125 #[.string s,.int .i64 ((i:Int)+3),.int .u8 128,.int .u8 191] w fun e w'=>e=.returned (.bool (goesB s.data.toList (i+3) 128 191))/\w'=w):=fun w=>dGoes_any s (i+3) 128 191 (by decide) w hs
 obtain ⟨b1,hb1⟩:∃b,goesB s.data.toList (i+1) 128 191=b:=⟨_,rfl⟩
 obtain ⟨b2,hb2⟩:∃b,goesB s.data.toList (i+2) 128 191=b:=⟨_,rfl⟩
 obtain ⟨b3,hb3⟩:∃b,goesB s.data.toList (i+3) 128 191=b:=⟨_,rfl⟩
 rw [hb1] at C1 hv
 rw [hb2] at C2 hv
 rw [hb3] at C3 hv
 rw [hv]
 clear hv hc hb1 hb2 hb3
 cases b1 with
 | false =>
  go_enter Tryz.func108,Tryz.ntmps108
  go_wp2_with (first | (go_at_call 125;refine (C1.out _).mono ?_;rintro e w' ⟨rfl,rfl⟩))
  go_ret
  exact ⟨rfl,rfl⟩
 | true =>
  cases b2 with
  | false =>
   go_enter Tryz.func108,Tryz.ntmps108
   go_wp2_with (first | (go_at_call 125;refine (C1.out _).mono ?_;rintro e w' ⟨rfl,rfl⟩))
   refine wp_loop_rounds 1 ?_
   rw [rounds_succ]
   go_wp2_with (first | (go_at_call 125;refine (C2.out _).mono ?_;rintro e w' ⟨rfl,rfl⟩))
   go_ret
   exact ⟨rfl,rfl⟩
  | true =>
   cases b3 with
   | false =>
    go_enter Tryz.func108,Tryz.ntmps108
    go_wp2_with (first | (go_at_call 125;refine (C1.out _).mono ?_;rintro e w' ⟨rfl,rfl⟩))
    refine wp_loop_rounds 2 ?_
    rw [rounds_succ]
    go_wp2_with (first | (go_at_call 125;refine (C2.out _).mono ?_;rintro e w' ⟨rfl,rfl⟩))
    rw [rounds_succ]
    go_wp2_with (first | (go_at_call 125;refine (C3.out _).mono ?_;rintro e w' ⟨rfl,rfl⟩))
    go_ret
    exact ⟨rfl,rfl⟩
   | true =>
    go_enter Tryz.func108,Tryz.ntmps108
    go_wp2_with (first | (go_at_call 125;refine (C1.out _).mono ?_;rintro e w' ⟨rfl,rfl⟩))
    refine wp_loop_rounds 3 ?_
    rw [rounds_succ]
    go_wp2_with (first | (go_at_call 125;refine (C2.out _).mono ?_;rintro e w' ⟨rfl,rfl⟩))
    rw [rounds_succ]
    go_wp2_with (first | (go_at_call 125;refine (C3.out _).mono ?_;rintro e w' ⟨rfl,rfl⟩))
    rw [rounds_succ]
    go_wp2
    go_ret
    exact ⟨rfl,rfl⟩
set_option maxRecDepth 100000 in
set_option maxHeartbeats 1600000 in
theorem dSeq_k (s:ByteArray) (i:Nat) (hi:i < s.size) (w:World) (hs:s.size<=1048576) (x:Int) (hx:(s[i].toNat:Int)=x) (h0:0<=x) (hc:x=244) :
  Calls Tryz.prog 108 #[.string s,.int .i64 (i:Nat)] w fun e w'=>e=.returned (.int .i64 (seqN s.data.toList i:Nat))/\w'=w:=by
 have hv:=seqN_val s.data.toList i x ((byte_at s i hi).trans hx)
 have t0:decide (x < 128)=false:=by simp;omega
 have p0:¬ x < 128:=by omega
 have t1:decide (x < 194)=false:=by simp;omega
 have p1:¬ x < 194:=by omega
 have t2:decide (244 < x)=false:=by simp;omega
 have p2:¬ 244 < x:=by omega
 have t3:decide (224<=x)=true:=by simp;omega
 have p3:224<=x:=by omega
 have t4:decide (240<=x)=true:=by simp;omega
 have p4:240<=x:=by omega
 have t5:(x == 224)=false:=by simp;omega
 have p5:¬ x=224:=by omega
 have t6:(x == 237)=false:=by simp;omega
 have p6:¬ x=237:=by omega
 have t7:(x == 240)=false:=by simp;omega
 have p7:¬ x=240:=by omega
 have t8:(x == 244)=true:=by simp;omega
 have p8:x=244:=by omega
 rw [if_neg (by omega),if_neg p0,if_neg (by omega)] at hv
 rw [if_neg p5,if_neg p7,if_neg p6,if_pos p8] at hv
 rw [if_neg (show ¬ x < 224 by omega),if_neg (show ¬ x < 240 by omega)] at hv
 have C1:Hid (∀w,Calls Tryz.prog 125 #[.string s,.int .i64 ((i:Int)+1),.int .u8 128,.int .u8 143] w fun e w'=>e=.returned (.bool (goesB s.data.toList (i+1) 128 143))/\w'=w):=fun w=>dGoes_any s (i+1) 128 143 (by decide) w hs
 have C2:Hid (∀w,Calls Tryz.prog 125 #[.string s,.int .i64 ((i:Int)+2),.int .u8 128,.int .u8 191] w fun e w'=>e=.returned (.bool (goesB s.data.toList (i+2) 128 191))/\w'=w):=fun w=>dGoes_any s (i+2) 128 191 (by decide) w hs
 have C3:Hid (∀w,Calls Tryz.prog 125 #[.string s,.int .i64 ((i:Int)+3),.int .u8 128,.int .u8 191] w fun e w'=>e=.returned (.bool (goesB s.data.toList (i+3) 128 191))/\w'=w):=fun w=>dGoes_any s (i+3) 128 191 (by decide) w hs
 obtain ⟨b1,hb1⟩:∃b,goesB s.data.toList (i+1) 128 143=b:=⟨_,rfl⟩
 obtain ⟨b2,hb2⟩:∃b,goesB s.data.toList (i+2) 128 191=b:=⟨_,rfl⟩
 obtain ⟨b3,hb3⟩:∃b,goesB s.data.toList (i+3) 128 191=b:=⟨_,rfl⟩
 rw [hb1] at C1 hv
 rw [hb2] at C2 hv
 rw [hb3] at C3 hv
 rw [hv]
 clear hv hc hb1 hb2 hb3
 cases b1 with
 | false =>
  go_enter Tryz.func108,Tryz.ntmps108
  go_wp2_with (first | (go_at_call 125;refine (C1.out _).mono ?_;rintro e w' ⟨rfl,rfl⟩))
  go_ret
  exact ⟨rfl,rfl⟩
 | true =>
  cases b2 with
  | false =>
   go_enter Tryz.func108,Tryz.ntmps108
   go_wp2_with (first | (go_at_call 125;refine (C1.out _).mono ?_;rintro e w' ⟨rfl,rfl⟩))
   refine wp_loop_rounds 1 ?_
   rw [rounds_succ]
   go_wp2_with (first | (go_at_call 125;refine (C2.out _).mono ?_;rintro e w' ⟨rfl,rfl⟩))
   go_ret
   exact ⟨rfl,rfl⟩
  | true =>
   cases b3 with
   | false =>
    go_enter Tryz.func108,Tryz.ntmps108
    go_wp2_with (first | (go_at_call 125;refine (C1.out _).mono ?_;rintro e w' ⟨rfl,rfl⟩))
    refine wp_loop_rounds 2 ?_
    rw [rounds_succ]
    go_wp2_with (first | (go_at_call 125;refine (C2.out _).mono ?_;rintro e w' ⟨rfl,rfl⟩))
    rw [rounds_succ]
    go_wp2_with (first | (go_at_call 125;refine (C3.out _).mono ?_;rintro e w' ⟨rfl,rfl⟩))
    go_ret
    exact ⟨rfl,rfl⟩
   | true =>
    go_enter Tryz.func108,Tryz.ntmps108
    go_wp2_with (first | (go_at_call 125;refine (C1.out _).mono ?_;rintro e w' ⟨rfl,rfl⟩))
    refine wp_loop_rounds 3 ?_
    rw [rounds_succ]
    go_wp2_with (first | (go_at_call 125;refine (C2.out _).mono ?_;rintro e w' ⟨rfl,rfl⟩))
    rw [rounds_succ]
    go_wp2_with (first | (go_at_call 125;refine (C3.out _).mono ?_;rintro e w' ⟨rfl,rfl⟩))
    rw [rounds_succ]
    go_wp2
    go_ret
    exact ⟨rfl,rfl⟩
theorem dSeq_any (s:ByteArray) (i:Nat) (hi:i < s.size) (w:World) (hs:s.size<=1048576) :
  Calls Tryz.prog 108 #[.string s,.int .i64 (i:Nat)] w fun e w'=>e=.returned (.int .i64 (seqN s.data.toList i:Nat))/\w'=w:=by
 obtain ⟨x,hx⟩:∃x:Int,(s[i].toNat:Int)=x:=⟨_,rfl⟩
 have h0:0<=x:=by omega
 have hor:x < 128\/(128<=x/\x < 194)\/244 < x\/(194<=x/\x < 224)\/x=224\/(225<=x/\x<=236)\/x=237\/(238<=x/\x<=239)\/x=240\/(241<=x/\x<=243)\/x=244:=by omega
 rcases hor with h | h | h | h | h | h | h | h | h | h | h
 ·exact dSeq_a s i hi w hs x hx h0 h
 ·exact dSeq_b s i hi w hs x hx h0 h
 ·exact dSeq_c s i hi w hs x hx h0 h
 ·exact dSeq_d s i hi w hs x hx h0 h
 ·exact dSeq_e s i hi w hs x hx h0 h
 ·exact dSeq_f s i hi w hs x hx h0 h
 ·exact dSeq_g s i hi w hs x hx h0 h
 ·exact dSeq_h s i hi w hs x hx h0 h
 ·exact dSeq_i s i hi w hs x hx h0 h
 ·exact dSeq_j s i hi w hs x hx h0 h
 ·exact dSeq_k s i hi w hs x hx h0 h
end Go.Proofs.YtbgnflcebafjjaaGreatDoor
