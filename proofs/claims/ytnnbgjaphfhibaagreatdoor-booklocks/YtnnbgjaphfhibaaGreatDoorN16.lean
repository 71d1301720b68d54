import Derived.Test.YtnnbgjaphfhibaaGreatDoorN10
import Derived.Test.YtnnbgjaphfhibaaGreatDoorN06
import Derived.Laws.BytesString
set_option linter.unusedVariables false
set_option linter.unusedSimpArgs false
set_option maxRecDepth 100000
set_option maxHeartbeats 6400000
open Go.Proofs.Tryz
namespace Go.Proofs.YtnnbgjaphfhibaaGreatDoor
open Go.RowKit Go.Joins
theorem yR(c:UInt8)(w:World):Calls prog 122 #[.int .u8 (c.toNat:Int)] w fun e w'=>e=.returned (.bool (ax (c.toNat:Int)))/\w'=w:=by
 have:=c.toNat_lt;go_enter func122,ntmps122;go_wp2
 all_goals go_ret
 all_goals (refine⟨bV ?_,rfl⟩;rw[Bool.eq_iff_iff];unfold ax;simp;try omega)
theorem Zx(c:UInt8)(w:World):Calls prog 120 #[.int .u8 (c.toNat:Int)] w fun e w'=>e=.returned (.bool (aN (c.toNat:Int)))/\w'=w:=by
 have hc:=c.toNat_lt;have CD:Hd (∀w,Calls prog 122 #[.int .u8 (c.toNat:Int)] w fun e w'=>e=.returned (.bool (ax (c.toNat:Int)))/\w'=w):=yR c;have HB:Hd (aN (c.toNat:Int)=(decide (97<=(c.toNat:Int)/\(c.toNat:Int)<=122) || decide (65<=(c.toNat:Int)/\(c.toNat:Int)<=90) || ax (c.toNat:Int) || decide ((c.toNat:Int)=95) || decide ((c.toNat:Int)=45))):=rfl;obtain⟨b,hb⟩:=zN (ax (c.toNat:Int));obtain⟨r,hr⟩:=zN (aN (c.toNat:Int));rw[hb]at CD HB;rw[hr]at HB ⊢;clear hb hr;obtain⟨x,hx⟩:∃x:Int,(c.toNat:Int)=x:=⟨_,rfl⟩;have hx0:0<=x:=by omega
 rw[hx]at CD HB ⊢;clear hx hc
 cases b with
 | true =>
  go_enter func120,ntmps120;go_wp2_with (go_at_call 122;refine(CD.o _).mono ?_;rintro e w' ⟨rfl,rfl⟩)
  all_goals go_ret
  all_goals (refine⟨bV ?_,rfl⟩;rw[HB.o,Bool.eq_iff_iff];simp;try omega)
 | false =>
  go_enter func120,ntmps120;go_wp2_with (go_at_call 122;refine(CD.o _).mono ?_;rintro e w' ⟨rfl,rfl⟩)
  all_goals go_ret
  all_goals (refine⟨bV ?_,rfl⟩;rw[HB.o,Bool.eq_iff_iff];simp;try omega)
def yS(c:Int):Int:=if 48<=c/\c<=57 then c-48 else if 97<=c/\c<=102 then c-87 else -1
theorem Zy(c:Int)(h0:0<=c)(h1:c<256)(w:World):Calls prog 126 #[.int .u8 c] w fun e w'=>e=.returned (.int .i64 (yS c))/\w'=w:=by
 obtain⟨r,hr⟩:=zN (yS c);have HR:Hd ((if 48<=c/\c<=57 then c-48 else if 97<=c/\c<=102 then c-87 else -1)=r):=hr;rw[hr];clear hr;go_enter func126,ntmps126;go_wp2
 all_goals go_ret
 all_goals (refine⟨dB ?_,rfl⟩;rw[<-HR.o];repeat' split)
 all_goals (first|rfl|omega)
theorem kM(s:ByteArray)(i:Nat)(lo hi:Int)(hlo:0<=lo)(w:World)(hs:s.size<=1048576) :
  Calls prog 203 #[.string s,.int .i64 (i:Nat),.int .u8 lo,.int .u8 hi] w fun e w'=>e=.returned (.bool (dC s.data.toList i lo hi))/\w'=w:=by
 have hl:s.data.toList.length=s.size:=by simp
 by_cases hlt:i<s.size
 ·have HG:Hd (dC s.data.toList i lo hi=decide (lo<=(s[i].toNat:Int)/\(s[i].toNat:Int)<=hi)):=by
   show _=_;unfold dC;rw[byte_at s i hlt]
  obtain⟨r,hr⟩:=zN (dC s.data.toList i lo hi);rw[hr]at HG ⊢;clear hr;go_enter func203,ntmps203;go_wp2
  all_goals go_ret
  all_goals (refine⟨bV ?_,rfl⟩;rw[HG.o,Bool.eq_iff_iff];simp;try omega)
 ·have HG:Hd (dC s.data.toList i lo hi=false):=by
   show _=_;unfold dC;rw[ji _ _ (by omega),decide_eq_false (by omega)]
  rw[HG.o];go_enter func203,ntmps203;go_wp2
  all_goals go_ret
  all_goals exact⟨rfl,rfl⟩
theorem qK(l:List UInt8)(i:Nat)(x:Int)(hx:nx l i=x):aJ l i=if x<0 then 0 else if x<128 then 1 else if x<194\/244<x then 0 else if dC l (i+1) (if x=224 then 160 else if x=240 then 144 else 128) (if x=237 then 159 else if x=244 then 143 else 191)=false then 0 else if x<224 then 2 else if dC l (i+2) 128 191=false then 0 else if x<240 then 3 else if dC l (i+3) 128 191=false then 0 else 4:=by
 subst hx;rfl
theorem Zz(s:ByteArray)(i:Nat)(hi:i<s.size)(w:World)(hs:s.size<=1048576)(x:Int)(hx:(s[i].toNat:Int)=x)(h0:0<=x)(hc:x<128) :
  Calls prog 161 #[.string s,.int .i64 (i:Nat)] w fun e w'=>e=.returned (.int .i64 (aJ s.data.toList i:Nat))/\w'=w:=by
 have hv:=qK s.data.toList i x ((byte_at s i hi).trans hx);have t0:decide (x<128)=true:=by simp;omega
 have p0:x<128:=by omega
 have t1:decide (x<194)=true:=by simp;omega
 have p1:x<194:=by omega
 have t2:decide (244<x)=false:=by simp;omega
 have p2:¬244<x:=by omega
 have t3:decide (224<=x)=false:=by simp;omega
 have p3:¬224<=x:=by omega
 have t4:decide (240<=x)=false:=by simp;omega
 have p4:¬240<=x:=by omega
 have t5:(x == 224)=false:=by simp;omega
 have p5:¬x=224:=by omega
 have t6:(x == 237)=false:=by simp;omega
 have p6:¬x=237:=by omega
 have t7:(x == 240)=false:=by simp;omega
 have p7:¬x=240:=by omega
 have t8:(x == 244)=false:=by simp;omega
 have p8:¬x=244:=by omega
 rw[if_neg (by omega),if_pos p0]at hv;rw[hv];have hk:s[i].toNat=x.toNat:=by omega
 clear hv hc;go_enter func161,ntmps161;go_wp2;go_ret;exact⟨rfl,rfl⟩
theorem ZA(s:ByteArray)(i:Nat)(hi:i<s.size)(w:World)(hs:s.size<=1048576)(x:Int)(hx:(s[i].toNat:Int)=x)(h0:0<=x)(hc:128<=x/\x<194) :
  Calls prog 161 #[.string s,.int .i64 (i:Nat)] w fun e w'=>e=.returned (.int .i64 (aJ s.data.toList i:Nat))/\w'=w:=by
 have hv:=qK s.data.toList i x ((byte_at s i hi).trans hx);have t0:decide (x<128)=false:=by simp;omega
 have p0:¬x<128:=by omega
 have t1:decide (x<194)=true:=by simp;omega
 have p1:x<194:=by omega
 have t2:decide (244<x)=false:=by simp;omega
 have p2:¬244<x:=by omega
 have t3:decide (224<=x)=false:=by simp;omega
 have p3:¬224<=x:=by omega
 have t4:decide (240<=x)=false:=by simp;omega
 have p4:¬240<=x:=by omega
 have t5:(x == 224)=false:=by simp;omega
 have p5:¬x=224:=by omega
 have t6:(x == 237)=false:=by simp;omega
 have p6:¬x=237:=by omega
 have t7:(x == 240)=false:=by simp;omega
 have p7:¬x=240:=by omega
 have t8:(x == 244)=false:=by simp;omega
 have p8:¬x=244:=by omega
 rw[if_neg (by omega),if_neg p0,if_pos (by omega)]at hv;rw[hv];have hk:s[i].toNat=x.toNat:=by omega
 clear hv hc;go_enter func161,ntmps161;go_wp2;go_ret;exact⟨rfl,rfl⟩
theorem ZB(s:ByteArray)(i:Nat)(hi:i<s.size)(w:World)(hs:s.size<=1048576)(x:Int)(hx:(s[i].toNat:Int)=x)(h0:0<=x)(hc:244<x) :
  Calls prog 161 #[.string s,.int .i64 (i:Nat)] w fun e w'=>e=.returned (.int .i64 (aJ s.data.toList i:Nat))/\w'=w:=by
 have hv:=qK s.data.toList i x ((byte_at s i hi).trans hx);have t0:decide (x<128)=false:=by simp;omega
 have p0:¬x<128:=by omega
 have t1:decide (x<194)=false:=by simp;omega
 have p1:¬x<194:=by omega
 have t2:decide (244<x)=true:=by simp;omega
 have p2:244<x:=by omega
 have t3:decide (224<=x)=true:=by simp;omega
 have p3:224<=x:=by omega
 have t4:decide (240<=x)=true:=by simp;omega
 have p4:240<=x:=by omega
 have t5:(x == 224)=false:=by simp;omega
 have p5:¬x=224:=by omega
 have t6:(x == 237)=false:=by simp;omega
 have p6:¬x=237:=by omega
 have t7:(x == 240)=false:=by simp;omega
 have p7:¬x=240:=by omega
 have t8:(x == 244)=false:=by simp;omega
 have p8:¬x=244:=by omega
 rw[if_neg (by omega),if_neg p0,if_pos (by omega)]at hv;rw[hv];have hk:s[i].toNat=x.toNat:=by omega
 clear hv hc;go_enter func161,ntmps161;go_wp2;go_ret;exact⟨rfl,rfl⟩
theorem ZC(s:ByteArray)(i:Nat)(hi:i<s.size)(w:World)(hs:s.size<=1048576)(x:Int)(hx:(s[i].toNat:Int)=x)(h0:0<=x)(hc:194<=x/\x<224) :
  Calls prog 161 #[.string s,.int .i64 (i:Nat)] w fun e w'=>e=.returned (.int .i64 (aJ s.data.toList i:Nat))/\w'=w:=by
 have hv:=qK s.data.toList i x ((byte_at s i hi).trans hx);have t0:decide (x<128)=false:=by simp;omega
 have p0:¬x<128:=by omega
 have t1:decide (x<194)=false:=by simp;omega
 have p1:¬x<194:=by omega
 have t2:decide (244<x)=false:=by simp;omega
 have p2:¬244<x:=by omega
 have t3:decide (224<=x)=false:=by simp;omega
 have p3:¬224<=x:=by omega
 have t4:decide (240<=x)=false:=by simp;omega
 have p4:¬240<=x:=by omega
 have t5:(x == 224)=false:=by simp;omega
 have p5:¬x=224:=by omega
 have t6:(x == 237)=false:=by simp;omega
 have p6:¬x=237:=by omega
 have t7:(x == 240)=false:=by simp;omega
 have p7:¬x=240:=by omega
 have t8:(x == 244)=false:=by simp;omega
 have p8:¬x=244:=by omega
 rw[if_neg (by omega),if_neg p0,if_neg (by omega)]at hv;rw[if_neg p5,if_neg p7,if_neg p6,if_neg p8]at hv;rw[if_pos (show x<224 by omega)]at hv;have C1:Hd (∀w,Calls prog 203 #[.string s,.int .i64 ((i:Int)+1),.int .u8 128,.int .u8 191] w fun e w'=>e=.returned (.bool (dC s.data.toList (i+1) 128 191))/\w'=w):=fun w=>kM s (i+1) 128 191 (by decide) w hs
 obtain⟨b1,hb1⟩:∃b,dC s.data.toList (i+1) 128 191=b:=⟨_,rfl⟩;rw[hb1]at C1 hv;rw[hv];clear hv hc hb1
 cases b1 with
 | false =>
  go_enter func161,ntmps161;go_wp2_with (go_at_call 203;refine(C1.o _).mono ?_;rintro e w' ⟨rfl,rfl⟩);go_ret;exact⟨rfl,rfl⟩
 | true =>
  go_enter func161,ntmps161;go_wp2_with (go_at_call 203;refine(C1.o _).mono ?_;rintro e w' ⟨rfl,rfl⟩);refine wp_loop_rounds 1 ?_;rw[rounds_succ];go_wp2;go_ret;exact⟨rfl,rfl⟩
theorem ZE(s:ByteArray)(i:Nat)(hi:i<s.size)(w:World)(hs:s.size<=1048576)(x:Int)(hx:(s[i].toNat:Int)=x)(h0:0<=x)(hc:x=224) :
  Calls prog 161 #[.string s,.int .i64 (i:Nat)] w fun e w'=>e=.returned (.int .i64 (aJ s.data.toList i:Nat))/\w'=w:=by
 have hv:=qK s.data.toList i x ((byte_at s i hi).trans hx);have t0:decide (x<128)=false:=by simp;omega
 have p0:¬x<128:=by omega
 have t1:decide (x<194)=false:=by simp;omega
 have p1:¬x<194:=by omega
 have t2:decide (244<x)=false:=by simp;omega
 have p2:¬244<x:=by omega
 have t3:decide (224<=x)=true:=by simp;omega
 have p3:224<=x:=by omega
 have t4:decide (240<=x)=false:=by simp;omega
 have p4:¬240<=x:=by omega
 have t5:(x == 224)=true:=by simp;omega
 have p5:x=224:=by omega
 have t6:(x == 237)=false:=by simp;omega
 have p6:¬x=237:=by omega
 have t7:(x == 240)=false:=by simp;omega
 have p7:¬x=240:=by omega
 have t8:(x == 244)=false:=by simp;omega
 have p8:¬x=244:=by omega
 rw[if_neg (by omega),if_neg p0,if_neg (by omega)]at hv;rw[if_pos p5,if_neg p6,if_neg p8]at hv;rw[if_neg (show ¬x<224 by omega),if_pos (show x<240 by omega)]at hv;have C1:Hd (∀w,Calls prog 203 #[.string s,.int .i64 ((i:Int)+1),.int .u8 160,.int .u8 191] w fun e w'=>e=.returned (.bool (dC s.data.toList (i+1) 160 191))/\w'=w):=fun w=>kM s (i+1) 160 191 (by decide) w hs
 have C2:Hd (∀w,Calls prog 203 #[.string s,.int .i64 ((i:Int)+2),.int .u8 128,.int .u8 191] w fun e w'=>e=.returned (.bool (dC s.data.toList (i+2) 128 191))/\w'=w):=fun w=>kM s (i+2) 128 191 (by decide) w hs
 obtain⟨b1,hb1⟩:∃b,dC s.data.toList (i+1) 160 191=b:=⟨_,rfl⟩;obtain⟨b2,hb2⟩:∃b,dC s.data.toList (i+2) 128 191=b:=⟨_,rfl⟩;rw[hb1]at C1 hv;rw[hb2]at C2 hv;rw[hv];clear hv hc hb1 hb2
 cases b1 with
 | false =>
  go_enter func161,ntmps161;go_wp2_with (go_at_call 203;refine(C1.o _).mono ?_;rintro e w' ⟨rfl,rfl⟩);go_ret;exact⟨rfl,rfl⟩
 | true =>
  cases b2 with
  | false =>
   go_enter func161,ntmps161;go_wp2_with (go_at_call 203;refine(C1.o _).mono ?_;rintro e w' ⟨rfl,rfl⟩);refine wp_loop_rounds 1 ?_;rw[rounds_succ];go_wp2_with (go_at_call 203;refine(C2.o _).mono ?_;rintro e w' ⟨rfl,rfl⟩);go_ret;exact⟨rfl,rfl⟩
  | true =>
   go_enter func161,ntmps161;go_wp2_with (go_at_call 203;refine(C1.o _).mono ?_;rintro e w' ⟨rfl,rfl⟩);refine wp_loop_rounds 2 ?_;rw[rounds_succ];go_wp2_with (go_at_call 203;refine(C2.o _).mono ?_;rintro e w' ⟨rfl,rfl⟩);rw[rounds_succ];go_wp2;go_ret;exact⟨rfl,rfl⟩
theorem ZF(s:ByteArray)(i:Nat)(hi:i<s.size)(w:World)(hs:s.size<=1048576)(x:Int)(hx:(s[i].toNat:Int)=x)(h0:0<=x)(hc:225<=x/\x<=236) :
  Calls prog 161 #[.string s,.int .i64 (i:Nat)] w fun e w'=>e=.returned (.int .i64 (aJ s.data.toList i:Nat))/\w'=w:=by
 have hv:=qK s.data.toList i x ((byte_at s i hi).trans hx);have t0:decide (x<128)=false:=by simp;omega
 have p0:¬x<128:=by omega
 have t1:decide (x<194)=false:=by simp;omega
 have p1:¬x<194:=by omega
 have t2:decide (244<x)=false:=by simp;omega
 have p2:¬244<x:=by omega
 have t3:decide (224<=x)=true:=by simp;omega
 have p3:224<=x:=by omega
 have t4:decide (240<=x)=false:=by simp;omega
 have p4:¬240<=x:=by omega
 have t5:(x == 224)=false:=by simp;omega
 have p5:¬x=224:=by omega
 have t6:(x == 237)=false:=by simp;omega
 have p6:¬x=237:=by omega
 have t7:(x == 240)=false:=by simp;omega
 have p7:¬x=240:=by omega
 have t8:(x == 244)=false:=by simp;omega
 have p8:¬x=244:=by omega
 rw[if_neg (by omega),if_neg p0,if_neg (by omega)]at hv;rw[if_neg p5,if_neg p7,if_neg p6,if_neg p8]at hv;rw[if_neg (show ¬x<224 by omega),if_pos (show x<240 by omega)]at hv;have C1:Hd (∀w,Calls prog 203 #[.string s,.int .i64 ((i:Int)+1),.int .u8 128,.int .u8 191] w fun e w'=>e=.returned (.bool (dC s.data.toList (i+1) 128 191))/\w'=w):=fun w=>kM s (i+1) 128 191 (by decide) w hs
 have C2:Hd (∀w,Calls prog 203 #[.string s,.int .i64 ((i:Int)+2),.int .u8 128,.int .u8 191] w fun e w'=>e=.returned (.bool (dC s.data.toList (i+2) 128 191))/\w'=w):=fun w=>kM s (i+2) 128 191 (by decide) w hs
 obtain⟨b1,hb1⟩:∃b,dC s.data.toList (i+1) 128 191=b:=⟨_,rfl⟩;obtain⟨b2,hb2⟩:∃b,dC s.data.toList (i+2) 128 191=b:=⟨_,rfl⟩;rw[hb1]at C1 hv;rw[hb2]at C2 hv;rw[hv];clear hv hc hb1 hb2
 cases b1 with
 | false =>
  go_enter func161,ntmps161;go_wp2_with (go_at_call 203;refine(C1.o _).mono ?_;rintro e w' ⟨rfl,rfl⟩);go_ret;exact⟨rfl,rfl⟩
 | true =>
  cases b2 with
  | false =>
   go_enter func161,ntmps161;go_wp2_with (go_at_call 203;refine(C1.o _).mono ?_;rintro e w' ⟨rfl,rfl⟩);refine wp_loop_rounds 1 ?_;rw[rounds_succ];go_wp2_with (go_at_call 203;refine(C2.o _).mono ?_;rintro e w' ⟨rfl,rfl⟩);go_ret;exact⟨rfl,rfl⟩
  | true =>
   go_enter func161,ntmps161;go_wp2_with (go_at_call 203;refine(C1.o _).mono ?_;rintro e w' ⟨rfl,rfl⟩);refine wp_loop_rounds 2 ?_;rw[rounds_succ];go_wp2_with (go_at_call 203;refine(C2.o _).mono ?_;rintro e w' ⟨rfl,rfl⟩);rw[rounds_succ];go_wp2;go_ret;exact⟨rfl,rfl⟩
theorem ZG(s:ByteArray)(i:Nat)(hi:i<s.size)(w:World)(hs:s.size<=1048576)(x:Int)(hx:(s[i].toNat:Int)=x)(h0:0<=x)(hc:x=237) :
  Calls prog 161 #[.string s,.int .i64 (i:Nat)] w fun e w'=>e=.returned (.int .i64 (aJ s.data.toList i:Nat))/\w'=w:=by
 have hv:=qK s.data.toList i x ((byte_at s i hi).trans hx);have t0:decide (x<128)=false:=by simp;omega
 have p0:¬x<128:=by omega
 have t1:decide (x<194)=false:=by simp;omega
 have p1:¬x<194:=by omega
 have t2:decide (244<x)=false:=by simp;omega
 have p2:¬244<x:=by omega
 have t3:decide (224<=x)=true:=by simp;omega
 have p3:224<=x:=by omega
 have t4:decide (240<=x)=false:=by simp;omega
 have p4:¬240<=x:=by omega
 have t5:(x == 224)=false:=by simp;omega
 have p5:¬x=224:=by omega
 have t6:(x == 237)=true:=by simp;omega
 have p6:x=237:=by omega
 have t7:(x == 240)=false:=by simp;omega
 have p7:¬x=240:=by omega
 have t8:(x == 244)=false:=by simp;omega
 have p8:¬x=244:=by omega
 rw[if_neg (by omega),if_neg p0,if_neg (by omega)]at hv;rw[if_neg p5,if_neg p7,if_pos p6]at hv;rw[if_neg (show ¬x<224 by omega),if_pos (show x<240 by omega)]at hv;have C1:Hd (∀w,Calls prog 203 #[.string s,.int .i64 ((i:Int)+1),.int .u8 128,.int .u8 159] w fun e w'=>e=.returned (.bool (dC s.data.toList (i+1) 128 159))/\w'=w):=fun w=>kM s (i+1) 128 159 (by decide) w hs
 have C2:Hd (∀w,Calls prog 203 #[.string s,.int .i64 ((i:Int)+2),.int .u8 128,.int .u8 191] w fun e w'=>e=.returned (.bool (dC s.data.toList (i+2) 128 191))/\w'=w):=fun w=>kM s (i+2) 128 191 (by decide) w hs
 obtain⟨b1,hb1⟩:∃b,dC s.data.toList (i+1) 128 159=b:=⟨_,rfl⟩;obtain⟨b2,hb2⟩:∃b,dC s.data.toList (i+2) 128 191=b:=⟨_,rfl⟩;rw[hb1]at C1 hv;rw[hb2]at C2 hv;rw[hv];clear hv hc hb1 hb2
 cases b1 with
 | false =>
  go_enter func161,ntmps161;go_wp2_with (go_at_call 203;refine(C1.o _).mono ?_;rintro e w' ⟨rfl,rfl⟩);go_ret;exact⟨rfl,rfl⟩
 | true =>
  cases b2 with
  | false =>
   go_enter func161,ntmps161;go_wp2_with (go_at_call 203;refine(C1.o _).mono ?_;rintro e w' ⟨rfl,rfl⟩);refine wp_loop_rounds 1 ?_;rw[rounds_succ];go_wp2_with (go_at_call 203;refine(C2.o _).mono ?_;rintro e w' ⟨rfl,rfl⟩);go_ret;exact⟨rfl,rfl⟩
  | true =>
   go_enter func161,ntmps161;go_wp2_with (go_at_call 203;refine(C1.o _).mono ?_;rintro e w' ⟨rfl,rfl⟩);refine wp_loop_rounds 2 ?_;rw[rounds_succ];go_wp2_with (go_at_call 203;refine(C2.o _).mono ?_;rintro e w' ⟨rfl,rfl⟩);rw[rounds_succ];go_wp2;go_ret;exact⟨rfl,rfl⟩
theorem ZH(s:ByteArray)(i:Nat)(hi:i<s.size)(w:World)(hs:s.size<=1048576)(x:Int)(hx:(s[i].toNat:Int)=x)(h0:0<=x)(hc:238<=x/\x<=239) :
  Calls prog 161 #[.string s,.int .i64 (i:Nat)] w fun e w'=>e=.returned (.int .i64 (aJ s.data.toList i:Nat))/\w'=w:=by
 have hv:=qK s.data.toList i x ((byte_at s i hi).trans hx);have t0:decide (x<128)=false:=by simp;omega
 have p0:¬x<128:=by omega
 have t1:decide (x<194)=false:=by simp;omega
 have p1:¬x<194:=by omega
 have t2:decide (244<x)=false:=by simp;omega
 have p2:¬244<x:=by omega
 have t3:decide (224<=x)=true:=by simp;omega
 have p3:224<=x:=by omega
 have t4:decide (240<=x)=false:=by simp;omega
 have p4:¬240<=x:=by omega
 have t5:(x == 224)=false:=by simp;omega
 have p5:¬x=224:=by omega
 have t6:(x == 237)=false:=by simp;omega
 have p6:¬x=237:=by omega
 have t7:(x == 240)=false:=by simp;omega
 have p7:¬x=240:=by omega
 have t8:(x == 244)=false:=by simp;omega
 have p8:¬x=244:=by omega
 rw[if_neg (by omega),if_neg p0,if_neg (by omega)]at hv;rw[if_neg p5,if_neg p7,if_neg p6,if_neg p8]at hv;rw[if_neg (show ¬x<224 by omega),if_pos (show x<240 by omega)]at hv;have C1:Hd (∀w,Calls prog 203 #[.string s,.int .i64 ((i:Int)+1),.int .u8 128,.int .u8 191] w fun e w'=>e=.returned (.bool (dC s.data.toList (i+1) 128 191))/\w'=w):=fun w=>kM s (i+1) 128 191 (by decide) w hs
 have C2:Hd (∀w,Calls prog 203 #[.string s,.int .i64 ((i:Int)+2),.int .u8 128,.int .u8 191] w fun e w'=>e=.returned (.bool (dC s.data.toList (i+2) 128 191))/\w'=w):=fun w=>kM s (i+2) 128 191 (by decide) w hs
 obtain⟨b1,hb1⟩:∃b,dC s.data.toList (i+1) 128 191=b:=⟨_,rfl⟩;obtain⟨b2,hb2⟩:∃b,dC s.data.toList (i+2) 128 191=b:=⟨_,rfl⟩;rw[hb1]at C1 hv;rw[hb2]at C2 hv;rw[hv];clear hv hc hb1 hb2
 cases b1 with
 | false =>
  go_enter func161,ntmps161;go_wp2_with (go_at_call 203;refine(C1.o _).mono ?_;rintro e w' ⟨rfl,rfl⟩);go_ret;exact⟨rfl,rfl⟩
 | true =>
  cases b2 with
  | false =>
   go_enter func161,ntmps161;go_wp2_with (go_at_call 203;refine(C1.o _).mono ?_;rintro e w' ⟨rfl,rfl⟩);refine wp_loop_rounds 1 ?_;rw[rounds_succ];go_wp2_with (go_at_call 203;refine(C2.o _).mono ?_;rintro e w' ⟨rfl,rfl⟩);go_ret;exact⟨rfl,rfl⟩
  | true =>
   go_enter func161,ntmps161;go_wp2_with (go_at_call 203;refine(C1.o _).mono ?_;rintro e w' ⟨rfl,rfl⟩);refine wp_loop_rounds 2 ?_;rw[rounds_succ];go_wp2_with (go_at_call 203;refine(C2.o _).mono ?_;rintro e w' ⟨rfl,rfl⟩);rw[rounds_succ];go_wp2;go_ret;exact⟨rfl,rfl⟩
theorem ZI(s:ByteArray)(i:Nat)(hi:i<s.size)(w:World)(hs:s.size<=1048576)(x:Int)(hx:(s[i].toNat:Int)=x)(h0:0<=x)(hc:x=240) :
  Calls prog 161 #[.string s,.int .i64 (i:Nat)] w fun e w'=>e=.returned (.int .i64 (aJ s.data.toList i:Nat))/\w'=w:=by
 have hv:=qK s.data.toList i x ((byte_at s i hi).trans hx);have t0:decide (x<128)=false:=by simp;omega
 have p0:¬x<128:=by omega
 have t1:decide (x<194)=false:=by simp;omega
 have p1:¬x<194:=by omega
 have t2:decide (244<x)=false:=by simp;omega
 have p2:¬244<x:=by omega
 have t3:decide (224<=x)=true:=by simp;omega
 have p3:224<=x:=by omega
 have t4:decide (240<=x)=true:=by simp;omega
 have p4:240<=x:=by omega
 have t5:(x == 224)=false:=by simp;omega
 have p5:¬x=224:=by omega
 have t6:(x == 237)=false:=by simp;omega
 have p6:¬x=237:=by omega
 have t7:(x == 240)=true:=by simp;omega
 have p7:x=240:=by omega
 have t8:(x == 244)=false:=by simp;omega
 have p8:¬x=244:=by omega
 rw[if_neg (by omega),if_neg p0,if_neg (by omega)]at hv;rw[if_neg p5,if_pos p7,if_neg p6,if_neg p8]at hv;rw[if_neg (show ¬x<224 by omega),if_neg (show ¬x<240 by omega)]at hv;have C1:Hd (∀w,Calls prog 203 #[.string s,.int .i64 ((i:Int)+1),.int .u8 144,.int .u8 191] w fun e w'=>e=.returned (.bool (dC s.data.toList (i+1) 144 191))/\w'=w):=fun w=>kM s (i+1) 144 191 (by decide) w hs
 have C2:Hd (∀w,Calls prog 203 #[.string s,.int .i64 ((i:Int)+2),.int .u8 128,.int .u8 191] w fun e w'=>e=.returned (.bool (dC s.data.toList (i+2) 128 191))/\w'=w):=fun w=>kM s (i+2) 128 191 (by decide) w hs
 have C3:Hd (∀w,Calls prog 203 #[.string s,.int .i64 ((i:Int)+3),.int .u8 128,.int .u8 191] w fun e w'=>e=.returned (.bool (dC s.data.toList (i+3) 128 191))/\w'=w):=fun w=>kM s (i+3) 128 191 (by decide) w hs
 obtain⟨b1,hb1⟩:∃b,dC s.data.toList (i+1) 144 191=b:=⟨_,rfl⟩;obtain⟨b2,hb2⟩:∃b,dC s.data.toList (i+2) 128 191=b:=⟨_,rfl⟩;obtain⟨b3,hb3⟩:∃b,dC s.data.toList (i+3) 128 191=b:=⟨_,rfl⟩;rw[hb1]at C1 hv;rw[hb2]at C2 hv;rw[hb3]at C3 hv;rw[hv];clear hv hc hb1 hb2 hb3
 cases b1 with
 | false =>
  go_enter func161,ntmps161;go_wp2_with (go_at_call 203;refine(C1.o _).mono ?_;rintro e w' ⟨rfl,rfl⟩);go_ret;exact⟨rfl,rfl⟩
 | true =>
  cases b2 with
  | false =>
   go_enter func161,ntmps161;go_wp2_with (go_at_call 203;refine(C1.o _).mono ?_;rintro e w' ⟨rfl,rfl⟩);refine wp_loop_rounds 1 ?_;rw[rounds_succ];go_wp2_with (go_at_call 203;refine(C2.o _).mono ?_;rintro e w' ⟨rfl,rfl⟩);go_ret;exact⟨rfl,rfl⟩
  | true =>
   cases b3 with
   | false =>
    go_enter func161,ntmps161;go_wp2_with (go_at_call 203;refine(C1.o _).mono ?_;rintro e w' ⟨rfl,rfl⟩);refine wp_loop_rounds 2 ?_;rw[rounds_succ];go_wp2_with (go_at_call 203;refine(C2.o _).mono ?_;rintro e w' ⟨rfl,rfl⟩);rw[rounds_succ];go_wp2_with (go_at_call 203;refine(C3.o _).mono ?_;rintro e w' ⟨rfl,rfl⟩);go_ret;exact⟨rfl,rfl⟩
   | true =>
    go_enter func161,ntmps161;go_wp2_with (go_at_call 203;refine(C1.o _).mono ?_;rintro e w' ⟨rfl,rfl⟩);refine wp_loop_rounds 3 ?_;rw[rounds_succ];go_wp2_with (go_at_call 203;refine(C2.o _).mono ?_;rintro e w' ⟨rfl,rfl⟩);rw[rounds_succ];go_wp2_with (go_at_call 203;refine(C3.o _).mono ?_;rintro e w' ⟨rfl,rfl⟩);rw[rounds_succ];go_wp2;go_ret;exact⟨rfl,rfl⟩
theorem ZJ(s:ByteArray)(i:Nat)(hi:i<s.size)(w:World)(hs:s.size<=1048576)(x:Int)(hx:(s[i].toNat:Int)=x)(h0:0<=x)(hc:241<=x/\x<=243) :
  Calls prog 161 #[.string s,.int .i64 (i:Nat)] w fun e w'=>e=.returned (.int .i64 (aJ s.data.toList i:Nat))/\w'=w:=by
 have hv:=qK s.data.toList i x ((byte_at s i hi).trans hx);have t0:decide (x<128)=false:=by simp;omega
 have p0:¬x<128:=by omega
 have t1:decide (x<194)=false:=by simp;omega
 have p1:¬x<194:=by omega
 have t2:decide (244<x)=false:=by simp;omega
 have p2:¬244<x:=by omega
 have t3:decide (224<=x)=true:=by simp;omega
 have p3:224<=x:=by omega
 have t4:decide (240<=x)=true:=by simp;omega
 have p4:240<=x:=by omega
 have t5:(x == 224)=false:=by simp;omega
 have p5:¬x=224:=by omega
 have t6:(x == 237)=false:=by simp;omega
 have p6:¬x=237:=by omega
 have t7:(x == 240)=false:=by simp;omega
 have p7:¬x=240:=by omega
 have t8:(x == 244)=false:=by simp;omega
 have p8:¬x=244:=by omega
 rw[if_neg (by omega),if_neg p0,if_neg (by omega)]at hv;rw[if_neg p5,if_neg p7,if_neg p6,if_neg p8]at hv;rw[if_neg (show ¬x<224 by omega),if_neg (show ¬x<240 by omega)]at hv;have C1:Hd (∀w,Calls prog 203 #[.string s,.int .i64 ((i:Int)+1),.int .u8 128,.int .u8 191] w fun e w'=>e=.returned (.bool (dC s.data.toList (i+1) 128 191))/\w'=w):=fun w=>kM s (i+1) 128 191 (by decide) w hs
 have C2:Hd (∀w,Calls prog 203 #[.string s,.int .i64 ((i:Int)+2),.int .u8 128,.int .u8 191] w fun e w'=>e=.returned (.bool (dC s.data.toList (i+2) 128 191))/\w'=w):=fun w=>kM s (i+2) 128 191 (by decide) w hs
 have C3:Hd (∀w,Calls prog 203 #[.string s,.int .i64 ((i:Int)+3),.int .u8 128,.int .u8 191] w fun e w'=>e=.returned (.bool (dC s.data.toList (i+3) 128 191))/\w'=w):=fun w=>kM s (i+3) 128 191 (by decide) w hs
 obtain⟨b1,hb1⟩:∃b,dC s.data.toList (i+1) 128 191=b:=⟨_,rfl⟩;obtain⟨b2,hb2⟩:∃b,dC s.data.toList (i+2) 128 191=b:=⟨_,rfl⟩;obtain⟨b3,hb3⟩:∃b,dC s.data.toList (i+3) 128 191=b:=⟨_,rfl⟩;rw[hb1]at C1 hv;rw[hb2]at C2 hv;rw[hb3]at C3 hv;rw[hv];clear hv hc hb1 hb2 hb3
 cases b1 with
 | false =>
  go_enter func161,ntmps161;go_wp2_with (go_at_call 203;refine(C1.o _).mono ?_;rintro e w' ⟨rfl,rfl⟩);go_ret;exact⟨rfl,rfl⟩
 | true =>
  cases b2 with
  | false =>
   go_enter func161,ntmps161;go_wp2_with (go_at_call 203;refine(C1.o _).mono ?_;rintro e w' ⟨rfl,rfl⟩);refine wp_loop_rounds 1 ?_;rw[rounds_succ];go_wp2_with (go_at_call 203;refine(C2.o _).mono ?_;rintro e w' ⟨rfl,rfl⟩);go_ret;exact⟨rfl,rfl⟩
  | true =>
   cases b3 with
   | false =>
    go_enter func161,ntmps161;go_wp2_with (go_at_call 203;refine(C1.o _).mono ?_;rintro e w' ⟨rfl,rfl⟩);refine wp_loop_rounds 2 ?_;rw[rounds_succ];go_wp2_with (go_at_call 203;refine(C2.o _).mono ?_;rintro e w' ⟨rfl,rfl⟩);rw[rounds_succ];go_wp2_with (go_at_call 203;refine(C3.o _).mono ?_;rintro e w' ⟨rfl,rfl⟩);go_ret;exact⟨rfl,rfl⟩
   | true =>
    go_enter func161,ntmps161;go_wp2_with (go_at_call 203;refine(C1.o _).mono ?_;rintro e w' ⟨rfl,rfl⟩);refine wp_loop_rounds 3 ?_;rw[rounds_succ];go_wp2_with (go_at_call 203;refine(C2.o _).mono ?_;rintro e w' ⟨rfl,rfl⟩);rw[rounds_succ];go_wp2_with (go_at_call 203;refine(C3.o _).mono ?_;rintro e w' ⟨rfl,rfl⟩);rw[rounds_succ];go_wp2;go_ret;exact⟨rfl,rfl⟩
theorem ZK(s:ByteArray)(i:Nat)(hi:i<s.size)(w:World)(hs:s.size<=1048576)(x:Int)(hx:(s[i].toNat:Int)=x)(h0:0<=x)(hc:x=244) :
  Calls prog 161 #[.string s,.int .i64 (i:Nat)] w fun e w'=>e=.returned (.int .i64 (aJ s.data.toList i:Nat))/\w'=w:=by
 have hv:=qK s.data.toList i x ((byte_at s i hi).trans hx);have t0:decide (x<128)=false:=by simp;omega
 have p0:¬x<128:=by omega
 have t1:decide (x<194)=false:=by simp;omega
 have p1:¬x<194:=by omega
 have t2:decide (244<x)=false:=by simp;omega
 have p2:¬244<x:=by omega
 have t3:decide (224<=x)=true:=by simp;omega
 have p3:224<=x:=by omega
 have t4:decide (240<=x)=true:=by simp;omega
 have p4:240<=x:=by omega
 have t5:(x == 224)=false:=by simp;omega
 have p5:¬x=224:=by omega
 have t6:(x == 237)=false:=by simp;omega
 have p6:¬x=237:=by omega
 have t7:(x == 240)=false:=by simp;omega
 have p7:¬x=240:=by omega
 have t8:(x == 244)=true:=by simp;omega
 have p8:x=244:=by omega
 rw[if_neg (by omega),if_neg p0,if_neg (by omega)]at hv;rw[if_neg p5,if_neg p7,if_neg p6,if_pos p8]at hv;rw[if_neg (show ¬x<224 by omega),if_neg (show ¬x<240 by omega)]at hv;have C1:Hd (∀w,Calls prog 203 #[.string s,.int .i64 ((i:Int)+1),.int .u8 128,.int .u8 143] w fun e w'=>e=.returned (.bool (dC s.data.toList (i+1) 128 143))/\w'=w):=fun w=>kM s (i+1) 128 143 (by decide) w hs
 have C2:Hd (∀w,Calls prog 203 #[.string s,.int .i64 ((i:Int)+2),.int .u8 128,.int .u8 191] w fun e w'=>e=.returned (.bool (dC s.data.toList (i+2) 128 191))/\w'=w):=fun w=>kM s (i+2) 128 191 (by decide) w hs
 have C3:Hd (∀w,Calls prog 203 #[.string s,.int .i64 ((i:Int)+3),.int .u8 128,.int .u8 191] w fun e w'=>e=.returned (.bool (dC s.data.toList (i+3) 128 191))/\w'=w):=fun w=>kM s (i+3) 128 191 (by decide) w hs
 obtain⟨b1,hb1⟩:∃b,dC s.data.toList (i+1) 128 143=b:=⟨_,rfl⟩;obtain⟨b2,hb2⟩:∃b,dC s.data.toList (i+2) 128 191=b:=⟨_,rfl⟩;obtain⟨b3,hb3⟩:∃b,dC s.data.toList (i+3) 128 191=b:=⟨_,rfl⟩;rw[hb1]at C1 hv;rw[hb2]at C2 hv;rw[hb3]at C3 hv;rw[hv];clear hv hc hb1 hb2 hb3
 cases b1 with
 | false =>
  go_enter func161,ntmps161;go_wp2_with (go_at_call 203;refine(C1.o _).mono ?_;rintro e w' ⟨rfl,rfl⟩);go_ret;exact⟨rfl,rfl⟩
 | true =>
  cases b2 with
  | false =>
   go_enter func161,ntmps161;go_wp2_with (go_at_call 203;refine(C1.o _).mono ?_;rintro e w' ⟨rfl,rfl⟩);refine wp_loop_rounds 1 ?_;rw[rounds_succ];go_wp2_with (go_at_call 203;refine(C2.o _).mono ?_;rintro e w' ⟨rfl,rfl⟩);go_ret;exact⟨rfl,rfl⟩
  | true =>
   cases b3 with
   | false =>
    go_enter func161,ntmps161;go_wp2_with (go_at_call 203;refine(C1.o _).mono ?_;rintro e w' ⟨rfl,rfl⟩);refine wp_loop_rounds 2 ?_;rw[rounds_succ];go_wp2_with (go_at_call 203;refine(C2.o _).mono ?_;rintro e w' ⟨rfl,rfl⟩);rw[rounds_succ];go_wp2_with (go_at_call 203;refine(C3.o _).mono ?_;rintro e w' ⟨rfl,rfl⟩);go_ret;exact⟨rfl,rfl⟩
   | true =>
    go_enter func161,ntmps161;go_wp2_with (go_at_call 203;refine(C1.o _).mono ?_;rintro e w' ⟨rfl,rfl⟩);refine wp_loop_rounds 3 ?_;rw[rounds_succ];go_wp2_with (go_at_call 203;refine(C2.o _).mono ?_;rintro e w' ⟨rfl,rfl⟩);rw[rounds_succ];go_wp2_with (go_at_call 203;refine(C3.o _).mono ?_;rintro e w' ⟨rfl,rfl⟩);rw[rounds_succ];go_wp2;go_ret;exact⟨rfl,rfl⟩
theorem ZL(s:ByteArray)(i:Nat)(hi:i<s.size)(w:World)(hs:s.size<=1048576) :
  Calls prog 161 #[.string s,.int .i64 (i:Nat)] w fun e w'=>e=.returned (.int .i64 (aJ s.data.toList i:Nat))/\w'=w:=by
 obtain⟨x,hx⟩:∃x:Int,(s[i].toNat:Int)=x:=⟨_,rfl⟩;have h0:0<=x:=by omega
 have hor:x<128\/(128<=x/\x<194)\/244<x\/(194<=x/\x<224)\/x=224\/(225<=x/\x<=236)\/x=237\/(238<=x/\x<=239)\/x=240\/(241<=x/\x<=243)\/x=244:=by omega
 rcases hor with h|h|h|h|h|h|h|h|h|h|h
 ·exact Zz s i hi w hs x hx h0 h
 ·exact ZA s i hi w hs x hx h0 h
 ·exact ZB s i hi w hs x hx h0 h
 ·exact ZC s i hi w hs x hx h0 h
 ·exact ZE s i hi w hs x hx h0 h
 ·exact ZF s i hi w hs x hx h0 h
 ·exact ZG s i hi w hs x hx h0 h
 ·exact ZH s i hi w hs x hx h0 h
 ·exact ZI s i hi w hs x hx h0 h
 ·exact ZJ s i hi w hs x hx h0 h
 ·exact ZK s i hi w hs x hx h0 h
open Go.RowKit Go.Joins
theorem JL(w:World)(c:Int):(convert 90 9 (.slice (some ⟨w.heap.size,0,none⟩) 1 1)).run prog (w.alloc (.cells #[.int .u8 c] 5))=.ok (.string ⟨#[UInt8.ofNat c.toNat]⟩) (w.alloc (.cells #[.int .u8 c] 5)):=by
 rw[run_convert_bytes_string _ 90 9 5 _ 1 1 underlying90 underlying5 underlying9];rw[run_bytesToString _ _ 1 1 [c] (run_loadCells_list _ _ [.int .u8 c] (by
  intro j v hj
  match j,hj with
  | 0,hj=>simp at hj;subst hj;simp[Addr.add]))]
 rfl
theorem ZM(w:World)(c d:Int):(convert 90 9 (.slice (some ⟨w.heap.size,0,none⟩) 2 2)).run prog (w.alloc (.cells #[.int .u8 c,.int .u8 d] 5))=.ok (.string ⟨#[UInt8.ofNat c.toNat,UInt8.ofNat d.toNat]⟩) (w.alloc (.cells #[.int .u8 c,.int .u8 d] 5)):=by
 rw[run_convert_bytes_string _ 90 9 5 _ 2 2 underlying90 underlying5 underlying9];rw[run_bytesToString _ _ 2 2 [c,d] (run_loadCells_list _ _ [.int .u8 c,.int .u8 d] (by
  intro j v hj
  match j,hj with
  | 0,hj=>simp at hj;subst hj;simp[Addr.add]
  | 1,hj=>simp at hj;subst hj;simp[Addr.add]))]
 rfl
theorem ZN(w:World)(c d e:Int):(convert 90 9 (.slice (some ⟨w.heap.size,0,none⟩) 3 3)).run prog (w.alloc (.cells #[.int .u8 c,.int .u8 d,.int .u8 e] 5))=.ok (.string ⟨#[UInt8.ofNat c.toNat,UInt8.ofNat d.toNat,UInt8.ofNat e.toNat]⟩) (w.alloc (.cells #[.int .u8 c,.int .u8 d,.int .u8 e] 5)):=by
 rw[run_convert_bytes_string _ 90 9 5 _ 3 3 underlying90 underlying5 underlying9];rw[run_bytesToString _ _ 3 3 [c,d,e] (run_loadCells_list _ _ [.int .u8 c,.int .u8 d,.int .u8 e] (by
  intro j v hj
  match j,hj with
  | 0,hj=>simp at hj;subst hj;simp[Addr.add]
  | 1,hj=>simp at hj;subst hj;simp[Addr.add]
  | 2,hj=>simp at hj;subst hj;simp[Addr.add]))]
 rfl
theorem JM(x y:List UInt8)(wx:World)(h:x.length+y.length<=9223372036854775807):(Op.stringOp .add ⟨x.toArray⟩ ⟨y.toArray⟩).run prog wx=.ok (.string ⟨(x++y).toArray⟩) wx:=by
 rw[run_string_add_sum wx _ _ (by
  show x.toArray.size+y.toArray.size<=_;simpa using h),ByteArray.mk_append_mk]
theorem Bc{a b:List UInt8}(h:a=b):Ending.returned (.string ⟨a.toArray⟩)=.returned (.string ⟨b.toArray⟩):=by rw[h]
theorem Rf(n:Nat)(hn:n<65536)(w:World):Calls prog 202 #[.int .i64 (n:Nat)] w fun e w'=>e=.returned (.string ⟨(fO n).toArray⟩)/\w.grownBy w' none:=by
 have k1:=JL w;have k2:=ZM w;have k3:=ZN w;have e64:(n:Int).tdiv 64=((n / 64:Nat):Int):=by rw[Int.tdiv_eq_ediv_of_nonneg (by omega)];omega
 have m64:(n:Int).tmod 64=((n % 64:Nat):Int):=by rw[Int.tmod_eq_emod_of_nonneg (by omega)];omega
 have e4096:(n:Int).tdiv 4096=((n / 4096:Nat):Int):=by rw[Int.tdiv_eq_ediv_of_nonneg (by omega)];omega
 have m6464:((n / 64:Nat):Int).tmod 64=((n / 64 % 64:Nat):Int):=by rw[Int.tmod_eq_emod_of_nonneg (by omega)];omega
 by_cases h1:n<128
 ·have HW:Hd (fO n=[UInt8.ofNat n]):=by show _=_;unfold fO;rw[if_pos h1]
  clear k2 k3 e64 m64 e4096 m6464;go_enter func202,ntmps202;go_wp2;go_ret;refine⟨Bc ?_,World.grownBy_alloc _ _ none⟩;rw[HW.o]
 ·by_cases h2:n<2048
  ·have HW:Hd (fO n=[UInt8.ofNat (192+n / 64),UInt8.ofNat (128+n % 64)]):=by show _=_;unfold fO;rw[if_neg h1,if_pos h2]
   clear k1 k3 e4096 m6464;go_enter func202,ntmps202;go_wp2;go_ret;refine⟨Bc ?_,World.grownBy_alloc _ _ none⟩;rw[HW.o]
  ·have HW:Hd (fO n=[UInt8.ofNat (224+n / 4096),UInt8.ofNat (128+n / 64 % 64),UInt8.ofNat (128+n % 64)]):=by show _=_;unfold fO;rw[if_neg h1,if_neg h2]
   clear k1 k2;go_enter func202,ntmps202;go_wp2;go_ret;refine⟨Bc ?_,World.grownBy_alloc _ _ none⟩;rw[HW.o]
theorem ZO(x:Int)(h0:0<=x)(h1:x<256):hexV x=yS (if 65<=x/\x<=70 then x+32 else x):=by
 unfold hexV yS ax;simp only[decide_eq_true_eq]
 repeat' split
 all_goals omega
def Rh(R:Nat)(s:ByteArray)(L O:Value)(now de:Nat)(g:Rs (Nat × Nat))(w:World)(e:Ending)(w':World):Prop:=(∀n j,g=.ok (n,j)->e=.returned (.int .i64 (n:Nat))/\Ds w' R s L O now de (.ok j))/\(∀c p,g=.error (c,p)->e=.returned (.int .i64 0)/\Ds w' R s L O now de (.error (c,p)))/\w.grownBy w' (some R)
theorem ZP(R:Nat)(s:ByteArray)(L O:Value)(now de i:Nat)(w:World)(h:Dd w R s L O now de i 0 0)(hi:i<=s.size)(hs:s.size<=1048576) :
  Calls prog 201 #[.pointer (some ⟨R,0,none⟩)] w (Rh R s L O now de (four s.data.toList 4 i 0) w):=by
 have hl:s.data.toList.length=s.size:=by simp
 have IY:Hd (∀k i n,four s.data.toList (k+1) i n=if hexV (nx s.data.toList i)<0 then .error (2,i) else four s.data.toList k (i+1) (16*n+(hexV (nx s.data.toList i)).toNat)):=Af _;have Ag:Hd (∀c,-1<=hexV c/\hexV c<16):=Ey;have HX:Hd (∀k (hk:k<s.size),nx s.data.toList k=(s[k].toNat:Int)):=byte_at s;have tJ:Hd (∀k,s.size<=k->hexV (nx s.data.toList k)=-1):=fun k hk=>by rw[ji _ _ (by omega)];exact IX
 have CS:Hd (∀c,0<=c->c<256->∀w,Calls prog 126 #[.int .u8 c] w fun e w'=>e=.returned (.int .i64 (yS c))/\w'=w):=fun c h0 h1 w=>Zy c h0 h1 w
 have yT:Hd (∀x,0<=x->x<256->hexV x=yS (if 65<=x/\x<=70 then x+32 else x)):=ZO;obtain⟨F,hF⟩:=zN (four s.data.toList 4 i 0);have HF:Hd (four s.data.toList 4 i 0=F):=hF;rw[hF];have H0:Hd (Dd w R s L O now de i 0 0):=h;clear h hF;go_enter func201,ntmps201;go_wp2;go_loopw [3,4] (fun vn vk wr=>∃k n j:Nat,vn=.int .i64 (n:Nat)/\vk=.int .i64 (k:Nat)/\k<=4/\n<16 ^ k/\four s.data.toList (4-k) j n=F/\Dd wr R s L O now de j 0 0/\j<=s.size/\w.grownBy wr (some R)) (fun _ vk _=>4-(intOf vk).toNat)
 case atStart=>exact⟨0,0,i,rfl,rfl,by omega,by omega,HF.o,H0.o,hi,ak _ _⟩
 case round =>
  obtain⟨k,n,j,rfl,rfl,hk,hn,hf,hd,hj,hg⟩:=hrel;have HD:Hd (Dd _ R s L O now de j 0 0):=hd;have HG:Hd (w.grownBy _ (some R)):=hg
  by_cases hk4:k=4
  ·subst hk4;have jY:Hd (F=.ok (n,j)):=hf.symm;clear hd hg hf hn hk;go_wp2;refine bodyPost_ret (results_tmp (t:=2) rfl _ _ _) rfl ?_;rw[jY.o];exact⟨fun n j hh=>(by cases hh;exact⟨rfl,hj,HD.o⟩),fun c p hh=>(by cases hh),HG.o⟩
  ·have hk3:k<4:=by omega
   obtain⟨m,hm⟩:∃m,4-k=m+1:=⟨3-k,by omega⟩;have hm2:4-(k+1)=m:=by omega
   rw[hm,IY.o]at hf;have hn4:n<4096:=Nat.lt_of_lt_of_le hn (Nat.pow_le_pow_right (by decide) (show k<=3 by omega));have HN:Hd (n<16 ^ k):=hn;have hxb:=Ag.o (nx s.data.toList j);obtain⟨c0,c1,-,-,-,c5,-,-,df⟩:=hd.cells;have df1:=df 1;have vK:=tJ.o j;obtain⟨d,Be⟩:=zN (hexV (nx s.data.toList j));rw[Be]at hf hxb vK;have jY:Hd ((if d<0 then .error (2,j) else four s.data.toList m (j+1) (16*n+d.toNat))=F):=hf;obtain⟨hd1,hd2⟩:=hxb;have CF:Hd (∀wx,Dd wx R s L O now de j 0 0->Calls prog 82 #[.pointer (some ⟨R,0,none⟩),.int .i64 2,.int .i64 (j:Nat)] wx fun en w'=>en=.returned (.tuple #[])/\Dd w' R s L O now de j 2 j/\wx.grownBy w' (some R)):=fun wx hg=>oV R s L O now de j 2 j wx hg
   by_cases hlt:j<s.size
   ·have hlt':decide ((j:Int)<(s.size:Int))=true:=by simp;omega
    have hxj:=HX.o j hlt;have hu:=s[j].toNat_lt;have hsg:=yT.o (nx s.data.toList j) (by omega) (by omega);rw[Be,hxj]at hsg
    by_cases hA:65<=(s[j].toNat:Int)/\(s[j].toNat:Int)<=70
    ·have jC:Hd (∀w,Calls prog 126 #[.int .u8 ((s[j].toNat:Int)+32)] w fun e w'=>e=.returned (.int .i64 d)/\w'=w):=fun w=>by
      rw[if_pos hA]at hsg;rw[hsg];exact CS.o _ (by omega) (by omega) w
     have h65:65<=(s[j].toNat:Int):=hA.1;have h70:(s[j].toNat:Int)<=70:=hA.2;have hwr:IntKind.u8.wrap ((s[j].toNat:Int)+32)=(s[j].toNat:Int)+32:=by simp[IntKind.wrap,IntKind.bits,IntKind.signed];omega
     clear hsg hd hg hf hm hk4 hk hn Be hxj df vK
     by_cases hd0:d<0
     ·have aB:Hd (F=.error (2,j)):=by
       have:=jY.o;rw[if_pos hd0]at this;exact this.symm
      go_wp2;go_quiet (fail);have aC:Hd (Dd (wr.drewN nq) R s L O now de j 0 0):=HD.o;have dO:Hd (w.grownBy (wr.drewN nq) (some R)):=au HG.o nq;obtain⟨wA,hwA⟩:∃W,wr.drewN nq=W:=⟨_,rfl⟩;rw[hwA]at aC dO ⊢;obtain⟨g0,g1,-,-,-,g5,-,-,dg⟩:=aC.o.cells;have dg1:=dg 1;clear hwA dg;go_wp2;go_quiet (fail);have aK:Hd (Dd (wA.drewN nq) R s L O now de j 0 0):=aC.o;have aG:Hd (w.grownBy (wA.drewN nq) (some R)):=au dO.o nq;obtain⟨wB,hwB⟩:∃W,wA.drewN nq=W:=⟨_,rfl⟩;rw[hwB]at aK aG ⊢;obtain⟨g0',g1',-,-,-,g5',-,-,dg⟩:=aK.o.cells;have dg2:=dg 1;clear hwB dg;go_wp2_with (first|(go_at_call 126;refine(jC.o _).mono ?_;rintro e w' ⟨rfl,rfl⟩)|(go_at_call 82;refine(CF.o _ aK.o).mono ?_;rintro e w2 ⟨rfl,hd2,hg2⟩));refine bodyPost_ret (results_tmp (t:=2) rfl _ _ _) rfl ?_;rw[aB.o];exact⟨fun n j hh=>(by cases hh),fun c p hh=>(by cases hh;exact⟨rfl,by decide,j,hj,hd2⟩),dH aG.o hg2⟩
     ·obtain⟨d,rfl⟩:∃d':Nat,d=(d':Int):=⟨d.toNat,by omega⟩;have gY:Hd (four s.data.toList m (j+1) (16*n+d)=F):=by
       have:=jY.o;rw[if_neg hd0]at this;show _=_;simpa using this
      have rV:Hd (16*n+d<16 ^ (k+1)):=by
       have:=HN.o;show _ < _;rw[Nat.pow_succ];omega
      go_wp2;go_quiet (fail);have aC:Hd (Dd (wr.drewN nq) R s L O now de j 0 0):=HD.o;have dO:Hd (w.grownBy (wr.drewN nq) (some R)):=au HG.o nq;obtain⟨wA,hwA⟩:∃W,wr.drewN nq=W:=⟨_,rfl⟩;rw[hwA]at aC dO ⊢;obtain⟨g0,g1,-,-,-,g5,-,-,dg⟩:=aC.o.cells;have dg1:=dg 1;clear hwA dg;go_wp2;go_quiet (fail);have aK:Hd (Dd (wA.drewN nq) R s L O now de j 0 0):=aC.o;have aG:Hd (w.grownBy (wA.drewN nq) (some R)):=au dO.o nq;obtain⟨wB,hwB⟩:∃W,wA.drewN nq=W:=⟨_,rfl⟩;rw[hwB]at aK aG ⊢;obtain⟨g0',g1',-,-,-,g5',-,-,dg⟩:=aK.o.cells;have dg2:=dg 1;clear hwB dg;go_wp2_with (go_at_call 126;refine(jC.o _).mono ?_;rintro e w' ⟨rfl,rfl⟩);go_roundw
      case rel =>
       exact⟨k+1,16*n+d,j+1,by go_num,by go_num,by omega,rV.o,by rw[hm2];exact gY.o,aK.o.setI (j+1),by omega,aV aG.o 1 _⟩
      case measure=>simp[intOf];omega
    ·have jC:Hd (∀w,Calls prog 126 #[.int .u8 ((s[j].toNat:Int))] w fun e w'=>e=.returned (.int .i64 d)/\w'=w):=fun w=>by
      rw[if_neg hA]at hsg;rw[hsg];exact CS.o _ (by omega) (by omega) w
     have hA':¬(65<=(s[j].toNat:Int)/\(s[j].toNat:Int)<=70):=hA;clear hsg hd hg hf hm hk4 hk hn Be hxj df vK
     by_cases hd0:d<0
     ·have aB:Hd (F=.error (2,j)):=by
       have:=jY.o;rw[if_pos hd0]at this;exact this.symm
      go_wp2;go_quiet (fail);have aC:Hd (Dd (wr.drewN nq) R s L O now de j 0 0):=HD.o;have dO:Hd (w.grownBy (wr.drewN nq) (some R)):=au HG.o nq;obtain⟨wA,hwA⟩:∃W,wr.drewN nq=W:=⟨_,rfl⟩;rw[hwA]at aC dO ⊢;obtain⟨g0,g1,-,-,-,g5,-,-,dg⟩:=aC.o.cells;have dg1:=dg 1;clear hwA dg;go_wp2;go_quiet (fail);have aK:Hd (Dd (wA.drewN nq) R s L O now de j 0 0):=aC.o;have aG:Hd (w.grownBy (wA.drewN nq) (some R)):=au dO.o nq;obtain⟨wB,hwB⟩:∃W,wA.drewN nq=W:=⟨_,rfl⟩;rw[hwB]at aK aG ⊢;obtain⟨g0',g1',-,-,-,g5',-,-,dg⟩:=aK.o.cells;have dg2:=dg 1;clear hwB dg
      by_cases h65:65<=(s[j].toNat:Int)
      ·have h7:¬(s[j].toNat:Int)<=70:=by omega
       go_wp2_with (first|(go_at_call 126;refine(jC.o _).mono ?_;rintro e w' ⟨rfl,rfl⟩)|(go_at_call 82;refine(CF.o _ aK.o).mono ?_;rintro e w2 ⟨rfl,hd2,hg2⟩));refine bodyPost_ret (results_tmp (t:=2) rfl _ _ _) rfl ?_;rw[aB.o];exact⟨fun n j hh=>(by cases hh),fun c p hh=>(by cases hh;exact⟨rfl,by decide,j,hj,hd2⟩),dH aG.o hg2⟩
      ·have h7:(s[j].toNat:Int)<65:=by omega
       go_wp2_with (first|(go_at_call 126;refine(jC.o _).mono ?_;rintro e w' ⟨rfl,rfl⟩)|(go_at_call 82;refine(CF.o _ aK.o).mono ?_;rintro e w2 ⟨rfl,hd2,hg2⟩));refine bodyPost_ret (results_tmp (t:=2) rfl _ _ _) rfl ?_;rw[aB.o];exact⟨fun n j hh=>(by cases hh),fun c p hh=>(by cases hh;exact⟨rfl,by decide,j,hj,hd2⟩),dH aG.o hg2⟩
     ·obtain⟨d,rfl⟩:∃d':Nat,d=(d':Int):=⟨d.toNat,by omega⟩;have gY:Hd (four s.data.toList m (j+1) (16*n+d)=F):=by
       have:=jY.o;rw[if_neg hd0]at this;show _=_;simpa using this
      have rV:Hd (16*n+d<16 ^ (k+1)):=by
       have:=HN.o;show _ < _;rw[Nat.pow_succ];omega
      go_wp2;go_quiet (fail);have aC:Hd (Dd (wr.drewN nq) R s L O now de j 0 0):=HD.o;have dO:Hd (w.grownBy (wr.drewN nq) (some R)):=au HG.o nq;obtain⟨wA,hwA⟩:∃W,wr.drewN nq=W:=⟨_,rfl⟩;rw[hwA]at aC dO ⊢;obtain⟨g0,g1,-,-,-,g5,-,-,dg⟩:=aC.o.cells;have dg1:=dg 1;clear hwA dg;go_wp2;go_quiet (fail);have aK:Hd (Dd (wA.drewN nq) R s L O now de j 0 0):=aC.o;have aG:Hd (w.grownBy (wA.drewN nq) (some R)):=au dO.o nq;obtain⟨wB,hwB⟩:∃W,wA.drewN nq=W:=⟨_,rfl⟩;rw[hwB]at aK aG ⊢;obtain⟨g0',g1',-,-,-,g5',-,-,dg⟩:=aK.o.cells;have dg2:=dg 1;clear hwB dg
      by_cases h65:65<=(s[j].toNat:Int)
      ·have h7:¬(s[j].toNat:Int)<=70:=by omega
       go_wp2_with (go_at_call 126;refine(jC.o _).mono ?_;rintro e w' ⟨rfl,rfl⟩);go_roundw
       case rel =>
        exact⟨k+1,16*n+d,j+1,by go_num,by go_num,by omega,rV.o,by rw[hm2];exact gY.o,aK.o.setI (j+1),by omega,aV aG.o 1 _⟩
       case measure=>simp[intOf];omega
      ·have h7:(s[j].toNat:Int)<65:=by omega
       go_wp2_with (go_at_call 126;refine(jC.o _).mono ?_;rintro e w' ⟨rfl,rfl⟩);go_roundw
       case rel =>
        exact⟨k+1,16*n+d,j+1,by go_num,by go_num,by omega,rV.o,by rw[hm2];exact gY.o,aK.o.setI (j+1),by omega,aV aG.o 1 _⟩
       case measure=>simp[intOf];omega
   ·have hge:decide ((j:Int)<(s.size:Int))=false:=by simp;omega
    have hdm:d=-1:=vK (by omega);have aB:Hd (F=.error (2,j)):=by
     have:=jY.o;rw[if_pos (by omega)]at this;exact this.symm
    clear hd hg hf hm hk4 hk hn Be hdm vK df;go_wp2;go_quiet (fail);go_wp2_with (go_at_call 82;refine(CF.o _ ?_).mono ?_;exact HD.o;rintro e w2 ⟨rfl,hd2,hg2⟩);refine bodyPost_ret (results_tmp (t:=2) rfl _ _ _) rfl ?_;rw[aB.o];exact⟨fun n j hh=>(by cases hh),fun c p hh=>(by cases hh;exact⟨rfl,by decide,j,hj,hd2⟩),dH HG.o ⟨hg2.os,hg2.tape,hg2.output,hg2.size,hg2.block⟩⟩
open Go.RowKit Go.Joins
def mP(M R:Nat)(s:ByteArray)(L O:Value)(now de:Nat)(g:Rs (List UInt8 × Nat))(w:World)(e:Ending)(w':World):Prop:=(∀t j,g=.ok (t,j)->e=.returned (.string ⟨t.toArray⟩)/\Ds w' R s L O now de (.ok j))/\(∀c p,g=.error (c,p)->(∃t:List UInt8,t.length<=M/\e=.returned (.string ⟨t.toArray⟩))/\Ds w' R s L O now de (.error (c,p)))/\w.grownBy w' (some R)
theorem Ri(l:List UInt8):∀(k i n N j:Nat),four l k i n=.ok (N,j)->N<(n+1)*16 ^ k
 | 0,i,n,N,j,h=>by
  have h':(Except.ok (n,i):Rs (Nat × Nat))=.ok (N,j):=h;injection h' with h'
  injection h' with h1 h2
  omega
 | k+1,i,n,N,j,h=>by
  rw[Af]at h;split at h
  ·cases h
  ·have:=Ri l k _ _ N j h;have hb:=Ey (nx l i);have e:(16*n+(hexV (nx l i)).toNat+1)*16 ^ k<=(16*(n+1))*16 ^ k:=Nat.mul_le_mul_right _ (by omega);rw[Nat.pow_succ];have e2:(n+1)*(16 ^ k*16)=(16*(n+1))*16 ^ k:=by rw[Nat.mul_comm (16 ^ k) 16,<-Nat.mul_assoc,Nat.mul_comm (n+1) 16]
   omega
def Bf(i:Nat):Rs (Nat × Nat)->Rs (List UInt8 × Nat)
 | .error e=>.error e
 | .ok (n,j)=>if 55296<=n/\n<=57343 then .error (2,i) else .ok (fO n,j)
theorem ZQ(l:List UInt8)(i:Nat)(h:nx l (i+1)=117):esc l i=Bf i (four l 4 (i+2) 0):=by
 unfold esc;rw[if_pos h]
 cases four l 4 (i+2) 0<;>rfl
theorem Rj(l:List UInt8)(i:Nat)(h1:¬nx l (i+1)=117)(h2:¬nx l (i+1)=98)(h3:¬nx l (i+1)=116)(h4:¬nx l (i+1)=110)(h5:¬nx l (i+1)=102)(h6:¬nx l (i+1)=114)(h7:¬nx l (i+1)=34)(h8:¬nx l (i+1)=92):esc l i=.error (2,i+1):=by
 unfold esc;rw[if_neg h1,if_neg h2,if_neg h3,if_neg h4,if_neg h5,if_neg h6,if_neg h7,if_neg h8]
theorem ZR(l:List UInt8)(i:Nat)(h:nx l (i+1)=98):esc l i=.ok ([8],i+2):=by
 unfold esc;rw[if_neg (by rw[h];decide),if_pos h]
theorem ZT(l:List UInt8)(i:Nat)(h:nx l (i+1)=116):esc l i=.ok ([9],i+2):=by
 unfold esc;rw[if_neg (by rw[h];decide),if_neg (by rw[h];decide),if_pos h]
theorem ZU(l:List UInt8)(i:Nat)(h:nx l (i+1)=110):esc l i=.ok ([10],i+2):=by
 unfold esc;rw[if_neg (by rw[h];decide),if_neg (by rw[h];decide),if_neg (by rw[h];decide),if_pos h]
theorem ZV(l:List UInt8)(i:Nat)(h:nx l (i+1)=102):esc l i=.ok ([12],i+2):=by
 unfold esc;rw[if_neg (by rw[h];decide),if_neg (by rw[h];decide),if_neg (by rw[h];decide),if_neg (by rw[h];decide),if_pos h]
theorem ZW(l:List UInt8)(i:Nat)(h:nx l (i+1)=114):esc l i=.ok ([13],i+2):=by
 unfold esc;rw[if_neg (by rw[h];decide),if_neg (by rw[h];decide),if_neg (by rw[h];decide),if_neg (by rw[h];decide),if_neg (by rw[h];decide),if_pos h]
theorem ZX(l:List UInt8)(i:Nat)(h:nx l (i+1)=34):esc l i=.ok ([34],i+2):=by
 unfold esc;rw[if_neg (by rw[h];decide),if_neg (by rw[h];decide),if_neg (by rw[h];decide),if_neg (by rw[h];decide),if_neg (by rw[h];decide),if_neg (by rw[h];decide),if_pos h]
theorem ZY(l:List UInt8)(i:Nat)(h:nx l (i+1)=92):esc l i=.ok ([92],i+2):=by
 unfold esc;rw[if_neg (by rw[h];decide),if_neg (by rw[h];decide),if_neg (by rw[h];decide),if_neg (by rw[h];decide),if_neg (by rw[h];decide),if_neg (by rw[h];decide),if_neg (by rw[h];decide),if_pos h]
theorem ZZ(R:Nat)(s:ByteArray)(L O:Value)(now de i:Nat)(w:World)(h:Dd w R s L O now de i 0 0)(hi:i<s.size)(hs:s.size<=1048576)(he:s.size<=i+1) :
  Calls prog 160 #[.pointer (some ⟨R,0,none⟩)] w (mP 3 R s L O now de (esc s.data.toList i) w):=by
 have hl:s.data.toList.length=s.size:=by simp
 have HS:Hd (Dd (w.setCell ⟨R,1,none⟩ (.int .i64 ((i:Int)+1))) R s L O now de (i+1) 0 0):=h.setI (i+1);have eP:Hd (w.grownBy (w.setCell ⟨R,1,none⟩ (.int .i64 ((i:Int)+1))) (some R)):=aV (ak w (some R)) 1 _;obtain⟨c0,c1,-,-,-,-,-,-,df⟩:=h.cells;have df1:=df 1;have HE:Hd (esc s.data.toList i=.error (2,i+1)):=by
  have e:nx s.data.toList (i+1)=-1:=ji _ _ (by omega);exact Rj _ _ (by rw[e];decide) (by rw[e];decide) (by rw[e];decide) (by rw[e];decide) (by rw[e];decide) (by rw[e];decide) (by rw[e];decide) (by rw[e];decide)
 rw[HE.o];clear h df;obtain⟨j,hj⟩:=zN (i+1);have hjs:j<=s.size:=by omega
 have hge:decide ((s.size:Int)<=(j:Int))=true:=by simp;omega
 have kZ:(s.size:Int)<=(j:Int):=by omega
 rw[hj]at HS ⊢;clear hj he;go_enter func160,ntmps160;go_wp2;obtain⟨wA,hwA⟩:∃W,w.setCell ⟨R,1,none⟩ (.int .i64 ((i:Int)+1))=W:=⟨_,rfl⟩;rw[hwA]at HS eP ⊢;obtain⟨d0,d1,-,-,-,-,-,-,dg⟩:=HS.o.cells;have dg1:=dg 1;clear hwA dg c0 c1 df1;have CF:Hd (∀wx,Dd wx R s L O now de j 0 0->Calls prog 82 #[.pointer (some ⟨R,0,none⟩),.int .i64 2,.int .i64 (j:Nat)] wx fun en w'=>en=.returned (.tuple #[])/\Dd w' R s L O now de j 2 j/\wx.grownBy w' (some R)):=fun wx hg=>oV R s L O now de j 2 j wx hg
 go_quiet (fail);go_wp2_with (go_at_call 82;refine(CF.o _ ?_).mono ?_;exact HS.o;rintro e w2 ⟨rfl,hd2,hg2⟩);refine bodyPost_ret (results_tmp (t:=2) rfl _ _ _) rfl ?_;exact⟨fun t k hh=>(by cases hh),fun c p hh=>(by cases hh;exact⟨⟨[],by simp,rfl⟩,by decide,j,by omega,hd2⟩),dH (w1:=wA) eP.o ⟨hg2.os,hg2.tape,hg2.output,hg2.size,hg2.block⟩⟩
open Go.RowKit Go.Joins
theorem Z4(R:Nat)(s:ByteArray)(L O:Value)(now de i:Nat)(w:World)(h:Dd w R s L O now de i 0 0)(hi:i<s.size)(hs:s.size<=1048576)(hn:i+1<s.size)(m98:¬nx s.data.toList (i+1)=98)(m116:¬nx s.data.toList (i+1)=116)(m110:¬nx s.data.toList (i+1)=110)(m102:¬nx s.data.toList (i+1)=102)(m114:¬nx s.data.toList (i+1)=114)(m34:¬nx s.data.toList (i+1)=34)(m92:¬nx s.data.toList (i+1)=92)(m117:¬nx s.data.toList (i+1)=117) :
  Calls prog 160 #[.pointer (some ⟨R,0,none⟩)] w (mP 3 R s L O now de (esc s.data.toList i) w):=by
 have hl:s.data.toList.length=s.size:=by simp
 have HS:Hd (Dd (w.setCell ⟨R,1,none⟩ (.int .i64 ((i:Int)+1))) R s L O now de (i+1) 0 0):=h.setI (i+1);have eP:Hd (w.grownBy (w.setCell ⟨R,1,none⟩ (.int .i64 ((i:Int)+1))) (some R)):=aV (ak w (some R)) 1 _;obtain⟨c0,c1,-,-,-,-,-,-,df⟩:=h.cells;have df1:=df 1;have HE:Hd (esc s.data.toList i=.error (2,i+1)):=Rj _ _ m117 m98 m116 m110 m102 m114 m34 m92;rw[HE.o];have fG:Hd (∀(hj:i+1<s.size),nx s.data.toList (i+1)=(s[i+1].toNat:Int)):=byte_at s (i+1);clear h df;obtain⟨j,hj⟩:=zN (i+1);have hij:i+2=j+1:=by omega
 have hlt:j<s.size:=by omega
 have hge:decide ((s.size:Int)<=(j:Int))=false:=by simp;omega
 have kZ:¬(s.size:Int)<=(j:Int):=by omega
 rw[hj]at HS fG m98 m116 m110 m102 m114 m34 m92 m117;rw[hj];have HX:Hd (nx s.data.toList j=(s[j].toNat:Int)):=fG.o hlt;clear hj hij fG hn HE;have q98:((s[j].toNat:Int) == 98)=false:=by rw[beq_eq_false_iff_ne,<-HX.o];exact m98
 have q116:((s[j].toNat:Int) == 116)=false:=by rw[beq_eq_false_iff_ne,<-HX.o];exact m116
 have q110:((s[j].toNat:Int) == 110)=false:=by rw[beq_eq_false_iff_ne,<-HX.o];exact m110
 have q102:((s[j].toNat:Int) == 102)=false:=by rw[beq_eq_false_iff_ne,<-HX.o];exact m102
 have q114:((s[j].toNat:Int) == 114)=false:=by rw[beq_eq_false_iff_ne,<-HX.o];exact m114
 have q34:((s[j].toNat:Int) == 34)=false:=by rw[beq_eq_false_iff_ne,<-HX.o];exact m34
 have q92:((s[j].toNat:Int) == 92)=false:=by rw[beq_eq_false_iff_ne,<-HX.o];exact m92
 have q117:((s[j].toNat:Int) == 117)=false:=by rw[beq_eq_false_iff_ne,<-HX.o];exact m117
 clear HX m98 m116 m110 m102 m114 m34 m92 m117;go_enter func160,ntmps160;go_wp2;obtain⟨wA,hwA⟩:∃W,w.setCell ⟨R,1,none⟩ (.int .i64 ((i:Int)+1))=W:=⟨_,rfl⟩;rw[hwA]at HS eP ⊢;obtain⟨d0,d1,-,-,-,-,-,-,dg⟩:=HS.o.cells;have dg1:=dg 1;clear hwA dg c0 c1 df1;go_quiet (fail);have aK:Hd (Dd (wA.drewN nq) R s L O now de j 0 0):=HS.o;have aG:Hd (w.grownBy (wA.drewN nq) (some R)):=au eP.o nq;obtain⟨wB,hwB⟩:∃W,wA.drewN nq=W:=⟨_,rfl⟩;rw[hwB]at aK aG ⊢;obtain⟨f0,f1,-,-,-,-,-,-,fg⟩:=aK.o.cells;have fg1:=fg 1;clear hwB fg d0 d1 dg1;go_wp2;go_quiet (fail);have dJ:Hd (Dd (wB.drewN nq) R s L O now de j 0 0):=aK.o;have bC:Hd (w.grownBy (wB.drewN nq) (some R)):=au aG.o nq;obtain⟨wC,fH⟩:∃W,wB.drewN nq=W:=⟨_,rfl⟩;rw[fH]at dJ bC ⊢;obtain⟨g0,g1,-,-,-,-,-,-,gg⟩:=dJ.o.cells;have gg1:=gg 1;have eY:Hd (Dd (wC.setCell ⟨R,1,none⟩ (.int .i64 ((j:Int)+1))) R s L O now de (j+1) 0 0):=dJ.o.setI (j+1)
 have gu:Hd (w.grownBy (wC.setCell ⟨R,1,none⟩ (.int .i64 ((j:Int)+1))) (some R)):=aV bC.o 1 _;clear fH gg f0 f1 fg1;have hsub:IntKind.i64.wrap ((j:Int)+1-1)=(j:Int):=by rw[IntKind.wrap_i64];omega
 have CF:Hd (∀wx,Dd wx R s L O now de (j+1) 0 0->Calls prog 82 #[.pointer (some ⟨R,0,none⟩),.int .i64 2,.int .i64 (j:Nat)] wx fun en w'=>en=.returned (.tuple #[])/\Dd w' R s L O now de (j+1) 2 j/\wx.grownBy w' (some R)):=fun wx hg=>oV R s L O now de (j+1) 2 j wx hg
 obtain⟨-,k1,-⟩:=eY.o.cells;go_wp2_with (go_at_call 82;refine(CF.o _ eY.o).mono ?_;rintro e w2 ⟨rfl,hd2,hg2⟩);refine bodyPost_ret (results_tmp (t:=2) rfl _ _ _) rfl ?_;exact⟨fun t k hh=>(by cases hh),fun c p hh=>(by cases hh;exact⟨⟨[],by simp,rfl⟩,by decide,j+1,by omega,hd2⟩),dH gu.o hg2⟩
end Go.Proofs.YtnnbgjaphfhibaaGreatDoor
