import Derived.Test.YtbgnflcebafjjaaGreatDoorM07
import Derived.Test.YtbgnflcebafjjaaGreatDoorM03
import Derived.Laws.BytesString
import Derived.Test.YtbgnflcebafjjaaGreatDoorM04
import Derived.Deep.RegionHeld3
import Derived.Deep.RegionLaw
import Derived.Deep.Cut
import Derived.Test.YtbgnflcebafjjaaGreatDoorM05
namespace Go.Proofs.YtbgnflcebafjjaaGreatDoor
open Go.RowKit Go.Joins
set_option linter.unusedVariables false
theorem cv_one (w:World) (c:Int):(convert 74 9 (.slice (some ⟨w.heap.size,0,none⟩) 1 1)).run Tryz.prog (w.alloc (.cells #[.int .u8 c] 5))=.ok (.string ⟨#[UInt8.ofNat c.toNat]⟩) (w.alloc (.cells #[.int .u8 c] 5)):=by
 rw [run_convert_bytes_string _ 74 9 5 _ 1 1 Tryz.underlying74 Tryz.underlying5 Tryz.underlying9]
 rw [run_bytesToString _ _ 1 1 [c] (run_loadCells_list _ _ [.int .u8 c] (by
  intro j v hj
  match j,hj with
  | 0,hj=>simp at hj;subst hj;simp [Addr.add]))]
 rfl
theorem cv_two (w:World) (c d:Int):(convert 74 9 (.slice (some ⟨w.heap.size,0,none⟩) 2 2)).run Tryz.prog (w.alloc (.cells #[.int .u8 c,.int .u8 d] 5))=.ok (.string ⟨#[UInt8.ofNat c.toNat,UInt8.ofNat d.toNat]⟩) (w.alloc (.cells #[.int .u8 c,.int .u8 d] 5)):=by
 rw [run_convert_bytes_string _ 74 9 5 _ 2 2 Tryz.underlying74 Tryz.underlying5 Tryz.underlying9]
 rw [run_bytesToString _ _ 2 2 [c,d] (run_loadCells_list _ _ [.int .u8 c,.int .u8 d] (by
  intro j v hj
  match j,hj with
  | 0,hj=>simp at hj;subst hj;simp [Addr.add]
  | 1,hj=>simp at hj;subst hj;simp [Addr.add]))]
 rfl
theorem cv_three (w:World) (c d e:Int):(convert 74 9 (.slice (some ⟨w.heap.size,0,none⟩) 3 3)).run Tryz.prog (w.alloc (.cells #[.int .u8 c,.int .u8 d,.int .u8 e] 5))=.ok (.string ⟨#[UInt8.ofNat c.toNat,UInt8.ofNat d.toNat,UInt8.ofNat e.toNat]⟩) (w.alloc (.cells #[.int .u8 c,.int .u8 d,.int .u8 e] 5)):=by
 rw [run_convert_bytes_string _ 74 9 5 _ 3 3 Tryz.underlying74 Tryz.underlying5 Tryz.underlying9]
 rw [run_bytesToString _ _ 3 3 [c,d,e] (run_loadCells_list _ _ [.int .u8 c,.int .u8 d,.int .u8 e] (by
  intro j v hj
  match j,hj with
  | 0,hj=>simp at hj;subst hj;simp [Addr.add]
  | 1,hj=>simp at hj;subst hj;simp [Addr.add]
  | 2,hj=>simp at hj;subst hj;simp [Addr.add]))]
 rfl
theorem add_str (x y:List UInt8) (wx:World) (h:x.length+y.length<=9223372036854775807):(Op.stringOp .add ⟨x.toArray⟩ ⟨y.toArray⟩).run Tryz.prog wx=.ok (.string ⟨(x++y).toArray⟩) wx:=by
 rw [run_string_add_sum wx _ _ (by
  show x.toArray.size+y.toArray.size<=_
  simpa using h),ByteArray.mk_append_mk]
theorem ret_str {a b:List UInt8} (h:a=b):Ending.returned (.string ⟨a.toArray⟩)=.returned (.string ⟨b.toArray⟩):=by rw [h]
set_option maxRecDepth 100000 in
set_option maxHeartbeats 1600000 in
theorem dWritten_any (n:Nat) (hn:n < 65536) (w:World):Calls Tryz.prog 124 #[.int .i64 (n:Nat)] w fun e w'=>e=.returned (.string ⟨(wrt n).toArray⟩)/\w.grownBy w' none:=by
 have k1:=cv_one w
 have k2:=cv_two w
 have k3:=cv_three w
 have e64:(n:Int).tdiv 64=((n / 64:Nat):Int):=by rw [Int.tdiv_eq_ediv_of_nonneg (by omega)];omega
 have m64:(n:Int).tmod 64=((n % 64:Nat):Int):=by rw [Int.tmod_eq_emod_of_nonneg (by omega)];omega
 have e4096:(n:Int).tdiv 4096=((n / 4096:Nat):Int):=by rw [Int.tdiv_eq_ediv_of_nonneg (by omega)];omega
 have m6464:((n / 64:Nat):Int).tmod 64=((n / 64 % 64:Nat):Int):=by rw [Int.tmod_eq_emod_of_nonneg (by omega)];omega
 by_cases h1:n < 128
 ·have HW:Hid (wrt n=[UInt8.ofNat n]):=by show _=_;unfold wrt;rw [if_pos h1]
  clear k2 k3 e64 m64 e4096 m6464
  go_enter Tryz.func124,Tryz.ntmps124
  go_wp2
  go_ret
  refine ⟨ret_str ?_,World.grownBy_alloc _ _ none⟩
  rw [HW.out]
 ·by_cases h2:n < 2048
  ·have HW:Hid (wrt n=[UInt8.ofNat (192+n / 64),UInt8.ofNat (128+n % 64)]):=by show _=_;unfold wrt;rw [if_neg h1,if_pos h2]
   clear k1 k3 e4096 m6464
   go_enter Tryz.func124,Tryz.ntmps124
   go_wp2
   go_ret
   refine ⟨ret_str ?_,World.grownBy_alloc _ _ none⟩
   rw [HW.out]
  ·have HW:Hid (wrt n=[UInt8.ofNat (224+n / 4096),UInt8.ofNat (128+n / 64 % 64),UInt8.ofNat (128+n % 64)]):=by show _=_;unfold wrt;rw [if_neg h1,if_neg h2]
   clear k1 k2
   go_enter Tryz.func124,Tryz.ntmps124
   go_wp2
   go_ret
   refine ⟨ret_str ?_,World.grownBy_alloc _ _ none⟩
   rw [HW.out]
theorem hexV_sign (x:Int) (h0:0<=x) (h1:x < 256):hexV x=sgN (if 65<=x/\x<=70 then x+32 else x):=by
 unfold hexV sgN isDg
 simp only [decide_eq_true_eq]
 repeat' split
 all_goals omega
def FoPost (R:Nat) (s:ByteArray) (L O:Value) (now de:Nat) (g:Rs (Nat × Nat)) (w:World) (e:Ending) (w':World):Prop:=(∀n j,g=.ok (n,j)->e=.returned (.int .i64 (n:Nat))/\Ds w' R s L O now de (.ok j))/\(∀c p,g=.error (c,p)->e=.returned (.int .i64 0)/\Ds w' R s L O now de (.error (c,p)))/\w.grownBy w' (some R)
set_option maxRecDepth 100000 in
set_option maxHeartbeats 1600000 in
theorem dFour_any (R:Nat) (s:ByteArray) (L O:Value) (now de i:Nat) (w:World) (h:Dd w R s L O now de i 0 0) (hi:i<=s.size) (hs:s.size<=1048576) :
  Calls Tryz.prog 123 #[.pointer (some ⟨R,0,none⟩)] w (FoPost R s L O now de (four s.data.toList 4 i 0) w):=by
 have hl:s.data.toList.length=s.size:=by simp
 have HFS:Hid (∀k i n,four s.data.toList (k+1) i n=if hexV (nx s.data.toList i) < 0 then .error (2,i) else four s.data.toList k (i+1) (16 * n+(hexV (nx s.data.toList i)).toNat)):=four_step _
 have HHB:Hid (∀c,-1<=hexV c/\hexV c < 16):=hexV_bound
 have HX:Hid (∀k (hk:k < s.size),nx s.data.toList k=(s[k].toNat:Int)):=byte_at s
 have HXE:Hid (∀k,s.size<=k->hexV (nx s.data.toList k)=-1):=fun k hk=>by rw [nx_end _ _ (by omega)];exact hexV_end
 have CS:Hid (∀c,0<=c->c < 256->∀w,Calls Tryz.prog 144 #[.int .u8 c] w fun e w'=>e=.returned (.int .i64 (sgN c))/\w'=w):=fun c h0 h1 w=>dSign_any c h0 h1 w
 have HSG:Hid (∀x,0<=x->x < 256->hexV x=sgN (if 65<=x/\x<=70 then x+32 else x)):=hexV_sign
 obtain ⟨F,hF⟩:∃F,four s.data.toList 4 i 0=F:=⟨_,rfl⟩
 have HF:Hid (four s.data.toList 4 i 0=F):=hF
 rw [hF]
 have H0:Hid (Dd w R s L O now de i 0 0):=h
 clear h hF
 go_enter Tryz.func123,Tryz.ntmps123
 go_wp2
 go_loopw [3,4] (fun vn vk wr=>∃k n j:Nat,vn=.int .i64 (n:Nat)/\vk=.int .i64 (k:Nat)/\k<=4/\n < 16 ^ k/\four s.data.toList (4 - k) j n=F/\Dd wr R s L O now de j 0 0/\j<=s.size/\w.grownBy wr (some R)) (fun _ vk _=>4 - (intOf vk).toNat)
 case atStart=>exact ⟨0,0,i,rfl,rfl,by omega,by omega,HF.out,H0.out,hi,gb_refl _ _⟩
 case round =>
  obtain ⟨k,n,j,rfl,rfl,hk,hn,hf,hd,hj,hg⟩:=hrel
  have HD:Hid (Dd _ R s L O now de j 0 0):=hd
  have HG:Hid (w.grownBy _ (some R)):=hg
  by_cases hk4:k=4
  ·subst hk4
   have HFF:Hid (F=.ok (n,j)):=hf.symm
   clear hd hg hf hn hk
   go_wp2
   refine bodyPost_ret (results_tmp (t:=2) rfl _ _ _) rfl ?_
   rw [HFF.out]
   exact ⟨fun n j hh=>(by cases hh;exact ⟨rfl,hj,HD.out⟩),fun c p hh=>(by cases hh),HG.out⟩
  ·have hk3:k < 4:=by omega
   obtain ⟨m,hm⟩:∃m,4 - k=m+1:=⟨3 - k,by omega⟩
   have hm2:4 - (k+1)=m:=by omega
   rw [hm,HFS.out] at hf
   have hn4:n < 4096:=Nat.lt_of_lt_of_le hn (Nat.pow_le_pow_right (by decide) (show k<=3 by omega))
   have HN:Hid (n < 16 ^ k):=hn
   have hxb:=HHB.out (nx s.data.toList j)
   obtain ⟨c0,c1,-,-,-,c5,-,-,df⟩:=hd.cells
   have df1:=df 1
   have HXE1:=HXE.out j
   obtain ⟨d,hdx⟩:∃d,hexV (nx s.data.toList j)=d:=⟨_,rfl⟩
   rw [hdx] at hf hxb HXE1
   have HFF:Hid ((if d < 0 then .error (2,j) else four s.data.toList m (j+1) (16 * n+d.toNat))=F):=hf
   obtain ⟨hd1,hd2⟩:=hxb
   have CF:Hid (∀wx,Dd wx R s L O now de j 0 0->Calls Tryz.prog 55 #[.pointer (some ⟨R,0,none⟩),.int .i64 2,.int .i64 (j:Nat)] wx fun en w'=>en=.returned (.tuple #[])/\Dd w' R s L O now de j 2 j/\wx.grownBy w' (some R)):=fun wx hg=>dFail_yes R s L O now de j 2 j wx hg
   by_cases hlt:j < s.size
   ·have hlt':decide ((j:Int) < (s.size:Int))=true:=by simp;omega
    have hxj:=HX.out j hlt
    have hu:=s[j].toNat_lt
    have hsg:=HSG.out (nx s.data.toList j) (by omega) (by omega)
    rw [hdx,hxj] at hsg
    by_cases hA:65<=(s[j].toNat:Int)/\(s[j].toNat:Int)<=70
    ·have CS1:Hid (∀w,Calls Tryz.prog 144 #[.int .u8 ((s[j].toNat:Int)+32)] w fun e w'=>e=.returned (.int .i64 d)/\w'=w):=fun w=>by
      rw [if_pos hA] at hsg
      rw [hsg]
      exact CS.out _ (by omega) (by omega) w
     have h65:65<=(s[j].toNat:Int):=hA.1
     have h70:(s[j].toNat:Int)<=70:=hA.2
     have hwr:IntKind.u8.wrap ((s[j].toNat:Int)+32)=(s[j].toNat:Int)+32:=by simp [IntKind.wrap,IntKind.bits,IntKind.signed];omega
     clear hsg hd hg hf hm hk4 hk hn hdx hxj df HXE1
     by_cases hd0:d < 0
     ·have HGG:Hid (F=.error (2,j)):=by
       have:=HFF.out
       rw [if_pos hd0] at this
       exact this.symm
      go_wp2
      go_quiet (fail)
      have HDA:Hid (Dd (wr.drewN nq) R s L O now de j 0 0):=HD.out
      have HGA:Hid (w.grownBy (wr.drewN nq) (some R)):=gb_drew HG.out nq
      obtain ⟨wA,hwA⟩:∃W,wr.drewN nq=W:=⟨_,rfl⟩
      rw [hwA] at HDA HGA ⊢
      obtain ⟨g0,g1,-,-,-,g5,-,-,dg⟩:=HDA.out.cells
      have dg1:=dg 1
      clear hwA dg
      go_wp2
      go_quiet (fail)
      have HDB:Hid (Dd (wA.drewN nq) R s L O now de j 0 0):=HDA.out
      have HGB:Hid (w.grownBy (wA.drewN nq) (some R)):=gb_drew HGA.out nq
      obtain ⟨wB,hwB⟩:∃W,wA.drewN nq=W:=⟨_,rfl⟩
      rw [hwB] at HDB HGB ⊢
      obtain ⟨g0',g1',-,-,-,g5',-,-,dg⟩:=HDB.out.cells
      have dg2:=dg 1
      clear hwB dg
      go_wp2_with (first | (go_at_call 144;refine (CS1.out _).mono ?_;rintro e w' ⟨rfl,rfl⟩) | (go_at_call 55;refine (CF.out _ HDB.out).mono ?_;rintro e w2 ⟨rfl,hd2,hg2⟩))
      refine bodyPost_ret (results_tmp (t:=2) rfl _ _ _) rfl ?_
      rw [HGG.out]
      exact ⟨fun n j hh=>(by cases hh),fun c p hh=>(by cases hh;exact ⟨rfl,by decide,j,hj,hd2⟩),gb_two HGB.out hg2⟩
     ·obtain ⟨d,rfl⟩:∃d':Nat,d=(d':Int):=⟨d.toNat,by omega⟩
      have HFN:Hid (four s.data.toList m (j+1) (16 * n+d)=F):=by
       have:=HFF.out
       rw [if_neg hd0] at this
       show _=_
       simpa using this
      have HN2:Hid (16 * n+d < 16 ^ (k+1)):=by
       have:=HN.out
       show _ < _
       rw [Nat.pow_succ]
       omega
      go_wp2
      go_quiet (fail)
      have HDA:Hid (Dd (wr.drewN nq) R s L O now de j 0 0):=HD.out
      have HGA:Hid (w.grownBy (wr.drewN nq) (some R)):=gb_drew HG.out nq
      obtain ⟨wA,hwA⟩:∃W,wr.drewN nq=W:=⟨_,rfl⟩
      rw [hwA] at HDA HGA ⊢
      obtain ⟨g0,g1,-,-,-,g5,-,-,dg⟩:=HDA.out.cells
      have dg1:=dg 1
      clear hwA dg
      go_wp2
      go_quiet (fail)
      have HDB:Hid (Dd (wA.drewN nq) R s L O now de j 0 0):=HDA.out
      have HGB:Hid (w.grownBy (wA.drewN nq) (some R)):=gb_drew HGA.out nq
      obtain ⟨wB,hwB⟩:∃W,wA.drewN nq=W:=⟨_,rfl⟩
      rw [hwB] at HDB HGB ⊢
      obtain ⟨g0',g1',-,-,-,g5',-,-,dg⟩:=HDB.out.cells
      have dg2:=dg 1
      clear hwB dg
      go_wp2_with (first | (go_at_call 144;refine (CS1.out _).mono ?_;rintro e w' ⟨rfl,rfl⟩))
      go_roundw
      case rel =>
       exact ⟨k+1,16 * n+d,j+1,by go_num,by go_num,by omega,HN2.out,by rw [hm2];exact HFN.out,HDB.out.setI (j+1),by omega,gb_set HGB.out 1 _⟩
      case measure=>simp [intOf];omega
    ·have CS1:Hid (∀w,Calls Tryz.prog 144 #[.int .u8 ((s[j].toNat:Int))] w fun e w'=>e=.returned (.int .i64 d)/\w'=w):=fun w=>by
      rw [if_neg hA] at hsg
      rw [hsg]
      exact CS.out _ (by omega) (by omega) w
     have hA':¬ (65<=(s[j].toNat:Int)/\(s[j].toNat:Int)<=70):=hA
     clear hsg hd hg hf hm hk4 hk hn hdx hxj df HXE1
     by_cases hd0:d < 0
     ·have HGG:Hid (F=.error (2,j)):=by
       have:=HFF.out
       rw [if_pos hd0] at this
       exact this.symm
      go_wp2
      go_quiet (fail)
      have HDA:Hid (Dd (wr.drewN nq) R s L O now de j 0 0):=HD.out
      have HGA:Hid (w.grownBy (wr.drewN nq) (some R)):=gb_drew HG.out nq
      obtain ⟨wA,hwA⟩:∃W,wr.drewN nq=W:=⟨_,rfl⟩
      rw [hwA] at HDA HGA ⊢
      obtain ⟨g0,g1,-,-,-,g5,-,-,dg⟩:=HDA.out.cells
      have dg1:=dg 1
      clear hwA dg
      go_wp2
      go_quiet (fail)
      have HDB:Hid (Dd (wA.drewN nq) R s L O now de j 0 0):=HDA.out
      have HGB:Hid (w.grownBy (wA.drewN nq) (some R)):=gb_drew HGA.out nq
      obtain ⟨wB,hwB⟩:∃W,wA.drewN nq=W:=⟨_,rfl⟩
      rw [hwB] at HDB HGB ⊢
      obtain ⟨g0',g1',-,-,-,g5',-,-,dg⟩:=HDB.out.cells
      have dg2:=dg 1
      clear hwB dg
      by_cases h65:65<=(s[j].toNat:Int)
      ·have h7:¬ (s[j].toNat:Int)<=70:=by omega
       go_wp2_with (first | (go_at_call 144;refine (CS1.out _).mono ?_;rintro e w' ⟨rfl,rfl⟩) | (go_at_call 55;refine (CF.out _ HDB.out).mono ?_;rintro e w2 ⟨rfl,hd2,hg2⟩))
       refine bodyPost_ret (results_tmp (t:=2) rfl _ _ _) rfl ?_
       rw [HGG.out]
       exact ⟨fun n j hh=>(by cases hh),fun c p hh=>(by cases hh;exact ⟨rfl,by decide,j,hj,hd2⟩),gb_two HGB.out hg2⟩
      ·have h7:(s[j].toNat:Int) < 65:=by omega
       go_wp2_with (first | (go_at_call 144;refine (CS1.out _).mono ?_;rintro e w' ⟨rfl,rfl⟩) | (go_at_call 55;refine (CF.out _ HDB.out).mono ?_;rintro e w2 ⟨rfl,hd2,hg2⟩))
       refine bodyPost_ret (results_tmp (t:=2) rfl _ _ _) rfl ?_
       rw [HGG.out]
       exact ⟨fun n j hh=>(by cases hh),fun c p hh=>(by cases hh;exact ⟨rfl,by decide,j,hj,hd2⟩),gb_two HGB.out hg2⟩
     ·obtain ⟨d,rfl⟩:∃d':Nat,d=(d':Int):=⟨d.toNat,by omega⟩
      have HFN:Hid (four s.data.toList m (j+1) (16 * n+d)=F):=by
       have:=HFF.out
       rw [if_neg hd0] at this
       show _=_
       simpa using this
      have HN2:Hid (16 * n+d < 16 ^ (k+1)):=by
       have:=HN.out
       show _ < _
       rw [Nat.pow_succ]
       omega
      go_wp2
      go_quiet (fail)
      have HDA:Hid (Dd (wr.drewN nq) R s L O now de j 0 0):=HD.out
      have HGA:Hid (w.grownBy (wr.drewN nq) (some R)):=gb_drew HG.out nq
      obtain ⟨wA,hwA⟩:∃W,wr.drewN nq=W:=⟨_,rfl⟩
      rw [hwA] at HDA HGA ⊢
      obtain ⟨g0,g1,-,-,-,g5,-,-,dg⟩:=HDA.out.cells
      have dg1:=dg 1
      clear hwA dg
      go_wp2
      go_quiet (fail)
      have HDB:Hid (Dd (wA.drewN nq) R s L O now de j 0 0):=HDA.out
      have HGB:Hid (w.grownBy (wA.drewN nq) (some R)):=gb_drew HGA.out nq
      obtain ⟨wB,hwB⟩:∃W,wA.drewN nq=W:=⟨_,rfl⟩
      rw [hwB] at HDB HGB ⊢
      obtain ⟨g0',g1',-,-,-,g5',-,-,dg⟩:=HDB.out.cells
      have dg2:=dg 1
      clear hwB dg
      by_cases h65:65<=(s[j].toNat:Int)
      ·have h7:¬ (s[j].toNat:Int)<=70:=by omega
       go_wp2_with (first | (go_at_call 144;refine (CS1.out _).mono ?_;rintro e w' ⟨rfl,rfl⟩))
       go_roundw
       case rel =>
        exact ⟨k+1,16 * n+d,j+1,by go_num,by go_num,by omega,HN2.out,by rw [hm2];exact HFN.out,HDB.out.setI (j+1),by omega,gb_set HGB.out 1 _⟩
       case measure=>simp [intOf];omega
      ·have h7:(s[j].toNat:Int) < 65:=by omega
       go_wp2_with (first | (go_at_call 144;refine (CS1.out _).mono ?_;rintro e w' ⟨rfl,rfl⟩))
       go_roundw
       case rel =>
        exact ⟨k+1,16 * n+d,j+1,by go_num,by go_num,by omega,HN2.out,by rw [hm2];exact HFN.out,HDB.out.setI (j+1),by omega,gb_set HGB.out 1 _⟩
       case measure=>simp [intOf];omega
   ·have hge:decide ((j:Int) < (s.size:Int))=false:=by simp;omega
    have hdm:d=-1:=HXE1 (by omega)
    have HGG:Hid (F=.error (2,j)):=by
     have:=HFF.out
     rw [if_pos (by omega)] at this
     exact this.symm
    clear hd hg hf hm hk4 hk hn hdx hdm HXE1 df
    go_wp2
    go_quiet (fail)
    go_wp2_with (first | (go_at_call 55;refine (CF.out _ ?_).mono ?_;exact HD.out;rintro e w2 ⟨rfl,hd2,hg2⟩))
    refine bodyPost_ret (results_tmp (t:=2) rfl _ _ _) rfl ?_
    rw [HGG.out]
    exact ⟨fun n j hh=>(by cases hh),fun c p hh=>(by cases hh;exact ⟨rfl,by decide,j,hj,hd2⟩),gb_two HG.out ⟨hg2.os,hg2.tape,hg2.output,hg2.size,hg2.block⟩⟩
end Go.Proofs.YtbgnflcebafjjaaGreatDoor
namespace Go.Proofs.YtbgnflcebafjjaaGreatDoor
open Go.RowKit Go.Maps Go.WideMaps Go.Joins
set_option linter.unusedVariables false
theorem infoNode:(Tryz.prog.info? 33).map (fun i=>(i.zero,i.size,i.bytes))=some (some (.agg #[.int .i64 0,.string ⟨#[]⟩,.string ⟨#[]⟩,.int .i64 0,.slice none 0 0,.int .i64 0]),6,80):=by kernel_rfl
theorem infoInt:(Tryz.prog.info? 3).map (fun i=>(i.zero,i.size,i.bytes))=some (some (.int .i64 0),1,8):=by kernel_rfl
def AdPost (B T:Nat) (ns:List Tn) (own:List Nat) (now p:Nat) (x:Tn) (w:World) (e:Ending) (w':World):Prop:=e=.returned (.int .i64 (ns.length:Nat))/\Tr w' B T (addN ns p x) own now/\Fr B w w'
theorem frz_app {w w3:World} {o:Obj} {r:Option Nat} {T i:Nat} {cs:Array Value} {t:TypeId} (d:w.heap[T]?=some (.cells cs t (0,0))) (hg:(w.drew.alloc o).grownBy w3 r) (hne:some T ≠ r):w3.frozen? ⟨T,i,none⟩=false:=by
 have e0:(w.drew.alloc o).heap[T]?=some (.cells cs t (0,0)):=((World.grownBy_alloc w.drew o none).block T (blk_lt (w:=w.drew) d) (by simp)).trans d
 exact Lib.frozen_of_heap ((hg.block T (blk_lt e0) hne).trans e0) i
theorem cel_app {w w3:World} {o:Obj} {r:Option Nat} {T i:Nat} {v:Value} (d:w.cell? ⟨T,i,none⟩=some v) (hg:(w.drew.alloc o).grownBy w3 r) (hne:some T ≠ r):w3.cell? ⟨T,i,none⟩=some v:=hg.cell ((World.grownBy_alloc w.drew o none).cell d (by simp)) hne
theorem node_one (x:Tn):∀u ∈ ([.int .i64 x.kd,.string ⟨x.ky.toArray⟩,.string ⟨x.tx.toArray⟩,.int .i64 x.nu,.slice none 0 0,.int .i64 (x.pl:Nat)]:List Value),u.oneCell'=true:=by
 intro u hu
 simp only [List.mem_cons,List.not_mem_nil,or_false] at hu
 rcases hu with rfl | rfl | rfl | rfl | rfl | rfl <;> rfl
theorem int_one (q:Nat):∀u ∈ ([.int .i64 (q:Nat)]:List Value),u.oneCell'=true:=by
 intro u hu
 simp only [List.mem_cons,List.not_mem_nil,or_false] at hu
 rcases hu with rfl;rfl
theorem own_slice {w:World} {B:Nat} {e:TypeId} {s:Nat} {v:Value} {n:Nat} {xs:List Value} (h:w.ownsRow B e s v n xs):∃o c,v=.slice o n c:=by
 rcases h.2 with ⟨h1,h2⟩ | ⟨g,cap,cur,h1,_⟩
 ·exact ⟨none,0,by rw [h1,h2]⟩
 ·exact ⟨_,_,h1⟩
theorem addN_app (ns:List Tn) (p:Nat) (x:Tn) (hp:p < ns.length) (hp':p < (ns++[x]).length):(ns++[x]).set p { (ns++[x])[p] with ks:=(ns++[x])[p].ks++[ns.length] }=addN ns p x:=by
 unfold addN
 rw [List.getElem?_eq_getElem hp]
 simp only [List.getElem_append_left hp]
 rw [List.set_append_left _ _ hp]
theorem add_one {w w1 w3:World} {B T:Nat} {ns:List Tn} {now N c M:Nat} {xs:List Value} {ks:Nat->Value} {n:Nat} {f:Nat->List UInt8->Option (Nat × Bool)} {kd:Int} {k:List UInt8} {pl K g cap:Nat}
  (h:TrD w1 B T ns now N c M xs ks n f) (hf:Fr B w w1) (hK:w1.heap[K]?=some (.cells #[.string ⟨k.toArray⟩,.int .i64 (pl:Nat)] 133 (0,0)))
  (ho:w3.ownsRow B 33 6 (.slice (some ⟨g,0,none⟩) (ns.length+1) cap) (ns.length+1) (xs++[.int .i64 kd,.string ⟨k.toArray⟩,.string ⟨#[]⟩,.int .i64 0,.slice none 0 0,.int .i64 (pl:Nat)]))
  (hg:(w1.drew.alloc (.cells #[.int .i64 kd,.string ⟨k.toArray⟩,.string ⟨#[]⟩,.int .i64 0,.slice none 0 0,.int .i64 (pl:Nat)] 33)).grownBy w3 (Value.slice (some ⟨N,0,none⟩) ns.length c).ownBlock) :
  ∃(g' cap':Nat) (xs':List Value) (ks':Nat->Value),TrD (w3.setCell ⟨T,0,none⟩ (.slice (some ⟨g,0,none⟩) (ns.length+1) cap)) B T (ns++[⟨kd,k,[],0,[],pl⟩]) now g' cap' M xs' ks' n f/\Fr B w (w3.setCell ⟨T,0,none⟩ (.slice (some ⟨g,0,none⟩) (ns.length+1) cap))/\(w3.setCell ⟨T,0,none⟩ (.slice (some ⟨g,0,none⟩) (ns.length+1) cap)).heap[K]?=some (.cells #[.string ⟨k.toArray⟩,.int .i64 (pl:Nat)] 133 (0,0)):=by
 have hgE:w1.grownBy (w1.drew.alloc (.cells #[.int .i64 kd,.string ⟨k.toArray⟩,.string ⟨#[]⟩,.int .i64 0,.slice none 0 0,.int .i64 (pl:Nat)] 33)) none:=by
  have:=World.grownBy_alloc w1.drew (.cells #[.int .i64 kd,.string ⟨k.toArray⟩,.string ⟨#[]⟩,.int .i64 0,.slice none 0 0,.int .i64 (pl:Nat)] 33) none
  exact ⟨this.os,this.tape,this.output,this.size,this.block⟩
 obtain ⟨w2,hw2⟩:∃w2,w1.drew.alloc (.cells #[.int .i64 kd,.string ⟨k.toArray⟩,.string ⟨#[]⟩,.int .i64 0,.slice none 0 0,.int .i64 (pl:Nat)] 33)=w2:=⟨_,rfl⟩
 rw [hw2] at hg hgE
 have hg':w2.grownBy w3 (some N):=hg
 have h2:=h.keeps (keeps_gb hgE)
 obtain ⟨cN,hcN⟩:=h2.rowT
 have hB1:B<=w1.heap.size:=Nat.le_of_lt (Nat.lt_of_le_of_lt h.bT (blk_lt h.blk))
 have hB2:B<=w2.heap.size:=Nat.le_trans hB1 hgE.size
 have hbT:=(hg'.block T (blk_lt h2.blk) (by simp only [ne_eq,Option.some.injEq];exact ne_typ h2.blk hcN (by decide))).trans h2.blk
 have hK2:w2.heap[K]?=_:=(hgE.block K (blk_lt hK) (by simp)).trans hK
 have hK3:w3.heap[K]?=_:=(hg'.block K (blk_lt hK2) (by simp only [ne_eq,Option.some.injEq];exact ne_typ hK2 hcN (by decide))).trans hK2
 refine ⟨g,cap,_,_,h2.push (L:=ns.length+1) ⟨kd,k,[],0,[],pl⟩ rfl rfl ho hg',?_,(heap_setCell_other _ _ _ _ (ne_typ hK3 hbT (by decide))).trans hK3⟩
 exact ((hf.two (Fr.gb hgE hB1)).two (Fr.row hg' hB2 (own_typ h2.row rfl).1 hcN (Or.inr (Or.inl rfl)))).two (Fr.row (gb_setc w3 T 0 _) (Nat.le_trans hB2 hg'.size) h2.bT hbT (Or.inl rfl))
theorem add_two {w w1 w3:World} {B T:Nat} {ns:List Tn} {x:Tn} {now N c M m p:Nat} {xs ys:List Value} {ks:Nat->Value} {n:Nat} {f:Nat->List UInt8->Option (Nat × Bool)} {k:List UInt8} {pl K g cap m4:Nat} {o4:Option Addr} {hpl:p < (ns++[x]).length}
  (hp:p < ns.length) (h:TrD w1 B T (ns++[x]) now N c M xs ks n f) (hf:Fr B w w1) (hK:w1.heap[K]?=some (.cells #[.string ⟨k.toArray⟩,.int .i64 (pl:Nat)] 133 (0,0))) (hv:ks p=.slice o4 m m4) (hm:((ns++[x])[p]'hpl).ks.length=m) (hys:(((ns++[x])[p]'hpl).ks.map fun q=>Value.int .i64 (q:Nat))=ys)
  (ho:w3.ownsRow B 3 1 (.slice (some ⟨g,0,none⟩) (m+1) cap) (m+1) (ys++[.int .i64 (ns.length:Nat)]))
  (hg:(w1.drew.alloc (.cells #[.int .i64 (ns.length:Nat)] 3)).grownBy w3 (Value.slice o4 m m4).ownBlock) (hat:(Value.slice o4 m m4).ownBlock=some g\/g=(w1.drew.alloc (.cells #[.int .i64 (ns.length:Nat)] 3)).heap.size) :
  ∃(g' cap':Nat) (xs':List Value) (ks':Nat->Value),TrD (w3.setCell ⟨N,p * 6+4,none⟩ (.slice (some ⟨g,0,none⟩) (m+1) cap)) B T (addN ns p x) now g' cap' M xs' ks' n f/\Fr B w (w3.setCell ⟨N,p * 6+4,none⟩ (.slice (some ⟨g,0,none⟩) (m+1) cap))/\(w3.setCell ⟨N,p * 6+4,none⟩ (.slice (some ⟨g,0,none⟩) (m+1) cap)).heap[K]?=some (.cells #[.string ⟨k.toArray⟩,.int .i64 (pl:Nat)] 133 (0,0)):=by
 have hgE:w1.grownBy (w1.drew.alloc (.cells #[.int .i64 (ns.length:Nat)] 3)) none:=by
  have:=World.grownBy_alloc w1.drew (.cells #[.int .i64 (ns.length:Nat)] 3) none
  exact ⟨this.os,this.tape,this.output,this.size,this.block⟩
 obtain ⟨w2,hw2⟩:∃w2,w1.drew.alloc (.cells #[.int .i64 (ns.length:Nat)] 3)=w2:=⟨_,rfl⟩
 rw [hw2] at hg hgE hat
 rw [<-hv] at hg hat
 have h2:=h.keeps (keeps_gb hgE)
 obtain ⟨cN,hcN⟩:=h2.rowT
 have hB1:B<=w1.heap.size:=Nat.le_of_lt (Nat.lt_of_le_of_lt h.bT (blk_lt h.blk))
 have hB2:B<=w2.heap.size:=Nat.le_trans hB1 hgE.size
 have hne:∀(b:Nat) (cs:Array Value) (t:TypeId) (fz:Nat × Nat),w2.heap[b]?=some (.cells cs t fz)->¬ t=3->w3.heap[b]?=w2.heap[b]?:=fun b cs t fz hb ht=>hg.block b (blk_lt hb) (fun e=>by
  obtain ⟨cc,hcc⟩:=h2.kidOwn hpl e.symm
  exact ne_typ hb hcc ht rfl)
 have hK2:w2.heap[K]?=_:=(hgE.block K (blk_lt hK) (by simp)).trans hK
 have hK3:w3.heap[K]?=_:=(hne _ _ _ _ hK2 (by decide)).trans hK2
 have hN3:w3.heap[N]?=_:=(hne _ _ _ _ hcN (by decide)).trans hcN
 have h3:=h2.kidp (L:=m+1) p hpl ns.length (by rw [hm]) (by rw [hys];exact ho) hg (by rcases hat with e | e;exact Or.inl e;exact Or.inr (by omega))
 rw [addN_app ns p x hp hpl] at h3
 refine ⟨_,_,_,_,h3,?_,(heap_setCell_other _ _ _ _ (ne_typ hK3 hN3 (by decide))).trans hK3⟩
 have f2:Fr B w2 w3:=by
  cases hb:(ks p).ownBlock with
  | none=>rw [hb] at hg;exact Fr.gb hg hB2
  | some q =>
   rw [hb] at hg
   obtain ⟨hq,cc,hcc⟩:=own_typ (h2.kid p hpl) hb
   exact Fr.row hg hB2 hq hcc (Or.inr (Or.inr rfl))
 exact ((hf.two (Fr.gb hgE hB1)).two f2).two (Fr.row (gb_setc w3 N _ _) (Nat.le_trans hB2 hg.size) (own_typ h2.row rfl).1 hN3 (Or.inr (Or.inl rfl)))
set_option maxRecDepth 100000 in
set_option maxHeartbeats 3200000 in
theorem tAdd_any (B T:Nat) (ns:List Tn) (own:List Nat) (now p:Nat) (kd:Int) (k:List UInt8) (pl:Nat) (w:World) (h:Tr w B T ns own now) (W:WF ns own) (hp:p < ns.length) (hfree:kdAt ns p=0->kidO ns p k=none) (hsz:ns.length+own.length<=1000000) (hk:k.length<=1048576) :
  Calls Tryz.prog 102 #[.pointer (some ⟨T,0,none⟩),.int .i64 (p:Nat),.int .i64 kd,.agg #[.string ⟨k.toArray⟩,.int .i64 (pl:Nat)]] w (AdPost B T ns own now p ⟨kd,k,[],0,[],pl⟩ w):=by
 obtain ⟨N,c,M,xs,ks,hD⟩:=h
 obtain ⟨i0,hi0,hii⟩:=Option.map_eq_some_iff.1 infoNode
 simp only [Prod.mk.injEq] at hii
 obtain ⟨hz0,hz1,hzb⟩:=hii
 obtain ⟨j0,hj0,hjj⟩:=Option.map_eq_some_iff.1 infoInt
 simp only [Prod.mk.injEq] at hjj
 obtain ⟨hy0,hy1,hyb⟩:=hjj
 have hone:=node_one ⟨kd,k,[],0,[],pl⟩
 simp only [] at hone
 have hone2:=int_one ns.length
 obtain ⟨K,hKe⟩:∃K,w.heap.size=K:=⟨_,rfl⟩
 have hgK:w.grownBy (w.alloc (.cells #[.string ⟨k.toArray⟩,.int .i64 (pl:Nat)] 133)) none:=World.grownBy_alloc w _ none
 have hbK:=heap_alloc_new w (.cells #[.string ⟨k.toArray⟩,.int .i64 (pl:Nat)] 133)
 have hsK:(w.alloc (.cells #[.string ⟨k.toArray⟩,.int .i64 (pl:Nat)] 133)).heap.size=K+1:=by rw [World.size_alloc,hKe]
 rw [hKe] at hbK
 have hD1:=hD.keeps (keeps_gb hgK)
 have hBs:B<=w.heap.size:=Nat.le_of_lt (Nat.lt_of_le_of_lt hD.bT (blk_lt hD.blk))
 have HF1:Hid (Fr B w (w.alloc (.cells #[.string ⟨k.toArray⟩,.int .i64 (pl:Nat)] 133))):=Fr.gb hgK hBs
 obtain ⟨w1,hw1⟩:∃w1,w.alloc (.cells #[.string ⟨k.toArray⟩,.int .i64 (pl:Nat)] 133)=w1:=⟨_,rfl⟩
 rw [hw1] at hbK hsK hD1 HF1
 have hrow:=hD1.row
 obtain ⟨cN,hcN⟩:=hD1.rowT
 have HFAR:Hid (some T ≠ (Value.slice (some ⟨N,0,none⟩) ns.length c).ownBlock):=by
  show some T ≠ some N
  simp only [ne_eq,Option.some.injEq]
  exact ne_typ hD1.blk hcN (by decide)
 have d1:=hD1.cells.1
 have dA:(w1.alloc (.cells #[.int .i64 kd,.string ⟨k.toArray⟩,.string ⟨#[]⟩,.int .i64 0,.slice none 0 0,.int .i64 (pl:Nat)] 33)).cell? ⟨T,0,none⟩=some (.slice (some ⟨N,0,none⟩) ns.length c):=(World.grownBy_alloc w1 _ none).cell d1 (by simp)
 have HBT:Hid (w1.heap[T]?=some (.cells #[.slice (some ⟨N,0,none⟩) ns.length c,.map (some M),.int .i64 (now:Nat)] 64 (0,0))):=hD1.blk
 have HFK:Hid (some K ≠ (Value.slice (some ⟨N,0,none⟩) ns.length c).ownBlock):=by
  show some K ≠ some N
  simp only [ne_eq,Option.some.injEq]
  exact ne_typ hbK hcN (by decide)
 have k1:w1.cell? ⟨K,0,none⟩=some (.string ⟨k.toArray⟩):=by rw [Lib.cell_of_heap hbK];rfl
 have k2:w1.cell? ⟨K,1,none⟩=some (.int .i64 (pl:Nat)):=by rw [Lib.cell_of_heap hbK];rfl
 have HD1:Hid (TrD w1 B T ns now N c M xs ks (ns.length+own.length) (hold ns own)):=hD1
 have HBK:Hid (w1.heap[K]?=some (.cells #[.string ⟨k.toArray⟩,.int .i64 (pl:Nat)] 133 (0,0))):=hbK
 have HW:Hid (WF ns own):=W
 have HBE:Hid ((w1.drew.alloc (.cells #[.int .i64 kd,.string ⟨k.toArray⟩,.string ⟨#[]⟩,.int .i64 0,.slice none 0 0,.int .i64 (pl:Nat)] 33)).heap[K+1]?=some (.cells #[.int .i64 kd,.string ⟨k.toArray⟩,.string ⟨#[]⟩,.int .i64 0,.slice none 0 0,.int .i64 (pl:Nat)] 33 (0,0))):=by
  have:=heap_alloc_new w1.drew (.cells #[.int .i64 kd,.string ⟨k.toArray⟩,.string ⟨#[]⟩,.int .i64 0,.slice none 0 0,.int .i64 (pl:Nat)] 33)
  rw [show w1.drew.heap.size=K+1 from hsK] at this
  exact this
 have HFREE:Hid (kdAt ns p=0->kidO ns p k=none):=hfree
 have HP:Hid (p < ns.length):=hp
 clear hD hgK hbK hD1 hcN W hfree
 go_enter Tryz.func102,Tryz.ntmps102
 go_upto_region 2 with fail
 go_cut [] from 15 (fun wx=>∃(g cap:Nat) (xs':List Value) (ks':Nat->Value),TrD wx B T (ns++[⟨kd,k,[],0,[],pl⟩]) now g cap M xs' ks' (ns.length+own.length) (hold ns own)/\Fr B w wx/\wx.heap[K]?=some (.cells #[.string ⟨k.toArray⟩,.int .i64 (pl:Nat)] 133 (0,0)))
 case first =>
  go_region_law (refine step_append_lies _ (by rfl) _ _ _ (by rfl) B 33 i0 _ 6 80 Tryz.underlying22 hi0 hz0 hz1 hzb (by rfl) (by decide) (.slice (some ⟨N,0,none⟩) ns.length c) ns.length xs (by rfl) (hrow.drew.alloc _) ⟨K+1,0,none⟩ 1 1 [.int .i64 kd,.string ⟨k.toArray⟩,.string ⟨#[]⟩,.int .i64 0,.slice none 0 0,.int .i64 (pl:Nat)] (by rfl) (by rfl) (World.news_of_block HBE.out) hone (by omega) (by unfold maxLen;omega) (by omega) (by simp;omega) _ rfl ?_;intro g cap w3 hown3 hgrow hat hlt3;have hc3:w3.cell? ⟨T,0,none⟩=some (.slice (some ⟨N,0,none⟩) ns.length c):=cel_app d1 hgrow HFAR.out;have hfz3:w3.frozen? ⟨T,0,none⟩=false:=frz_app HBT.out hgrow HFAR.out)
  all_goals (
   go_wp2_with fail
   go_meet
   exact add_one HD1.out HF1.out HBK.out hown3 hgrow)
 case rest =>
  obtain ⟨N1,c1,xs1,ks1,hD2,hF2,hb2⟩:=hcut
  obtain ⟨L,hL⟩:∃L,(ns++[(⟨kd,k,[],0,[],pl⟩:Tn)]).length=L:=⟨_,rfl⟩
  have hpl:p < (ns++[(⟨kd,k,[],0,[],pl⟩:Tn)]).length:=by simp;omega
  have hpL:p < L:=by omega
  have d1':=hD2.cells.1
  have hrowk:=hD2.kid p hpl
  obtain ⟨o4,m4,hv4⟩:=own_slice hrowk
  obtain ⟨-,-,-,-,e4,-,ef⟩:=hD2.node p hpl
  obtain ⟨cN1,hcN1⟩:=hD2.rowT
  rw [hv4] at e4 hrowk
  have hm4:((ns++[(⟨kd,k,[],0,[],pl⟩:Tn)])[p]'hpl).ks.length<=1000000:=by
   have:=HW.out.len p
   unfold ksAt at this
   rw [List.getElem?_eq_getElem HP.out] at this
   simp only [] at this
   rw [List.getElem_append_left HP.out]
   omega
  obtain ⟨m,hm⟩:∃m,((ns++[(⟨kd,k,[],0,[],pl⟩:Tn)])[p]'hpl).ks.length=m:=⟨_,rfl⟩
  rw [hm] at hm4 hv4 e4 hrowk
  rw [hL] at d1'
  obtain ⟨ys,hys⟩:∃ys:List Value,(((ns++[(⟨kd,k,[],0,[],pl⟩:Tn)])[p]'hpl).ks.map fun q=>Value.int .i64 (q:Nat))=ys:=⟨_,rfl⟩
  rw [hys] at hrowk
  have HFA:Hid (some T ≠ (Value.slice o4 m m4).ownBlock):=by
   show _ ≠ _
   intro e
   obtain ⟨cc,hcc⟩:=(own_typ hrowk e.symm).2
   exact ne_typ hD2.blk hcc (by decide) rfl
  have HFN:Hid (some N1 ≠ (Value.slice o4 m m4).ownBlock):=by
   show _ ≠ _
   intro e
   obtain ⟨cc,hcc⟩:=(own_typ hrowk e.symm).2
   exact ne_typ hcN1 hcc (by decide) rfl
  have e4A:(wc.alloc (.cells #[.int .i64 (ns.length:Nat)] 3)).cell? ⟨N1,p * 6+4,none⟩=some (.slice o4 m m4):=(World.grownBy_alloc wc _ none).cell e4 (by simp)
  have d1A:(wc.alloc (.cells #[.int .i64 (ns.length:Nat)] 3)).cell? ⟨T,0,none⟩=some (.slice (some ⟨N1,0,none⟩) L c1):=(World.grownBy_alloc wc _ none).cell d1' (by simp)
  obtain ⟨Z,hZ⟩:∃Z,wc.heap.size=Z:=⟨_,rfl⟩
  have hBZ:B<=wc.heap.size:=Nat.le_of_lt (Nat.lt_of_le_of_lt hD2.bT (blk_lt hD2.blk))
  have HBZ:Hid ((wc.drew.alloc (.cells #[.int .i64 (ns.length:Nat)] 3)).heap[Z]?=some (.cells #[.int .i64 (ns.length:Nat)] 3 (0,0))):=by
   have:=heap_alloc_new wc.drew (.cells #[.int .i64 (ns.length:Nat)] 3)
   rw [show wc.drew.heap.size=Z from hZ] at this
   exact this
  have HN1:Hid (wc.heap[N1]?=some (.cells cN1 33 (0,0))):=hcN1
  have HD2:Hid (TrD wc B T (ns++[⟨kd,k,[],0,[],pl⟩]) now N1 c1 M xs1 ks1 (ns.length+own.length) (hold ns own)):=hD2
  have HF2:Hid (Fr B w wc):=hF2
  have HB2:Hid (wc.heap[K]?=some (.cells #[.string ⟨k.toArray⟩,.int .i64 (pl:Nat)] 133 (0,0))):=hb2
  have HV4:Hid (ks1 p=.slice o4 m m4):=hv4
  have HMM:Hid (((ns++[(⟨kd,k,[],0,[],pl⟩:Tn)])[p]'hpl).ks.length=m):=hm
  have HYS:Hid ((((ns++[(⟨kd,k,[],0,[],pl⟩:Tn)])[p]'hpl).ks.map fun q=>Value.int .i64 (q:Nat))=ys):=hys
  have HPL:Hid (p < (ns++[(⟨kd,k,[],0,[],pl⟩:Tn)]).length):=hpl
  have HLL:Hid ((ns++[(⟨kd,k,[],0,[],pl⟩:Tn)]).length=L):=hL
  clear hD2 hF2 hb2 hcN1 hv4 hm hys hL
  go_upto_region 3 with fail
  go_cut [] from 30 (fun wx=>∃(g cap:Nat) (xs':List Value) (ks':Nat->Value),TrD wx B T (addN ns p ⟨kd,k,[],0,[],pl⟩) now g cap M xs' ks' (ns.length+own.length) (hold ns own)/\Fr B w wx/\wx.heap[K]?=some (.cells #[.string ⟨k.toArray⟩,.int .i64 (pl:Nat)] 133 (0,0)))
  case first =>
   go_region_law (refine step_append_lies _ (by rfl) _ _ _ (by rfl) B 3 j0 _ 1 8 Tryz.underlying31 hj0 hy0 hy1 hyb (by rfl) (by decide) (.slice o4 m m4) m ys (by rfl) (hrowk.drew.alloc _) ⟨Z,0,none⟩ 1 1 [.int .i64 (ns.length:Nat)] (by rfl) (by rfl) (World.news_of_block HBZ.out) hone2 (by omega) (by unfold maxLen;omega) (by omega) (by simp;omega) _ rfl ?_;intro g cap w3 hown3 hgrow hat hlt3;have hc3:w3.cell? ⟨N1,p * 6+4,none⟩=some (.slice o4 m m4):=cel_app e4 hgrow HFN.out;have hfz3:w3.frozen? ⟨N1,p * 6+4,none⟩=false:=frz_app HN1.out hgrow HFN.out;have hcT3:w3.cell? ⟨T,0,none⟩=some (.slice (some ⟨N1,0,none⟩) L c1):=cel_app d1' hgrow HFA.out)
   all_goals (
    go_wp2_with fail
    go_meet
    exact add_two HP.out HD2.out HF2.out HB2.out HV4.out HMM.out HYS.out hown3 hgrow hat)
  case rest =>
   obtain ⟨N2,c2,xs2,ks2,hD3,hF3,hb3⟩:=hcut
   have hp3:p < (addN ns p ⟨kd,k,[],0,[],pl⟩).length:=by rw [addN_len];omega
   obtain ⟨t0,t1,-,-⟩:=hD3.cells
   obtain ⟨n0,-,-,-,-,-,-⟩:=hD3.node p hp3
   have kk:wc.cell? ⟨K,0,none⟩=some (.string ⟨k.toArray⟩):=by rw [Lib.cell_of_heap hb3];rfl
   have hkd:((addN ns p ⟨kd,k,[],0,[],pl⟩)[p]'hp3).kd=kdAt ns p:=by
    have h1:=kdAt_addN ns p ⟨kd,k,[],0,[],pl⟩ HP.out p
    rw [if_neg (by have:=HP.out;omega)] at h1
    rw [<-h1]
    unfold kdAt
    rw [List.getElem?_eq_getElem hp3]
   rw [hkd] at n0
   obtain ⟨z,hz⟩:∃z,kdAt ns p=z:=⟨_,rfl⟩
   obtain ⟨L3,hL3⟩:∃L,(addN ns p ⟨kd,k,[],0,[],pl⟩).length=L:=⟨_,rfl⟩
   have hpL3:p < L3:=by omega
   rw [hL3] at t0
   rw [hz] at n0
   have HF3:Hid (Fr B w wc):=hF3
   have HD3:Hid (TrD wc B T (addN ns p ⟨kd,k,[],0,[],pl⟩) now N2 c2 M xs2 ks2 (ns.length+own.length) (hold ns own)):=hD3
   have hBc:B<=wc.heap.size:=Nat.le_of_lt (Nat.lt_of_le_of_lt hD3.bT (blk_lt hD3.blk))
   obtain ⟨w5,hr5,hm5,hg5⟩:=(hD3.map.block (w':=wc.drew) rfl).put p k (by omega) hk (by omega) ns.length false
   unfold keyV at hr5
   have HM5:Hid (HM w5 M (ns.length+own.length+1) (putF (hold ns own) p k (ns.length,false))):=hm5
   have HG5:Hid (wc.drew.grownBy w5 (some M)):=hg5
   have HZ:Hid (kdAt ns p=z):=hz
   have HL3:Hid ((addN ns p ⟨kd,k,[],0,[],pl⟩).length=ns.length+1):=addN_len _ _ _
   clear hD3 hF3 hb3 hkd hL3 hz hm5 hg5 hp3
   by_cases hz0:z=0
   ·have hb:(z == 0)=true:=by simp [hz0]
    have HZ0:Hid (kdAt ns p=0):=HZ.out.trans hz0
    clear hz0
    go_wp2
    go_region
    all_goals (
     go_wp2
     refine bodyPost_ret (results_tmp (t:=8) rfl _ _ _) rfl ⟨rfl,⟨N2,c2,M,xs2,ks2,?_⟩,?_⟩
     ·rw [hold_add_table ns own p ⟨kd,k,[],0,[],pl⟩ rfl HP.out HW.out HZ0.out (HFREE.out HZ0.out),HL3.out]
      have h1:=(HD3.out.keeps (w':=wc.drew) (keeps_gb ⟨rfl,rfl,rfl,Nat.le_refl _,fun _ _ _=>rfl⟩)).mapd HM5.out HG5.out
      exact ⟨h1.blk,h1.bT,h1.row,h1.cel,h1.kid,h1.apart,h1.map.mono (by omega),h1.bM⟩
     ·obtain ⟨es,cc,hm0⟩:=HD3.out.map.map
      exact (HF3.out.two (Fr.gb (w':=wc.drew) ⟨rfl,rfl,rfl,Nat.le_refl _,fun _ _ _=>rfl⟩ hBc)).two (Fr.mapd HG5.out hBc HD3.out.bM hm0))
   ·have hb:(z == 0)=false:=by simp [hz0]
    have HZ0:Hid (¬ kdAt ns p=0):=by show ¬ _;rw [HZ.out];exact hz0
    clear hz0
    go_wp2
    refine bodyPost_ret (results_tmp (t:=8) rfl _ _ _) rfl ⟨rfl,⟨N2,c2,M,xs2,ks2,?_⟩,HF3.out⟩
    have h1:=HD3.out
    rw [hold_add_other ns own p ⟨kd,k,[],0,[],pl⟩ rfl HP.out HW.out HZ0.out,HL3.out]
    exact ⟨h1.blk,h1.bT,h1.row,h1.cel,h1.kid,h1.apart,h1.map.mono (by omega),h1.bM⟩
end Go.Proofs.YtbgnflcebafjjaaGreatDoor
namespace Go.Proofs.YtbgnflcebafjjaaGreatDoor
open Go.RowKit Go.Maps Go.WideMaps Go.Joins
set_option linter.unusedVariables false
def kidI (ns:List Tn) (t:Nat) (k:List UInt8):Int:=match kidO ns t k with | some q=>(q:Int) | none=>-1
theorem find_at {α:Type} (p:α->Bool):∀(l:List α) (i:Nat) (hi:i < l.length),(∀j (hj:j < l.length),j < i->p l[j]=false)->p l[i]=true->l.find? p=some l[i]
 | x :: l,0,_,_,h=>by simp [show p x=true from h]
 | x :: l,i+1,hi,ha,h=>by
  have h0:p x=false:=ha 0 (by simp) (by omega)
  rw [List.find?_cons,h0]
  exact find_at p l i (by simpa using hi) (fun j hj hji=>ha (j+1) (by simpa using hj) (by omega)) h
theorem find_no {α:Type} (p:α->Bool):∀(l:List α),(∀j (hj:j < l.length),p l[j]=false)->l.find? p=none
 | [],_=>rfl
 | x :: l,h=>by
  have h0:p x=false:=h 0 (by simp)
  rw [List.find?_cons,h0]
  exact find_no p l fun j hj=>h (j+1) (by simpa using hj)
set_option maxRecDepth 100000 in
set_option maxHeartbeats 1600000 in
theorem dKid_any (w:World) (B P:Nat) (ns:List Tn) (m:Nat) (own:List Nat) (N c:Nat) (OV:Value) (xs:List Value) (ks:Nat->Value) (t:Nat) (k:List UInt8) (h:DtD w B P ns m own (.slice (some ⟨N,0,none⟩) ns.length c) OV xs ks) (W:WF ns own) (ht:t < ns.length) (hn:ns.length<=1000000) :
  Calls Tryz.prog 56 #[.slice (some ⟨N,0,none⟩) ns.length c,.int .i64 (t:Nat),.string ⟨k.toArray⟩] w fun e w'=>e=.returned (.int .i64 (kidI ns t k))/\w'=w:=by
 obtain ⟨-,-,-,-,e4,-,-⟩:=h.node t ht
 have hrow:=h.kid t ht
 obtain ⟨o,cp,hv⟩:=own_slice hrow
 rw [hv] at e4 hrow
 have hks:ksAt ns t=ns[t].ks:=by unfold ksAt;rw [List.getElem?_eq_getElem ht]
 have hlen:ns[t].ks.length<=1000000:=by have:=W.len t;rw [hks] at this;omega
 have HKI:Hid (kidI ns t k=match (ns[t].ks.find? (kyB ns k)) with | some q=>(q:Int) | none=>-1):=by
  show _=_
  unfold kidI
  rw [kidO_eq,hks]
 have HC:Hid (∀i (hi:i < ns[t].ks.length),∃g,o=some ⟨g,0,none⟩/\w.cell? ⟨g,i,none⟩=some (.int .i64 (ns[t].ks[i]:Nat))):=fun i hi=>by
  rcases hrow.2 with ⟨e1,e2⟩ | ⟨g,cap,cur,e1,_⟩
  ·omega
  ·injection e1 with e1 _ _
   refine ⟨g,e1,?_⟩
   have:=hrow.cells (g:=g) (by rw [e1];rfl) i (.int .i64 (ns[t].ks[i]:Nat)) (by rw [List.getElem?_map,List.getElem?_eq_getElem hi];rfl)
   rw [zero_off] at this
   exact this
 have HL:Hid (∀i (hi:i < ns[t].ks.length),ns[t].ks[i] < ns.length):=fun i hi=>W.lt t _ (by rw [hks];exact List.getElem_mem hi)
 have HN:Hid (∀q (hq:q < ns.length),w.cell? ⟨N,q * 6+1,none⟩=some (.string ⟨ns[q].ky.toArray⟩)/\kyB ns k q=decide (ns[q].ky=k)):=fun q hq=>⟨(h.node q hq).2.1,by unfold kyB;rw [List.getElem?_eq_getElem hq]⟩
 obtain ⟨K,hK⟩:∃K,ns[t].ks=K:=⟨_,rfl⟩
 rw [hK] at HKI HC HL hlen e4
 obtain ⟨r,hr⟩:∃r,kidI ns t k=r:=⟨_,rfl⟩
 rw [hr] at HKI ⊢
 obtain ⟨L,hL⟩:∃L,ns.length=L:=⟨_,rfl⟩
 have HLL:Hid (ns.length=L):=hL
 obtain ⟨M,hM⟩:∃M,K.length=M:=⟨_,rfl⟩
 have HMM:Hid (K.length=M):=hM
 rw [hL] at ht hn ⊢
 rw [hM] at hlen e4
 clear hrow hv hks h W hK hr hL hM
 go_enter Tryz.func56,Tryz.ntmps56
 go_wp2
 go_loopw [7] (fun vi wr=>∃i:Nat,vi=.int .i64 (i:Nat)/\i<=M/\(∀j (hj:j < K.length),j < i->kyB ns k K[j]=false)/\w=wr) (fun vi _=>M - (intOf vi).toNat)
 case atStart=>exact ⟨0,rfl,by omega,fun j hj h=>absurd h (by omega),rfl⟩
 case round =>
  obtain ⟨i,rfl,hi,hpre,rfl⟩:=hrel
  have HPRE:Hid (∀j (hj:j < K.length),j < i->kyB ns k K[j]=false):=hpre
  clear hpre
  by_cases hlt:i < M
  ·have hlt':i < K.length:=by rw [HMM.out];exact hlt
   obtain ⟨g,hg,cg⟩:=HC.out i hlt'
   have hq:=HL.out i hlt'
   have hkb:=HN.out K[i] hq
   obtain ⟨q,hqe⟩:∃q,K[i]=q:=⟨_,rfl⟩
   have HQE:Hid (K[i]=q):=hqe
   rw [HLL.out] at hq
   rw [hqe] at cg hq
   have hq':q < ns.length:=by rw [HLL.out];exact hq
   have HKB:Hid (w.cell? ⟨N,q * 6+1,none⟩=some (.string ⟨(ns[q]'hq').ky.toArray⟩)/\kyB ns k q=decide ((ns[q]'hq').ky=k)):=HN.out q hq'
   obtain ⟨y,hy⟩:∃y,(ns[q]'hq').ky=y:=⟨_,rfl⟩
   rw [hy] at HKB
   have cy:=HKB.out.1
   have HKY:Hid (kyB ns k q=decide (y=k)):=HKB.out.2
   subst hg
   clear hkb hqe hy HKB
   by_cases hyk:y=k
   ·have hse:(y == k)=true:=by simpa using hyk
    have HRR:Hid (r=(q:Int)):=by
     show r=_
     rw [HKI.out,find_at (kyB ns k) K i (by rw [HMM.out];exact hlt) HPRE.out (by rw [HQE.out,HKY.out,decide_eq_true hyk]),HQE.out]
    clear hyk
    go_wp2
    go_ret
    exact ⟨ret_int HRR.out.symm,rfl⟩
   ·have hse:(y == k)=false:=by simpa using hyk
    have HP2:Hid (∀j (hj:j < K.length),j < i+1->kyB ns k K[j]=false):=fun j hj hji=>by
     by_cases hj':j < i
     ·exact HPRE.out j hj hj'
     ·have e:j=i:=by omega
      subst e
      rw [HQE.out,HKY.out,decide_eq_false hyk]
    clear hyk
    go_wp2
    refine ⟨⟨i+1,by go_num,by omega,HP2.out,by first | trivial | rfl⟩,?_⟩
    simp [intOf]
    omega
  ·have hgeM:M<=i:=by omega
   have HRR:Hid (r=-1):=by
    show r=_
    rw [HKI.out,find_no (kyB ns k) K fun j hj=>HPRE.out j hj (by rw [HMM.out] at hj;omega)]
   go_wp2
   go_ret
   exact ⟨ret_int HRR.out.symm,rfl⟩
end Go.Proofs.YtbgnflcebafjjaaGreatDoor
