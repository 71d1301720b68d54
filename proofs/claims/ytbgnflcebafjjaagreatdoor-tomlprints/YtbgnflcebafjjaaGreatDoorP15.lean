import Derived.Test.YtbgnflcebafjjaaGreatDoorP14
import Derived.Test.YtbgnflcebafjjaaGreatDoorP03
import Derived.Laws.BytesString
import Derived.Test.YtbgnflcebafjjaaGreatDoorP12
import Derived.Test.YtbgnflcebafjjaaGreatDoorP05
import Derived.Shelf.SlSortCmp.NoneTotal
import Derived.Test.YtbgnflcebafjjaaGreatDoorProg
import Derived.Shelf.Small.Strs
import Derived.Test.YtbgnflcebafjjaaGreatDoorP01
import Derived.Test.YtbgnflcebafjjaaGreatDoorP06
import Derived.Test.YtbgnflcebafjjaaGreatDoorP11
import Derived.BigQuiet
namespace Go.Proofs.YtbgnflcebafjjaaGreatDoor
open Go.RowKit Go.Joins
set_option linter.unusedVariables false
theorem cv_one (w:World) (c:Int):(convert 74 9 (.slice (some ⟨w.heap.size,0,none⟩) 1 1)).run Tryz.prog (w.alloc (.cells #[.int .u8 c] 5))=.ok (.string ⟨#[UInt8.ofNat c.toNat]⟩) (w.alloc (.cells #[.int .u8 c] 5)):=by
 rw [run_convert_bytes_string _ 74 9 5 _ 1 1 Tryz.underlying74 Tryz.underlying5 Tryz.underlying9]
 rw [run_bytesToString _ _ 1 1 [c] (run_loadCells_list _ _ [.int .u8 c] (by
  intro j v hj
  match j,hj with
  | 0,hj=>simp at hj;subst hj;simp [Addr.add]))]
 rfl
theorem cv_two (w:World) (c d:Int):(convert 74 9 (.slice (some ⟨w.heap.size,0,none⟩) 2 2)).run Tryz.prog (w.alloc (.cells #[.int .u8 c,.int .u8 d] 5))=.ok (.string ⟨#[UInt8.ofNat c.toNat,UInt8.ofNat d.toNat]⟩) (w.alloc (.cells #[.int .u8 c,.int .u8 d] 5)):=by
 rw [run_convert_bytes_string _ 74 9 5 _ 2 2 Tryz.underlying74 Tryz.underlying5 Tryz.underlying9]
 rw [run_bytesToString _ _ 2 2 [c,d] (run_loadCells_list _ _ [.int .u8 c,.int .u8 d] (by
  intro j v hj
  match j,hj with
  | 0,hj=>simp at hj;subst hj;simp [Addr.add]
  | 1,hj=>simp at hj;subst hj;simp [Addr.add]))]
 rfl
theorem cv_three (w:World) (c d e:Int):(convert 74 9 (.slice (some ⟨w.heap.size,0,none⟩) 3 3)).run Tryz.prog (w.alloc (.cells #[.int .u8 c,.int .u8 d,.int .u8 e] 5))=.ok (.string ⟨#[UInt8.ofNat c.toNat,UInt8.ofNat d.toNat,UInt8.ofNat e.toNat]⟩) (w.alloc (.cells #[.int .u8 c,.int .u8 d,.int .u8 e] 5)):=by
 rw [run_convert_bytes_string _ 74 9 5 _ 3 3 Tryz.underlying74 Tryz.underlying5 Tryz.underlying9]
 rw [run_bytesToString _ _ 3 3 [c,d,e] (run_loadCells_list _ _ [.int .u8 c,.int .u8 d,.int .u8 e] (by
  intro j v hj
  match j,hj with
  | 0,hj=>simp at hj;subst hj;simp [Addr.add]
  | 1,hj=>simp at hj;subst hj;simp [Addr.add]
  | 2,hj=>simp at hj;subst hj;simp [Addr.add]))]
 rfl
theorem add_str (x y:List UInt8) (wx:World) (h:x.length+y.length<=9223372036854775807):(Op.stringOp .add ⟨x.toArray⟩ ⟨y.toArray⟩).run Tryz.prog wx=.ok (.string ⟨(x++y).toArray⟩) wx:=by
 rw [run_string_add_sum wx _ _ (by
  show x.toArray.size+y.toArray.size<=_
  simpa using h),ByteArray.mk_append_mk]
theorem ret_str {a b:List UInt8} (h:a=b):Ending.returned (.string ⟨a.toArray⟩)=.returned (.string ⟨b.toArray⟩):=by rw [h]
set_option maxRecDepth 100000 in
set_option maxHeartbeats 1600000 in
theorem dWritten_any (n:Nat) (hn:n < 65536) (w:World):Calls Tryz.prog 124 #[.int .i64 (n:Nat)] w fun e w'=>e=.returned (.string ⟨(wrt n).toArray⟩)/\w.grownBy w' none:=by
 have k1:=cv_one w
 have k2:=cv_two w
 have k3:=cv_three w
 have e64:(n:Int).tdiv 64=((n / 64:Nat):Int):=by rw [Int.tdiv_eq_ediv_of_nonneg (by omega)];omega
 have m64:(n:Int).tmod 64=((n % 64:Nat):Int):=by rw [Int.tmod_eq_emod_of_nonneg (by omega)];omega
 have e4096:(n:Int).tdiv 4096=((n / 4096:Nat):Int):=by rw [Int.tdiv_eq_ediv_of_nonneg (by omega)];omega
 have m6464:((n / 64:Nat):Int).tmod 64=((n / 64 % 64:Nat):Int):=by rw [Int.tmod_eq_emod_of_nonneg (by omega)];omega
 by_cases h1:n < 128
 ·have HW:Hid (wrt n=[UInt8.ofNat n]):=by show _=_;unfold wrt;rw [if_pos h1]
  clear k2 k3 e64 m64 e4096 m6464
  go_enter Tryz.func124,Tryz.ntmps124
  go_wp2
  go_ret
  refine ⟨ret_str ?_,World.grownBy_alloc _ _ none⟩
  rw [HW.out]
 ·by_cases h2:n < 2048
  ·have HW:Hid (wrt n=[UInt8.ofNat (192+n / 64),UInt8.ofNat (128+n % 64)]):=by show _=_;unfold wrt;rw [if_neg h1,if_pos h2]
   clear k1 k3 e4096 m6464
   go_enter Tryz.func124,Tryz.ntmps124
   go_wp2
   go_ret
   refine ⟨ret_str ?_,World.grownBy_alloc _ _ none⟩
   rw [HW.out]
  ·have HW:Hid (wrt n=[UInt8.ofNat (224+n / 4096),UInt8.ofNat (128+n / 64 % 64),UInt8.ofNat (128+n % 64)]):=by show _=_;unfold wrt;rw [if_neg h1,if_neg h2]
   clear k1 k2
   go_enter Tryz.func124,Tryz.ntmps124
   go_wp2
   go_ret
   refine ⟨ret_str ?_,World.grownBy_alloc _ _ none⟩
   rw [HW.out]
theorem hexV_sign (x:Int) (h0:0<=x) (h1:x < 256):hexV x=sgN (if 65<=x/\x<=70 then x+32 else x):=by
 unfold hexV sgN isDg
 simp only [decide_eq_true_eq]
 repeat' split
 all_goals omega
def FoPost (R:Nat) (s:ByteArray) (L O:Value) (now de:Nat) (g:Rs (Nat × Nat)) (w:World) (e:Ending) (w':World):Prop:=(∀n j,g=.ok (n,j)->e=.returned (.int .i64 (n:Nat))/\Ds w' R s L O now de (.ok j))/\(∀c p,g=.error (c,p)->e=.returned (.int .i64 0)/\Ds w' R s L O now de (.error (c,p)))/\w.grownBy w' (some R)
set_option maxRecDepth 100000 in
set_option maxHeartbeats 1600000 in
theorem dFour_any (R:Nat) (s:ByteArray) (L O:Value) (now de i:Nat) (w:World) (h:Dd w R s L O now de i 0 0) (hi:i<=s.size) (hs:s.size<=1048576) :
  Calls Tryz.prog 123 #[.pointer (some ⟨R,0,none⟩)] w (FoPost R s L O now de (four s.data.toList 4 i 0) w):=by
 have hl:s.data.toList.length=s.size:=by simp
 have HFS:Hid (∀k i n,four s.data.toList (k+1) i n=if hexV (nx s.data.toList i) < 0 then .error (2,i) else four s.data.toList k (i+1) (16 * n+(hexV (nx s.data.toList i)).toNat)):=four_step _
 have HHB:Hid (∀c,-1<=hexV c/\hexV c < 16):=hexV_bound
 have HX:Hid (∀k (hk:k < s.size),nx s.data.toList k=(s[k].toNat:Int)):=byte_at s
 have HXE:Hid (∀k,s.size<=k->hexV (nx s.data.toList k)=-1):=fun k hk=>by rw [nx_end _ _ (by omega)];exact hexV_end
 have CS:Hid (∀c,0<=c->c < 256->∀w,Calls Tryz.prog 144 #[.int .u8 c] w fun e w'=>e=.returned (.int .i64 (sgN c))/\w'=w):=fun c h0 h1 w=>dSign_any c h0 h1 w
 have HSG:Hid (∀x,0<=x->x < 256->hexV x=sgN (if 65<=x/\x<=70 then x+32 else x)):=hexV_sign
 obtain ⟨F,hF⟩:∃F,four s.data.toList 4 i 0=F:=⟨_,rfl⟩
 have HF:Hid (four s.data.toList 4 i 0=F):=hF
 rw [hF]
 have H0:Hid (Dd w R s L O now de i 0 0):=h
 clear h hF
 go_enter Tryz.func123,Tryz.ntmps123
 go_wp2
 go_loopw [3,4] (fun vn vk wr=>∃k n j:Nat,vn=.int .i64 (n:Nat)/\vk=.int .i64 (k:Nat)/\k<=4/\n < 16 ^ k/\four s.data.toList (4 - k) j n=F/\Dd wr R s L O now de j 0 0/\j<=s.size/\w.grownBy wr (some R)) (fun _ vk _=>4 - (intOf vk).toNat)
 case atStart=>exact ⟨0,0,i,rfl,rfl,by omega,by omega,HF.out,H0.out,hi,gb_refl _ _⟩
 case round =>
  obtain ⟨k,n,j,rfl,rfl,hk,hn,hf,hd,hj,hg⟩:=hrel
  have HD:Hid (Dd _ R s L O now de j 0 0):=hd
  have HG:Hid (w.grownBy _ (some R)):=hg
  by_cases hk4:k=4
  ·subst hk4
   have HFF:Hid (F=.ok (n,j)):=hf.symm
   clear hd hg hf hn hk
   go_wp2
   refine bodyPost_ret (results_tmp (t:=2) rfl _ _ _) rfl ?_
   rw [HFF.out]
   exact ⟨fun n j hh=>(by cases hh;exact ⟨rfl,hj,HD.out⟩),fun c p hh=>(by cases hh),HG.out⟩
  ·have hk3:k < 4:=by omega
   obtain ⟨m,hm⟩:∃m,4 - k=m+1:=⟨3 - k,by omega⟩
   have hm2:4 - (k+1)=m:=by omega
   rw [hm,HFS.out] at hf
   have hn4:n < 4096:=Nat.lt_of_lt_of_le hn (Nat.pow_le_pow_right (by decide) (show k<=3 by omega))
   have HN:Hid (n < 16 ^ k):=hn
   have hxb:=HHB.out (nx s.data.toList j)
   obtain ⟨c0,c1,-,-,-,c5,-,-,df⟩:=hd.cells
   have df1:=df 1
   have HXE1:=HXE.out j
   obtain ⟨d,hdx⟩:∃d,hexV (nx s.data.toList j)=d:=⟨_,rfl⟩
   rw [hdx] at hf hxb HXE1
   have HFF:Hid ((if d < 0 then .error (2,j) else four s.data.toList m (j+1) (16 * n+d.toNat))=F):=hf
   obtain ⟨hd1,hd2⟩:=hxb
   have CF:Hid (∀wx,Dd wx R s L O now de j 0 0->Calls Tryz.prog 55 #[.pointer (some ⟨R,0,none⟩),.int .i64 2,.int .i64 (j:Nat)] wx fun en w'=>en=.returned (.tuple #[])/\Dd w' R s L O now de j 2 j/\wx.grownBy w' (some R)):=fun wx hg=>dFail_yes R s L O now de j 2 j wx hg
   by_cases hlt:j < s.size
   ·have hlt':decide ((j:Int) < (s.size:Int))=true:=by simp;omega
    have hxj:=HX.out j hlt
    have hu:=s[j].toNat_lt
    have hsg:=HSG.out (nx s.data.toList j) (by omega) (by omega)
    rw [hdx,hxj] at hsg
    by_cases hA:65<=(s[j].toNat:Int)/\(s[j].toNat:Int)<=70
    ·have CS1:Hid (∀w,Calls Tryz.prog 144 #[.int .u8 ((s[j].toNat:Int)+32)] w fun e w'=>e=.returned (.int .i64 d)/\w'=w):=fun w=>by
      rw [if_pos hA] at hsg
      rw [hsg]
      exact CS.out _ (by omega) (by omega) w
     have h65:65<=(s[j].toNat:Int):=hA.1
     have h70:(s[j].toNat:Int)<=70:=hA.2
     have hwr:IntKind.u8.wrap ((s[j].toNat:Int)+32)=(s[j].toNat:Int)+32:=by simp [IntKind.wrap,IntKind.bits,IntKind.signed];omega
     clear hsg hd hg hf hm hk4 hk hn hdx hxj df HXE1
     by_cases hd0:d < 0
     ·have HGG:Hid (F=.error (2,j)):=by
       have:=HFF.out
       rw [if_pos hd0] at this
       exact this.symm
      go_wp2
      go_quiet (fail)
      have HDA:Hid (Dd (wr.drewN nq) R s L O now de j 0 0):=HD.out
      have HGA:Hid (w.grownBy (wr.drewN nq) (some R)):=gb_drew HG.out nq
      obtain ⟨wA,hwA⟩:∃W,wr.drewN nq=W:=⟨_,rfl⟩
      rw [hwA] at HDA HGA ⊢
      obtain ⟨g0,g1,-,-,-,g5,-,-,dg⟩:=HDA.out.cells
      have dg1:=dg 1
      clear hwA dg
      go_wp2
      go_quiet (fail)
      have HDB:Hid (Dd (wA.drewN nq) R s L O now de j 0 0):=HDA.out
      have HGB:Hid (w.grownBy (wA.drewN nq) (some R)):=gb_drew HGA.out nq
      obtain ⟨wB,hwB⟩:∃W,wA.drewN nq=W:=⟨_,rfl⟩
      rw [hwB] at HDB HGB ⊢
      obtain ⟨g0',g1',-,-,-,g5',-,-,dg⟩:=HDB.out.cells
      have dg2:=dg 1
      clear hwB dg
      go_wp2_with (first | (go_at_call 144;refine (CS1.out _).mono ?_;rintro e w' ⟨rfl,rfl⟩) | (go_at_call 55;refine (CF.out _ HDB.out).mono ?_;rintro e w2 ⟨rfl,hd2,hg2⟩))
      refine bodyPost_ret (results_tmp (t:=2) rfl _ _ _) rfl ?_
      rw [HGG.out]
      exact ⟨fun n j hh=>(by cases hh),fun c p hh=>(by cases hh;exact ⟨rfl,by decide,j,hj,hd2⟩),gb_two HGB.out hg2⟩
     ·obtain ⟨d,rfl⟩:∃d':Nat,d=(d':Int):=⟨d.toNat,by omega⟩
      have HFN:Hid (four s.data.toList m (j+1) (16 * n+d)=F):=by
       have:=HFF.out
       rw [if_neg hd0] at this
       show _=_
       simpa using this
      have HN2:Hid (16 * n+d < 16 ^ (k+1)):=by
       have:=HN.out
       show _ < _
       rw [Nat.pow_succ]
       omega
      go_wp2
      go_quiet (fail)
      have HDA:Hid (Dd (wr.drewN nq) R s L O now de j 0 0):=HD.out
      have HGA:Hid (w.grownBy (wr.drewN nq) (some R)):=gb_drew HG.out nq
      obtain ⟨wA,hwA⟩:∃W,wr.drewN nq=W:=⟨_,rfl⟩
      rw [hwA] at HDA HGA ⊢
      obtain ⟨g0,g1,-,-,-,g5,-,-,dg⟩:=HDA.out.cells
      have dg1:=dg 1
      clear hwA dg
      go_wp2
      go_quiet (fail)
      have HDB:Hid (Dd (wA.drewN nq) R s L O now de j 0 0):=HDA.out
      have HGB:Hid (w.grownBy (wA.drewN nq) (some R)):=gb_drew HGA.out nq
      obtain ⟨wB,hwB⟩:∃W,wA.drewN nq=W:=⟨_,rfl⟩
      rw [hwB] at HDB HGB ⊢
      obtain ⟨g0',g1',-,-,-,g5',-,-,dg⟩:=HDB.out.cells
      have dg2:=dg 1
      clear hwB dg
      go_wp2_with (first | (go_at_call 144;refine (CS1.out _).mono ?_;rintro e w' ⟨rfl,rfl⟩))
      go_roundw
      case rel =>
       exact ⟨k+1,16 * n+d,j+1,by go_num,by go_num,by omega,HN2.out,by rw [hm2];exact HFN.out,HDB.out.setI (j+1),by omega,gb_set HGB.out 1 _⟩
      case measure=>simp [intOf];omega
    ·have CS1:Hid (∀w,Calls Tryz.prog 144 #[.int .u8 ((s[j].toNat:Int))] w fun e w'=>e=.returned (.int .i64 d)/\w'=w):=fun w=>by
      rw [if_neg hA] at hsg
      rw [hsg]
      exact CS.out _ (by omega) (by omega) w
     have hA':¬ (65<=(s[j].toNat:Int)/\(s[j].toNat:Int)<=70):=hA
     clear hsg hd hg hf hm hk4 hk hn hdx hxj df HXE1
     by_cases hd0:d < 0
     ·have HGG:Hid (F=.error (2,j)):=by
       have:=HFF.out
       rw [if_pos hd0] at this
       exact this.symm
      go_wp2
      go_quiet (fail)
      have HDA:Hid (Dd (wr.drewN nq) R s L O now de j 0 0):=HD.out
      have HGA:Hid (w.grownBy (wr.drewN nq) (some R)):=gb_drew HG.out nq
      obtain ⟨wA,hwA⟩:∃W,wr.drewN nq=W:=⟨_,rfl⟩
      rw [hwA] at HDA HGA ⊢
      obtain ⟨g0,g1,-,-,-,g5,-,-,dg⟩:=HDA.out.cells
      have dg1:=dg 1
      clear hwA dg
      go_wp2
      go_quiet (fail)
      have HDB:Hid (Dd (wA.drewN nq) R s L O now de j 0 0):=HDA.out
      have HGB:Hid (w.grownBy (wA.drewN nq) (some R)):=gb_drew HGA.out nq
      obtain ⟨wB,hwB⟩:∃W,wA.drewN nq=W:=⟨_,rfl⟩
      rw [hwB] at HDB HGB ⊢
      obtain ⟨g0',g1',-,-,-,g5',-,-,dg⟩:=HDB.out.cells
      have dg2:=dg 1
      clear hwB dg
      by_cases h65:65<=(s[j].toNat:Int)
      ·have h7:¬ (s[j].toNat:Int)<=70:=by omega
       go_wp2_with (first | (go_at_call 144;refine (CS1.out _).mono ?_;rintro e w' ⟨rfl,rfl⟩) | (go_at_call 55;refine (CF.out _ HDB.out).mono ?_;rintro e w2 ⟨rfl,hd2,hg2⟩))
       refine bodyPost_ret (results_tmp (t:=2) rfl _ _ _) rfl ?_
       rw [HGG.out]
       exact ⟨fun n j hh=>(by cases hh),fun c p hh=>(by cases hh;exact ⟨rfl,by decide,j,hj,hd2⟩),gb_two HGB.out hg2⟩
      ·have h7:(s[j].toNat:Int) < 65:=by omega
       go_wp2_with (first | (go_at_call 144;refine (CS1.out _).mono ?_;rintro e w' ⟨rfl,rfl⟩) | (go_at_call 55;refine (CF.out _ HDB.out).mono ?_;rintro e w2 ⟨rfl,hd2,hg2⟩))
       refine bodyPost_ret (results_tmp (t:=2) rfl _ _ _) rfl ?_
       rw [HGG.out]
       exact ⟨fun n j hh=>(by cases hh),fun c p hh=>(by cases hh;exact ⟨rfl,by decide,j,hj,hd2⟩),gb_two HGB.out hg2⟩
     ·obtain ⟨d,rfl⟩:∃d':Nat,d=(d':Int):=⟨d.toNat,by omega⟩
      have HFN:Hid (four s.data.toList m (j+1) (16 * n+d)=F):=by
       have:=HFF.out
       rw [if_neg hd0] at this
       show _=_
       simpa using this
      have HN2:Hid (16 * n+d < 16 ^ (k+1)):=by
       have:=HN.out
       show _ < _
       rw [Nat.pow_succ]
       omega
      go_wp2
      go_quiet (fail)
      have HDA:Hid (Dd (wr.drewN nq) R s L O now de j 0 0):=HD.out
      have HGA:Hid (w.grownBy (wr.drewN nq) (some R)):=gb_drew HG.out nq
      obtain ⟨wA,hwA⟩:∃W,wr.drewN nq=W:=⟨_,rfl⟩
      rw [hwA] at HDA HGA ⊢
      obtain ⟨g0,g1,-,-,-,g5,-,-,dg⟩:=HDA.out.cells
      have dg1:=dg 1
      clear hwA dg
      go_wp2
      go_quiet (fail)
      have HDB:Hid (Dd (wA.drewN nq) R s L O now de j 0 0):=HDA.out
      have HGB:Hid (w.grownBy (wA.drewN nq) (some R)):=gb_drew HGA.out nq
      obtain ⟨wB,hwB⟩:∃W,wA.drewN nq=W:=⟨_,rfl⟩
      rw [hwB] at HDB HGB ⊢
      obtain ⟨g0',g1',-,-,-,g5',-,-,dg⟩:=HDB.out.cells
      have dg2:=dg 1
      clear hwB dg
      by_cases h65:65<=(s[j].toNat:Int)
      ·have h7:¬ (s[j].toNat:Int)<=70:=by omega
       go_wp2_with (first | (go_at_call 144;refine (CS1.out _).mono ?_;rintro e w' ⟨rfl,rfl⟩))
       go_roundw
       case rel =>
        exact ⟨k+1,16 * n+d,j+1,by go_num,by go_num,by omega,HN2.out,by rw [hm2];exact HFN.out,HDB.out.setI (j+1),by omega,gb_set HGB.out 1 _⟩
       case measure=>simp [intOf];omega
      ·have h7:(s[j].toNat:Int) < 65:=by omega
       go_wp2_with (first | (go_at_call 144;refine (CS1.out _).mono ?_;rintro e w' ⟨rfl,rfl⟩))
       go_roundw
       case rel =>
        exact ⟨k+1,16 * n+d,j+1,by go_num,by go_num,by omega,HN2.out,by rw [hm2];exact HFN.out,HDB.out.setI (j+1),by omega,gb_set HGB.out 1 _⟩
       case measure=>simp [intOf];omega
   ·have hge:decide ((j:Int) < (s.size:Int))=false:=by simp;omega
    have hdm:d=-1:=HXE1 (by omega)
    have HGG:Hid (F=.error (2,j)):=by
     have:=HFF.out
     rw [if_pos (by omega)] at this
     exact this.symm
    clear hd hg hf hm hk4 hk hn hdx hdm HXE1 df
    go_wp2
    go_quiet (fail)
    go_wp2_with (first | (go_at_call 55;refine (CF.out _ ?_).mono ?_;exact HD.out;rintro e w2 ⟨rfl,hd2,hg2⟩))
    refine bodyPost_ret (results_tmp (t:=2) rfl _ _ _) rfl ?_
    rw [HGG.out]
    exact ⟨fun n j hh=>(by cases hh),fun c p hh=>(by cases hh;exact ⟨rfl,by decide,j,hj,hd2⟩),gb_two HG.out ⟨hg2.os,hg2.tape,hg2.output,hg2.size,hg2.block⟩⟩
end Go.Proofs.YtbgnflcebafjjaaGreatDoor
namespace Go.Proofs.YtbgnflcebafjjaaGreatDoor
open Go.RowKit Go.Maps Go.WideMaps Go.Joins
set_option linter.unusedVariables false
def kidI (ns:List Tn) (t:Nat) (k:List UInt8):Int:=match kidO ns t k with | some q=>(q:Int) | none=>-1
theorem find_at {α:Type} (p:α->Bool):∀(l:List α) (i:Nat) (hi:i < l.length),(∀j (hj:j < l.length),j < i->p l[j]=false)->p l[i]=true->l.find? p=some l[i]
 | x :: l,0,_,_,h=>by simp [show p x=true from h]
 | x :: l,i+1,hi,ha,h=>by
  have h0:p x=false:=ha 0 (by simp) (by omega)
  rw [List.find?_cons,h0]
  exact find_at p l i (by simpa using hi) (fun j hj hji=>ha (j+1) (by simpa using hj) (by omega)) h
theorem find_no {α:Type} (p:α->Bool):∀(l:List α),(∀j (hj:j < l.length),p l[j]=false)->l.find? p=none
 | [],_=>rfl
 | x :: l,h=>by
  have h0:p x=false:=h 0 (by simp)
  rw [List.find?_cons,h0]
  exact find_no p l fun j hj=>h (j+1) (by simpa using hj)
set_option maxRecDepth 100000 in
set_option maxHeartbeats 1600000 in
theorem dKid_any (w:World) (B P:Nat) (ns:List Tn) (m:Nat) (own:List Nat) (N c:Nat) (OV:Value) (xs:List Value) (ks:Nat->Value) (t:Nat) (k:List UInt8) (h:DtD w B P ns m own (.slice (some ⟨N,0,none⟩) ns.length c) OV xs ks) (W:WF ns own) (ht:t < ns.length) (hn:ns.length<=1000000) :
  Calls Tryz.prog 56 #[.slice (some ⟨N,0,none⟩) ns.length c,.int .i64 (t:Nat),.string ⟨k.toArray⟩] w fun e w'=>e=.returned (.int .i64 (kidI ns t k))/\w'=w:=by
 obtain ⟨-,-,-,-,e4,-,-⟩:=h.node t ht
 have hrow:=h.kid t ht
 obtain ⟨o,cp,hv⟩:=own_slice hrow
 rw [hv] at e4 hrow
 have hks:ksAt ns t=ns[t].ks:=by unfold ksAt;rw [List.getElem?_eq_getElem ht]
 have hlen:ns[t].ks.length<=1000000:=by have:=W.len t;rw [hks] at this;omega
 have HKI:Hid (kidI ns t k=match (ns[t].ks.find? (kyB ns k)) with | some q=>(q:Int) | none=>-1):=by
  show _=_
  unfold kidI
  rw [kidO_eq,hks]
 have HC:Hid (∀i (hi:i < ns[t].ks.length),∃g,o=some ⟨g,0,none⟩/\w.cell? ⟨g,i,none⟩=some (.int .i64 (ns[t].ks[i]:Nat))):=fun i hi=>by
  rcases hrow.2 with ⟨e1,e2⟩ | ⟨g,cap,cur,e1,_⟩
  ·omega
  ·injection e1 with e1 _ _
   refine ⟨g,e1,?_⟩
   have:=hrow.cells (g:=g) (by rw [e1];rfl) i (.int .i64 (ns[t].ks[i]:Nat)) (by rw [List.getElem?_map,List.getElem?_eq_getElem hi];rfl)
   rw [zero_off] at this
   exact this
 have HL:Hid (∀i (hi:i < ns[t].ks.length),ns[t].ks[i] < ns.length):=fun i hi=>W.lt t _ (by rw [hks];exact List.getElem_mem hi)
 have HN:Hid (∀q (hq:q < ns.length),w.cell? ⟨N,q * 6+1,none⟩=some (.string ⟨ns[q].ky.toArray⟩)/\kyB ns k q=decide (ns[q].ky=k)):=fun q hq=>⟨(h.node q hq).2.1,by unfold kyB;rw [List.getElem?_eq_getElem hq]⟩
 obtain ⟨K,hK⟩:∃K,ns[t].ks=K:=⟨_,rfl⟩
 rw [hK] at HKI HC HL hlen e4
 obtain ⟨r,hr⟩:∃r,kidI ns t k=r:=⟨_,rfl⟩
 rw [hr] at HKI ⊢
 obtain ⟨L,hL⟩:∃L,ns.length=L:=⟨_,rfl⟩
 have HLL:Hid (ns.length=L):=hL
 obtain ⟨M,hM⟩:∃M,K.length=M:=⟨_,rfl⟩
 have HMM:Hid (K.length=M):=hM
 rw [hL] at ht hn ⊢
 rw [hM] at hlen e4
 clear hrow hv hks h W hK hr hL hM
 go_enter Tryz.func56,Tryz.ntmps56
 go_wp2
 go_loopw [7] (fun vi wr=>∃i:Nat,vi=.int .i64 (i:Nat)/\i<=M/\(∀j (hj:j < K.length),j < i->kyB ns k K[j]=false)/\w=wr) (fun vi _=>M - (intOf vi).toNat)
 case atStart=>exact ⟨0,rfl,by omega,fun j hj h=>absurd h (by omega),rfl⟩
 case round =>
  obtain ⟨i,rfl,hi,hpre,rfl⟩:=hrel
  have HPRE:Hid (∀j (hj:j < K.length),j < i->kyB ns k K[j]=false):=hpre
  clear hpre
  by_cases hlt:i < M
  ·have hlt':i < K.length:=by rw [HMM.out];exact hlt
   obtain ⟨g,hg,cg⟩:=HC.out i hlt'
   have hq:=HL.out i hlt'
   have hkb:=HN.out K[i] hq
   obtain ⟨q,hqe⟩:∃q,K[i]=q:=⟨_,rfl⟩
   have HQE:Hid (K[i]=q):=hqe
   rw [HLL.out] at hq
   rw [hqe] at cg hq
   have hq':q < ns.length:=by rw [HLL.out];exact hq
   have HKB:Hid (w.cell? ⟨N,q * 6+1,none⟩=some (.string ⟨(ns[q]'hq').ky.toArray⟩)/\kyB ns k q=decide ((ns[q]'hq').ky=k)):=HN.out q hq'
   obtain ⟨y,hy⟩:∃y,(ns[q]'hq').ky=y:=⟨_,rfl⟩
   rw [hy] at HKB
   have cy:=HKB.out.1
   have HKY:Hid (kyB ns k q=decide (y=k)):=HKB.out.2
   subst hg
   clear hkb hqe hy HKB
   by_cases hyk:y=k
   ·have hse:(y == k)=true:=by simpa using hyk
    have HRR:Hid (r=(q:Int)):=by
     show r=_
     rw [HKI.out,find_at (kyB ns k) K i (by rw [HMM.out];exact hlt) HPRE.out (by rw [HQE.out,HKY.out,decide_eq_true hyk]),HQE.out]
    clear hyk
    go_wp2
    go_ret
    exact ⟨ret_int HRR.out.symm,rfl⟩
   ·have hse:(y == k)=false:=by simpa using hyk
    have HP2:Hid (∀j (hj:j < K.length),j < i+1->kyB ns k K[j]=false):=fun j hj hji=>by
     by_cases hj':j < i
     ·exact HPRE.out j hj hj'
     ·have e:j=i:=by omega
      subst e
      rw [HQE.out,HKY.out,decide_eq_false hyk]
    clear hyk
    go_wp2
    refine ⟨⟨i+1,by go_num,by omega,HP2.out,by first | trivial | rfl⟩,?_⟩
    simp [intOf]
    omega
  ·have hgeM:M<=i:=by omega
   have HRR:Hid (r=-1):=by
    show r=_
    rw [HKI.out,find_no (kyB ns k) K fun j hj=>HPRE.out j hj (by rw [HMM.out] at hj;omega)]
   go_wp2
   go_ret
   exact ⟨ret_int HRR.out.symm,rfl⟩
end Go.Proofs.YtbgnflcebafjjaaGreatDoor
namespace Go.Proofs.YtbgnflcebafjjaaGreatDoor
open Go.RowKit Go.Maps Go.WideMaps Go.Joins
set_option linter.unusedVariables false
def NuS (w:World) (v:Value) (l:List Nat):Prop:=∃o c,v=.slice o l.length c/\∀i (hi:i < l.length),∃g,o=some ⟨g,0,none⟩/\w.cell? ⟨g,i,none⟩=some (.int .i64 (l[i]:Nat))
theorem NuS.of {w:World} {B:Nat} {v:Value} {l:List Nat} (h:w.ownsRow B 3 1 v l.length (l.map fun q=>.int .i64 (q:Nat))):NuS w v l:=by
 obtain ⟨o,c,hv⟩:=own_slice h
 refine ⟨o,c,hv,fun i hi=>?_⟩
 rw [hv] at h
 rcases h.2 with ⟨e1,e2⟩ | ⟨g,cap,cur,e1,_⟩
 ·omega
 ·injection e1 with e1 _ _
  refine ⟨g,e1,?_⟩
  have:=h.cells (g:=g) (by rw [e1];rfl) i (.int .i64 (l[i]:Nat)) (by rw [List.getElem?_map,List.getElem?_eq_getElem hi];rfl)
  rw [zero_off] at this
  exact this
end Go.Proofs.YtbgnflcebafjjaaGreatDoor
namespace Go.Proofs.YtbgnflcebafjjaaGreatDoor
open Go.RowKit Go.Maps Go.WideMaps Go.Joins
set_option linter.unusedVariables false
def NoS (w:World) (v:Value) (ns:List Tn):Prop:=∃o c,v=.slice o ns.length c/\∀i (hi:i < ns.length),∃g k,o=some ⟨g,0,none⟩/\w.cell? ⟨g,i * 6,none⟩=some (.int .i64 ns[i].kd)/\w.cell? ⟨g,i * 6+1,none⟩=some (.string ⟨ns[i].ky.toArray⟩)/\w.cell? ⟨g,i * 6+2,none⟩=some (.string ⟨ns[i].tx.toArray⟩)/\w.cell? ⟨g,i * 6+3,none⟩=some (.int .i64 ns[i].nu)/\w.cell? ⟨g,i * 6+4,none⟩=some k/\w.cell? ⟨g,i * 6+5,none⟩=some (.int .i64 (ns[i].pl:Nat))/\NuS w k ns[i].ks
theorem NuS.grow {w w':World} {v:Value} {l:List Nat} (h:NuS w v l) (hg:w.grownBy w' none):NuS w' v l:=by
 obtain ⟨o,c,hv,hc⟩:=h
 refine ⟨o,c,hv,fun i hi=>?_⟩
 obtain ⟨g,h1,h2⟩:=hc i hi
 exact ⟨g,h1,hg.cell h2 (by simp)⟩
end Go.Proofs.YtbgnflcebafjjaaGreatDoor
namespace Go.Proofs
open Go.Shelf
def Tryz.laysSort_ren:Go.Shelf.Ren:=⟨fun | 6=>87 | 14=>110 | 15=>111 | 20=>126 | 21=>127 | 22=>128 | 23=>129 | 24=>130 | 25=>131 | 26=>132 | 27=>133 | 28=>134 | 29=>135 | 46=>145 | 47=>146 | 48=>147 | 49=>148 | 50=>149 | 57=>163 | n=>n,fun | 22=>31 | 23=>154 | 24=>3 | 25=>156 | 26=>157 | 27=>31 | 28=>154 | 29=>156 | 30=>157 | 37=>173 | 38=>174 | 39=>175 | 40=>91 | 41=>173 | 42=>91 | 44=>184 | 45=>185 | 46=>186 | 47=>187 | 48=>188 | 49=>189 | 50=>190 | 51=>191 | 52=>192 | 53=>193 | 54=>194 | 55=>195 | 56=>184 | 57=>187 | 58=>188 | 59=>189 | 60=>191 | 66=>201 | 67=>202 | 68=>203 | 69=>204 | 70=>205 | 71=>206 | 72=>204 | 73=>206 | 76=>223 | 77=>224 | 78=>225 | 79=>225 | 81=>85 | 82=>240 | 83=>241 | 84=>242 | 85=>243 | 86=>244 | 87=>90 | 88=>246 | 89=>101 | 90=>247 | 91=>126 | 92=>248 | 93=>249 | 94=>250 | 95=>251 | 96=>93 | n=>n,fun n=>n⟩
set_option maxRecDepth 100000 in
theorem Tryz.laysSort:Go.Proofs.SlLaysF.n6 Tryz.prog Tryz.laysSort_ren:={
 mixed:=by kernel_rfl
 f6:=⟨ "slices.SortFunc[[]int,int]",by decide,Tryz.func87.trans (congrArg some (by kernel_rfl))⟩
 f14:=⟨ "slices.pdqsortCmpFunc[int]",by decide,Tryz.func110.trans (congrArg some (by kernel_rfl))⟩
 f15:=Tryz.func111.trans (congrArg some (by kernel_rfl))
 f20:=⟨ "slices.insertionSortCmpFunc[int]",by decide,Tryz.func126.trans (congrArg some (by kernel_rfl))⟩
 f21:=⟨ "slices.heapSortCmpFunc[int]",by decide,Tryz.func127.trans (congrArg some (by kernel_rfl))⟩
 f22:=⟨ "slices.breakPatternsCmpFunc[int]",by decide,Tryz.func128.trans (congrArg some (by kernel_rfl))⟩
 f23:=⟨ "slices.choosePivotCmpFunc[int]",by decide,Tryz.func129.trans (congrArg some (by kernel_rfl))⟩
 f24:=⟨ "slices.reverseRangeCmpFunc[int]",by decide,Tryz.func130.trans (congrArg some (by kernel_rfl))⟩
 f25:=⟨ "slices.partialInsertionSortCmpFunc[int]",by decide,Tryz.func131.trans (congrArg some (by kernel_rfl))⟩
 f26:=⟨ "slices.partitionEqualCmpFunc[int]",by decide,Tryz.func132.trans (congrArg some (by kernel_rfl))⟩
 f27:=⟨ "slices.partitionCmpFunc[int]",by decide,Tryz.func133.trans (congrArg some (by kernel_rfl))⟩
 f28:=Tryz.func134.trans (congrArg some (by kernel_rfl))
 f29:=Tryz.func135.trans (congrArg some (by kernel_rfl))
 f46:=⟨ "slices.siftDownCmpFunc[int]",by decide,Tryz.func145.trans (congrArg some (by kernel_rfl))⟩
 f47:=Tryz.func146.trans (congrArg some (by kernel_rfl))
 f48:=Tryz.func147.trans (congrArg some (by kernel_rfl))
 f49:=⟨ "slices.medianAdjacentCmpFunc[int]",by decide,Tryz.func148.trans (congrArg some (by kernel_rfl))⟩
 f50:=⟨ "slices.medianCmpFunc[int]",by decide,Tryz.func149.trans (congrArg some (by kernel_rfl))⟩
 f57:=⟨ "slices.order2CmpFunc[int]",by decide,Tryz.func163.trans (congrArg some (by kernel_rfl))⟩
 t0:=Tryz.underlying0
 a0:=Tryz.isAgg0
 z0:=Tryz.sizeOf0
 v0:=Tryz.zeroValue0
 t3:=Tryz.underlying3
 a3:=Tryz.isAgg3
 z3:=Tryz.sizeOf3
 v3:=Tryz.zeroValue3
 t4:=Tryz.underlying4
 a4:=Tryz.isAgg4
 z4:=Tryz.sizeOf4
 v4:=Tryz.zeroValue4
 t5:=Tryz.underlying5
 a5:=Tryz.isAgg5
 z5:=Tryz.sizeOf5
 v5:=Tryz.zeroValue5
 t9:=Tryz.underlying9
 a9:=Tryz.isAgg9
 z9:=Tryz.sizeOf9
 v9:=Tryz.zeroValue9
 t22:=Tryz.underlying31
 a22:=Tryz.isAgg31
 z22:=Tryz.sizeOf31
 v22:=Tryz.zeroValue31
 a24:=Tryz.isAgg3
 z24:=Tryz.sizeOf3
 t25:=Tryz.underlying156
 a25:=Tryz.isAgg156
 z25:=Tryz.sizeOf156
 v25:=Tryz.zeroValue156
 t39:=Tryz.underlying175
 a39:=Tryz.isAgg175
 z39:=Tryz.sizeOf175
 v39:=Tryz.zeroValue175
 t45:=Tryz.underlying185
 a45:=Tryz.isAgg185
 z45:=Tryz.sizeOf185
 v45:=Tryz.zeroValue185
 t46:=Tryz.underlying186
 a46:=Tryz.isAgg186
 z46:=Tryz.sizeOf186
 v46:=Tryz.zeroValue186
 t50:=Tryz.underlying190
 a50:=Tryz.isAgg190
 z50:=Tryz.sizeOf190
 v50:=Tryz.zeroValue190
 t53:=Tryz.underlying193
 a53:=Tryz.isAgg193
 z53:=Tryz.sizeOf193
 v53:=Tryz.zeroValue193
 t55:=Tryz.underlying195
 a55:=Tryz.isAgg195
 z55:=Tryz.sizeOf195
 v55:=Tryz.zeroValue195
 t66:=Tryz.underlying201
 a66:=Tryz.isAgg201
 z66:=Tryz.sizeOf201
 v66:=Tryz.zeroValue201
 t70:=Tryz.underlying205
 a70:=Tryz.isAgg205
 z70:=Tryz.sizeOf205
 v70:=Tryz.zeroValue205
 t76:=Tryz.underlying223
 a76:=Tryz.isAgg223
 z76:=Tryz.sizeOf223
 v76:=Tryz.zeroValue223
 t77:=Tryz.underlying224
 a77:=Tryz.isAgg224
 z77:=Tryz.sizeOf224
 v77:=Tryz.zeroValue224 }
end Go.Proofs
namespace Go.Proofs
open Go.Shelf
def Tryz.lays106_ren:Go.Shelf.Ren:=⟨fun | 106=>89 | 213=>112 | 265=>136 | n=>n,fun | 22=>41 | 27=>155 | 28=>31 | 31=>108 | 34=>54 | 35=>157 | 37=>74 | 40=>212 | 41=>71 | 42=>158 | 43=>156 | 46=>175 | 47=>174 | 48=>200 | 49=>258 | 51=>193 | 52=>192 | 53=>195 | 54=>194 | 55=>177 | 69=>87 | 70=>73 | 71=>75 | 72=>76 | 73=>79 | 74=>42 | 75=>43 | 76=>118 | 77=>119 | 78=>121 | 79=>180 | 80=>85 | 81=>90 | 83=>127 | 84=>196 | 85=>218 | 86=>219 | 94=>125 | 104=>34 | 105=>181 | 106=>182 | 108=>233 | 111=>91 | 112=>159 | 114=>211 | 119=>213 | 126=>198 | 127=>126 | 128=>199 | 131=>190 | 137=>214 | 138=>215 | 139=>216 | 143=>235 | 144=>236 | 145=>237 | 164=>93 | 165=>176 | 167=>217 | 168=>220 | 169=>221 | 170=>222 | 171=>207 | 172=>208 | 173=>209 | 174=>210 | 175=>229 | 176=>230 | 182=>185 | 183=>186 | 209=>231 | 210=>232 | 211=>226 | 212=>227 | 213=>228 | 214=>234 | 218=>201 | 219=>202 | 220=>203 | 222=>205 | 228=>223 | 229=>224 | 232=>238 | 233=>239 | 238=>240 | 239=>241 | 240=>242 | 241=>243 | 242=>244 | 243=>246 | 244=>101 | 245=>247 | 246=>248 | 247=>249 | 248=>250 | 249=>251 | n=>n,fun | 1=>6 | 3=>7 | 4=>8 | 15=>10 | 16=>11 | 17=>9 | 18=>12 | 19=>13 | n=>n⟩
set_option maxRecDepth 100000 in
theorem Tryz.lays106:Go.Proofs.Lays.n106 Tryz.prog Tryz.lays106_ren:={
 mixed:=by kernel_rfl
 f106:=Tryz.func89.trans (congrArg some (by kernel_rfl))
 f213:=Tryz.func112.trans (congrArg some (by kernel_rfl))
 f265:=Tryz.func136.trans (congrArg some (by kernel_rfl))
 t3:=Tryz.underlying3
 a3:=Tryz.isAgg3
 z3:=Tryz.sizeOf3
 v3:=Tryz.zeroValue3
 t9:=Tryz.underlying9
 a9:=Tryz.isAgg9
 z9:=Tryz.sizeOf9
 v9:=Tryz.zeroValue9 }
end Go.Proofs
namespace Go.Proofs.YtbgnflcebafjjaaGreatDoor
open Go.RowKit Go.Maps Go.WideMaps Go.Joins Go.Shelf Go.Sort
set_option linter.unusedVariables false
theorem ints_one (l:List Nat):∀u ∈ l.map (fun q:Nat=>Value.int .i64 (q:Nat)),u.oneCell'=true:=by
 intro u hu
 obtain ⟨b,-,rfl⟩:=List.mem_map.1 hu
 rfl
theorem eq_nil_yes (w:World) (c:Nat):(binOp .eql 31 (.slice none 0 c) (.slice none 0 0)).run Tryz.prog w=.ok (.bool true) w:=by
 have h:∀d:Nat,(Op.equalIn (d+1) 31 (.slice none 0 c) (.slice none 0 0)).run Tryz.prog w=.ok true w:=fun d=>by
  simp [Op.equalIn,run_underlying Tryz.underlying31]
 simp only [binOp]
 simp [Op.equal,Op.maxDepth,h 9999]
theorem eq_nil_no (w:World) (a:Addr) (n c:Nat):(binOp .eql 31 (.slice (some a) n c) (.slice none 0 0)).run Tryz.prog w=.ok (.bool false) w:=by
 have h:∀d:Nat,(Op.equalIn (d+1) 31 (.slice (some a) n c) (.slice none 0 0)).run Tryz.prog w=.ok false w:=fun d=>by
  simp [Op.equalIn,run_underlying Tryz.underlying31]
 simp only [binOp]
 simp [Op.equal,Op.maxDepth,h 9999]
set_option maxRecDepth 100000 in
set_option maxHeartbeats 1600000 in
theorem sClone (v:Value) (l:List Nat) (w:World) (h:NuS w v l) (hl:l.length<=1000000) :
  Calls Tryz.prog 86 #[v] w fun e w'=>∃v',e=.returned v'/\w'.ownsRow w.heap.size 3 1 v' l.length (l.map fun q=>.int .i64 (q:Nat))/\w.grownBy w' none:=by
 obtain ⟨o,c,rfl,hc⟩:=h
 obtain ⟨j0,hj0,hjj⟩:=Option.map_eq_some_iff.1 infoInt
 simp only [Prod.mk.injEq] at hjj
 obtain ⟨hy0,hy1,hyb⟩:=hjj
 cases o with
 | none =>
  have hl0:l=[]:=by
   cases l with
   | nil=>rfl
   | cons a r =>
    obtain ⟨g,e,-⟩:=hc 0 (by simp)
    cases e
  subst hl0
  clear hc
  have hq:=eq_nil_yes w c
  go_enter Tryz.func86,Tryz.ntmps86
  go_wp2
  refine bodyPost_ret (results_tmp (t:=2) rfl _ _ _) rfl ?_
  exact ⟨_,rfl,World.ownsRow_nil _ _ _ _,gb_refl _ _⟩
 | some ad =>
  have hnews:∀j u,(l.map fun q:Nat=>Value.int .i64 (q:Nat))[j]?=some u->w.cell? (ad.add j)=some u:=fun j u hu=>by
   obtain ⟨x,hx,rfl⟩:=List.getElem?_map ▸ hu |> Option.map_eq_some_iff.1
   obtain ⟨hj,hx⟩:=List.getElem?_eq_some_iff.1 hx
   obtain ⟨g,e,hcell⟩:=hc j hj
   cases e
   rw [zero_off,hcell,hx]
  have hga:w.grownBy (w.alloc (.cells #[] 3)) none:=World.grownBy_alloc _ _ none
  have hnews2:∀j u,(l.map fun q:Nat=>Value.int .i64 (q:Nat))[j]?=some u->(w.alloc (.cells #[] 3)).cell? (ad.add j)=some u:=fun j u hu=>hga.cell (hnews j u hu) (by simp)
  have hown0:(w.alloc (.cells #[] 3)).ownsRow w.heap.size 3 1 (.slice (some ⟨w.heap.size,0,none⟩) 0 0) 0 []:=⟨rfl,Or.inr ⟨w.heap.size,0,#[],rfl,Nat.le_refl _,heap_alloc_new w _,Nat.le_refl _,by unfold maxLen;omega,rfl,rfl⟩⟩
  have hone:=ints_one l
  have hnl:(l.map fun q:Nat=>Value.int .i64 (q:Nat)).length=l.length * 1:=by simp
  obtain ⟨m,hm⟩:∃m,l.length=m:=⟨_,rfl⟩
  have HM:Hid (l.length=m):=hm
  rw [hm] at hnl hl ⊢
  have hq:=eq_nil_no w ad m c
  clear hc hnews hm
  go_enter Tryz.func86,Tryz.ntmps86
  go_wp2_with (first | (at_builtin;refine wpList_append_own _ rfl _ _ 31 rfl w.heap.size 3 j0 (.int .i64 0) 1 8 Tryz.underlying31 hj0 hy0 hy1 hyb rfl (by decide) _ 0 [] rfl hown0 ad m c (l.map fun q:Nat=>Value.int .i64 (q:Nat)) rfl hnl hnews2 hone (by unfold maxLen;omega) (by omega) (by simp) ?_;intro v' w2 hown2 hg2 hnil2))
  refine bodyPost_ret (results_tmp (t:=2) rfl _ _ _) rfl ?_
  refine ⟨_,rfl,?_,?_⟩
  ·rw [Nat.zero_add,List.nil_append] at hown2
   exact hown2
  ·exact gb_row (gb_trans (gb_refl w none) hga) hg2 (fun b hb=>by cases hb;exact Nat.le_refl _)
set_option maxRecDepth 100000 in
set_option maxHeartbeats 1600000 in
theorem sCmp (W:World) (bx p N c n a b:Nat) (ka kb:ByteArray) (hbx:W.cell? ⟨bx,0,none⟩=some (.pointer (some ⟨p,0,none⟩))) (hp:W.cell? ⟨p,0,none⟩=some (.slice (some ⟨N,0,none⟩) n c)) (ha:W.cell? ⟨N,a * 6+1,none⟩=some (.string ka)) (hb:W.cell? ⟨N,b * 6+1,none⟩=some (.string kb)) (han:a < n) (hbn:b < n) (hn:n<=1000000) :
  Calls Tryz.prog 88 #[.int .i64 (a:Nat),.int .i64 (b:Nat),.pointer (some ⟨bx,0,none⟩)] W fun e w'=>e=.returned (.int .i64 (cb ka.data.toList kb.data.toList))/\∃q,w'=W.drewN q:=by
 have CC:Hid (∀w,Calls Tryz.prog 89 #[.string ka,.string kb] w fun e w'=>e=.returned (.int .i64 (cb ka.data.toList kb.data.toList))/\w'=w):=fun w=>Any.strings_Compare Tryz.lays106 ka kb w
 obtain ⟨z,hz⟩:∃z,cb ka.data.toList kb.data.toList=z:=⟨_,rfl⟩
 rw [hz] at CC ⊢
 clear hz
 have hai:(a:Int) < (n:Int):=by omega
 have hbi:(b:Int) < (n:Int):=by omega
 go_enter Tryz.func88,Tryz.ntmps88
 go_wp2
 go_quiet (first | (go_at_call 89;exact Calls.quiet_of_same (CC.out _)))
 go_wp2
 go_ret
 exact ⟨rfl,_,rfl⟩
theorem sortInts (ve:Value) (E:List Nat) (base n bx:Nat) (w:World) (f:Nat->List UInt8) (hown:w.ownsRow base 3 1 ve E.length (E.map fun q=>.int .i64 (q:Nat))) (hlen:E.length<=1000000) (hE:∀q ∈ E,q < n+1)
  (hC:∀W:World,(∀a:Addr,ve.ownBlock ≠ some a.block->a.block < w.heap.size->W.cell? a=w.cell? a)->∀x y:Fin (n+1),Calls Tryz.prog 88 #[.int .i64 (x.val:Nat),.int .i64 (y.val:Nat),.pointer (some ⟨bx,0,none⟩)] W fun e w'=>e=.returned (.int .i64 (cb (f x.val) (f y.val)))/\∃q,w'=W.drewN q) :
  Calls Tryz.prog 87 #[ve,.func (.func 88) #[] #[.pointer (some ⟨bx,0,none⟩)]] w fun e w'=>e=.returned (.tuple #[])/\∃E':List Nat,E'.Perm E/\(E'.Pairwise fun a b=>cb (f a) (f b)<=0)/\w'.ownsRow base 3 1 ve E'.length (E'.map fun q=>.int .i64 (q:Nat))/\w.grownBy w' ve.ownBlock:=by
 obtain ⟨D,hD⟩:∃D:Array (Fin (n+1)),D.toList.map (·.val)=E:=⟨(E.attach.map fun e=>(⟨e.1,hE e.1 e.2⟩:Fin (n+1))).toArray,by simp⟩
 have hDs:D.size=E.length:=by rw [<-hD];simp
 have hown':=hown
 rcases hown.2 with ⟨rfl,h0⟩ | ⟨g,cap,cur,rfl,hb,hg,hn,hm,hs,ht⟩
 ·refine (show Calls Tryz.prog 87 #[.slice none 0 0,.func (.func 88) #[] #[.pointer (some ⟨bx,0,none⟩)]] w _ from AnyF.slices_SortFunc_none { Tryz.laysSort with } none 0 (.func (.func 88) #[] #[.pointer (some ⟨bx,0,none⟩)]) w).mono ?_
  rintro e w' ⟨rfl,rfl⟩
  have hE0:E=[]:=List.eq_nil_of_length_eq_zero h0
  subst hE0
  exact ⟨rfl,[],List.Perm.refl _,List.Pairwise.nil,hown',⟨rfl,rfl,rfl,Nat.le_refl _,fun _ _ _=>rfl⟩⟩
 ·have hgl:g < w.heap.size:=blk_lt hg
  have hH:Holds (fun x:Fin (n+1)=>Value.int .i64 (x.val:Nat)) w g 0 D:=by
   intro j hj
   refine ⟨?_,Lib.frozen_of_heap hg _⟩
   have hjE:j < E.length:=by omega
   have h1:=hown.cells (g:=g) rfl j (.int .i64 (E[j]:Nat)) (by rw [List.getElem?_map,List.getElem?_eq_getElem hjE];rfl)
   rw [zero_off] at h1
   rw [Nat.zero_add,h1,getElem!_pos D j hj]
   have e:E[j]=D[j].val:=by
    subst hD
    simp
   rw [e]
  have hcmp:CmpLays1 Tryz.prog 88 #[.pointer (some ⟨bx,0,none⟩)] (fun x:Fin (n+1)=>Value.int .i64 (x.val:Nat)) (fun x y=>cb (f x.val) (f y.val)) g 0 D.size w:=by
   intro m os dk hdk x y
   refine (hC _ (fun a h1 h2=>World.cell?_of_block (by
    show ((w.heap.modify g _)++os)[a.block]?=_
    rw [Array.getElem?_append_left (by simpa using h2),Array.getElem?_modify,if_neg (fun e=>h1 (by rw [<-e];rfl))])) x y).mono ?_
   rintro e w' ⟨rfl,q,rfl⟩
   exact ⟨rfl,q,#[],by rw [grow_empty]⟩
  have eg:∀args w,(callFunc 88 args).run Tryz.prog w=.ok (.enter 88 args) w:=enters_of Tryz.func88 (by kernel_rfl) rfl
  rw [<-hDs]
  refine (show Calls Tryz.prog 87 #[.slice (some ⟨g,0,none⟩) D.size cap,.func (.func 88) #[] #[.pointer (some ⟨bx,0,none⟩)]] w _ from Any.slices_SortFunc Tryz.laysSort (fun x:Fin (n+1)=>Value.int .i64 (x.val:Nat)) (fun x=>rfl) (fun x y=>cb (f x.val) (f y.val)) (swo_key fun x:Fin (n+1)=>f x.val) 88 #[.pointer (some ⟨bx,0,none⟩)] g 0 cap D w eg hcmp hH hgl (by omega)).mono ?_
  rintro e w' ⟨rfl,d',m,os,hperm,hsort,hw'⟩
  have hds:d'.size=D.size:=hperm.1
  have hheap:w'.heap=(w.heap.modify g (onCells (putCells (fun x:Fin (n+1)=>Value.int .i64 (x.val:Nat)) 0 d')))++os:=by rw [hw'];rfl
  have hg':w'.heap[g]?=some (.cells (putCells (fun x:Fin (n+1)=>Value.int .i64 (x.val:Nat)) 0 d' cur) 3):=by
   rw [hheap,Array.getElem?_append_left (by simpa using hgl),Array.getElem?_modify,if_pos rfl,hg];rfl
  have hcs:D.size<=cur.size:=by rw [hs,hDs];omega
  refine ⟨rfl,d'.toList.map (·.val),?_,?_,⟨?_,.inr ⟨g,cap,_,?_,hb,hg',?_,hm,?_,?_⟩⟩,?_⟩
  ·rw [<-hD]
   apply List.Perm.map
   have:=hperm.2.2
   rw [Array.extract_size] at this
   rw [show d'.extract 0 D.size=d' by rw [<-hds,Array.extract_size]] at this
   exact this
  ·rw [List.pairwise_iff_getElem]
   intro i j hi hj hij
   simp only [List.length_map,Array.length_toList] at hi hj
   have:=hsort i j (Nat.zero_le _) hij (by omega)
   rw [getElem!_pos d' j hj,getElem!_pos d' i hi] at this
   have h3:¬ cb (f d'[j].val) (f d'[i].val) < 0:=of_decide_eq_false this
   simp only [List.getElem_map,Array.getElem_toList]
   have:=cb_anti (f d'[i].val) (f d'[j].val)
   omega
  ·simp
  ·simp [hds]
  ·simp [hds];omega
  ·simp [putCells,hs]
  ·rw [show (d'.toList.map (·.val)).length=D.size by simp [hds]]
   apply List.ext_getElem?
   intro j
   by_cases hj:j < D.size
   ·rw [List.getElem?_take_of_lt (by omega),Array.getElem?_toList]
    rw [putCells,Array.getElem?_mapIdx,Array.getElem?_eq_getElem (show j < cur.size by omega)]
    rw [Option.map_some,if_pos ⟨Nat.zero_le _,by omega⟩,Nat.sub_zero,getElem!_pos d' j (by omega)]
    simp [hds,hj]
   ·rw [List.getElem?_eq_none (by simp;omega),List.getElem?_eq_none (by simp;omega)]
  ·refine ⟨by rw [hw'];rfl,by rw [hw'];rfl,by rw [hw'];rfl,?_,?_⟩
   ·rw [hheap];simp
   ·intro k hk hne
    have hkg:g ≠ k:=by
     intro h;subst h;exact hne rfl
    rw [hheap,Array.getElem?_append_left (by simpa using hk),Array.getElem?_modify,if_neg hkg]
end Go.Proofs.YtbgnflcebafjjaaGreatDoor
