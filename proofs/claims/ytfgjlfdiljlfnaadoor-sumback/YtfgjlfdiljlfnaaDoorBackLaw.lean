/-
  SumBack: the law's walk.
-/
import Derived.Test.YtfgjlfdiljlfnaaDoorBack
namespace Go.Proofs.YtfgjlfdiljlfnaaDoor
open Go.RowKit
set_option linter.unusedVariables false

theorem chk_dig (ks : List Int) (l : List UInt8) : chk (digF ks l) = true := by
  have h1 : Lib.hasPrefix (digF ks l) pre = true := by
    unfold Lib.hasPrefix digF
    rw [List.isPrefixOf_iff_prefix]
    exact List.prefix_append _ _
  have h2 : cutP (digF ks l) = hexF (sumB ks l) := by
    unfold cutP Lib.trimPrefix
    rw [if_pos h1]
    unfold digF
    simp
  have h3 := hexF_len (sumB ks l)
  have h4 := sumB_len ks l
  unfold chk hasP
  rw [h1, h2, fw_hexF]
  simp
  omega
theorem from7 (X : ByteArray) (hz : X.size = 71) (wx : World) : (Instr.slice 9 (.string X) (some (.int .i64 7)) none none).run Tryd.prog wx = .ok (.string (X.extract 7 71)) wx := by
  simp [go_sem, Tryd.underlying9, hz]
theorem cutDig (H : List UInt8) (h : H.length = 64) (wx : World) : (Instr.slice 9 (.string ⟨(pre ++ H).toArray⟩) (some (.int .i64 7)) none none).run Tryd.prog wx = .ok (.string ⟨H.toArray⟩) wx := by
  have hz : (⟨(pre ++ H).toArray⟩ : ByteArray).size = 71 := by
    show (pre ++ H).toArray.size = 71
    simp [pre, h]
  have e : (⟨(pre ++ H).toArray⟩ : ByteArray).extract 7 71 = ⟨H.toArray⟩ := by
    apply ByteArray.ext
    rw [ByteArray.data_extract]
    apply Array.ext'
    simp [pre]
    rw [List.take_of_length_le (by omega)]
  rw [from7 _ hz, e]

set_option maxHeartbeats 2000000 in
set_option maxRecDepth 100000 in
theorem back_walk (l : List UInt8) (hl : l.length ≤ 1048576) (ks : List Int) (hks : ks.length = 64) (w : World) (hg : ∀ k, k < 64 → w.cell? ⟨0, k, none⟩ = some (.int .u32 (nth ks k))) (hw0 : 0 < w.heap.size) :
    Calls Tryd.prog 4 #[.string ⟨l.toArray⟩] w fun e w' => e = .returned (.bool true) ∧ Below w.heap.size w w' := by
  have HG : Hid (∀ k, k < 64 → w.cell? ⟨0, k, none⟩ = some (.int .u32 (nth ks k))) := hg
  clear hg
  have hlz : (⟨l.toArray⟩ : ByteArray).size = l.length := by show l.toArray.size = _; simp
  obtain ⟨S, hS⟩ : ∃ S, sumB ks l = S := ⟨_, rfl⟩
  have hS32 : S.length = 32 := by rw [← hS]; exact sumB_len _ _
  obtain ⟨HS, hHS⟩ : ∃ HS, hexF S = HS := ⟨_, rfl⟩
  have hHS64 : HS.length = 64 := by rw [← hHS, hexF_len]; omega
  obtain ⟨D, hD⟩ : ∃ D, pre ++ HS = D := ⟨_, rfl⟩
  have hDF : digF ks l = D := by rw [digF, hS, hHS, hD]
  have hD71 : D.length = 71 := by rw [← hD]; simp [pre, hHS64]
  obtain ⟨H0, hH0⟩ : ∃ H0, hexF l = H0 := ⟨_, rfl⟩
  have hH0l : H0.length = 2 * l.length := by rw [← hH0]; exact hexF_len l
  have n1 : ((H0.length : Int) != 2 * (l.length : Int)) = false := by simp; omega
  have n2 : ((D.length : Int) != 71) = false := by simp; omega
  have n3 : ((S.length : Int) != 32) = false := by simp; omega
  have sl : ∀ wx, (Instr.slice 9 (.string ⟨D.toArray⟩) (some (.int .i64 7)) none none).run Tryd.prog wx = .ok (.string ⟨HS.toArray⟩) wx := fun wx => by rw [← hD]; exact cutDig HS hHS64 wx
  have C9 : Hid (∀ wx, Calls Tryd.prog 9 #[.string ⟨l.toArray⟩] wx fun e w' => e = .returned (.string ⟨H0.toArray⟩) ∧ Below wx.heap.size wx w') := fun wx => by rw [← hH0]; exact hex_any ⟨l.toArray⟩ wx (by omega)
  have C12 : Hid (∀ wx, Calls Tryd.prog 12 #[.string ⟨l.toArray⟩] wx fun e w' => e = .returned (.string ⟨H0.toArray⟩) ∧ Below wx.heap.size wx w') := fun wx => by rw [← hH0]; exact refHex_any ⟨l.toArray⟩ wx (by omega)
  have C10 : Hid (∀ wx, Calls Tryd.prog 10 #[.string ⟨H0.toArray⟩] wx fun e w' => e = .returned (.tuple #[.string ⟨l.toArray⟩, .int .i64 0, .int .i64 0]) ∧ Below wx.heap.size wx w') := fun wx => by rw [← hH0]; exact bts_hex l hl wx
  have C10b : Hid (∀ wx, Calls Tryd.prog 10 #[.string ⟨HS.toArray⟩] wx fun e w' => e = .returned (.tuple #[.string ⟨S.toArray⟩, .int .i64 0, .int .i64 0]) ∧ Below wx.heap.size wx w') := fun wx => by rw [← hHS]; exact bts_hex S (by omega) wx
  have C6 : Hid (∀ wx, (∀ k, k < 64 → wx.cell? ⟨0, k, none⟩ = some (.int .u32 (nth ks k))) → 0 < wx.heap.size → Calls Tryd.prog 6 #[.string ⟨l.toArray⟩] wx fun e w' => e = .returned (.string ⟨D.toArray⟩) ∧ Below wx.heap.size wx w') := fun wx h1 h2 => by rw [← hDF]; exact digest_any l (by omega) ks hks wx h1 h2
  have C5 : Hid (∀ wx, (∀ k, k < 64 → wx.cell? ⟨0, k, none⟩ = some (.int .u32 (nth ks k))) → 0 < wx.heap.size → Calls Tryd.prog 5 #[.string ⟨l.toArray⟩] wx fun e w' => e = .returned (.string ⟨S.toArray⟩) ∧ Below wx.heap.size wx w') := fun wx h1 h2 => by rw [← hS]; exact sum_any l (by omega) ks hks wx h1 h2
  have C11 : Hid (∀ wx, Calls Tryd.prog 11 #[.string ⟨D.toArray⟩] wx fun e w' => e = .returned (.bool true) ∧ w' = wx) := fun wx => by
    have := check_any ⟨D.toArray⟩ wx
    have h2 := chk_dig ks l
    rw [hDF] at h2
    rw [show chk (⟨D.toArray⟩ : ByteArray).data.toList = true from h2] at this
    exact this
  clear hS hS32 hHS hHS64 hD hDF hD71 hH0 hH0l hlz
  go_enter Tryd.func4, Tryd.ntmps4
  go_wp2_with fail
  refine (C9.out _).mono ?_
  rintro e w1 ⟨rfl, b1⟩
  go_wp2_with fail
  refine (C10.out _).mono ?_
  rintro e w2 ⟨rfl, b2⟩
  have k2 : Below w.heap.size w w2 := b1.trans (b2.mono b1.size)
  have z2 := k2.size
  go_wp2_with fail
  refine (C6.out _ (fun k hk => (k2.cell (p := ⟨0, k, none⟩) hw0).trans (HG.out k hk)) (by omega)).mono ?_
  rintro e w3 ⟨rfl, b3⟩
  have k3 : Below w.heap.size w w3 := k2.trans (b3.mono k2.size)
  have z3 := k3.size
  go_wp2_with fail
  refine (C5.out _ (fun k hk => (k3.cell (p := ⟨0, k, none⟩) hw0).trans (HG.out k hk)) (by omega)).mono ?_
  rintro e w4 ⟨rfl, b4⟩
  have k4 : Below w.heap.size w w4 := k3.trans (b4.mono k3.size)
  clear k2 k3 b1 b2 b3 b4 z2 z3
  go_wp2_with fail
  refine (C11.out _).mono ?_
  rintro e w5 ⟨rfl, h5⟩
  subst w5
  go_wp2_with fail
  refine (C12.out _).mono ?_
  rintro e w6 ⟨rfl, b6⟩
  have k6 : Below w.heap.size w w6 := k4.trans (b6.mono k4.size)
  clear k4 b6
  go_wp2_with (go_at_call 13; refine (num_any _ _).mono ?_; rintro e w7 ⟨rfl, h7⟩; subst w7)
  refine (C10b.out _).mono ?_
  rintro e w8 ⟨rfl, b8⟩
  go_wp2_with (go_at_call 13; refine (num_any _ _).mono ?_; rintro e w9 ⟨rfl, h9⟩; subst w9)
  go_ret
  exact ⟨rfl, k6.trans (b8.mono k6.size)⟩
end Go.Proofs.YtfgjlfdiljlfnaaDoor
