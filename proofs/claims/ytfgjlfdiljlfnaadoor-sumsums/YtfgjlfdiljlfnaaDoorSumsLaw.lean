/-
  SumSums: the statement's walk.
-/
import Derived.Test.YtfgjlfdiljlfnaaDoorR5
namespace Go.Proofs.YtfgjlfdiljlfnaaDoor
open Go.RowKit
set_option linter.unusedVariables false

set_option maxHeartbeats 1000000 in
theorem refDigest_any (l : List UInt8) (hl : l.length ≤ 140737488351232) (w : World) :
    Calls Tryd.prog 8 #[.string ⟨l.toArray⟩] w fun e w' => e = .returned (.string ⟨(digF ks1 l).toArray⟩) ∧ Below w.heap.size w w' := by
  obtain ⟨sb, hsb⟩ : ∃ sb, sumB ks1 l = sb := ⟨_, rfl⟩
  have hs32 : sb.length = 32 := by rw [← hsb]; exact sumB_len _ _
  obtain ⟨H, hH⟩ : ∃ H, hexF sb = H := ⟨_, rfl⟩
  have hH64 : H.length = 64 := by rw [← hH, hexF_len]; omega
  have hadd := fun wx => addPre H wx (by omega)
  obtain ⟨D, hD⟩ : ∃ D, pre ++ H = D := ⟨_, rfl⟩
  rw [hD] at hadd
  have HD : Hid (digF ks1 l = D) := by show digF ks1 l = D; rw [digF, hsb, hH, hD]
  have C7 : Hid (∀ wx, Calls Tryd.prog 7 #[.string ⟨l.toArray⟩] wx fun e w' => e = .returned (.string ⟨sb.toArray⟩) ∧ Below wx.heap.size wx w') := fun wx => by rw [← hsb, ← ref_is]; exact refSum_any l wx hl
  have C12 : Hid (∀ wx, Calls Tryd.prog 12 #[.string ⟨sb.toArray⟩] wx fun e w' => e = .returned (.string ⟨H.toArray⟩) ∧ Below wx.heap.size wx w') := fun wx => by rw [← hH]; exact refHex_any ⟨sb.toArray⟩ wx (by show sb.toArray.size ≤ _; simp; omega)
  clear hsb hs32 hH hH64 hD
  go_enter Tryd.func8, Tryd.ntmps8
  go_wp2_with (first | (go_at_call 7; refine (C7.out _).mono ?_; rintro e w1 ⟨rfl, hb1⟩) | (go_at_call 12; refine (C12.out _).mono ?_; rintro e w2 ⟨rfl, hb2⟩))
  go_ret
  exact ⟨by rw [HD.out]; rfl, hb1.trans (hb2.mono hb1.size)⟩

set_option maxHeartbeats 2000000 in
set_option maxRecDepth 100000 in
theorem sums_walk (l : List UInt8) (hl : l.length ≤ 140737488351232) (w : World) (hg : ∀ k, k < 64 → w.cell? ⟨0, k, none⟩ = some (.int .u32 (nth ks1 k))) (hw0 : 0 < w.heap.size) :
    Calls Tryd.prog 3 #[.string ⟨l.toArray⟩] w fun e w' => e = .returned (.bool true) ∧ Below w.heap.size w w' := by
  have HG : Hid (∀ k, k < 64 → w.cell? ⟨0, k, none⟩ = some (.int .u32 (nth ks1 k))) := hg
  clear hg
  obtain ⟨S, hS⟩ : ∃ S, sumB ks1 l = S := ⟨_, rfl⟩
  obtain ⟨D, hD⟩ : ∃ D, digF ks1 l = D := ⟨_, rfl⟩
  have C5 : Hid (∀ wx, (∀ k, k < 64 → wx.cell? ⟨0, k, none⟩ = some (.int .u32 (nth ks1 k))) → 0 < wx.heap.size → Calls Tryd.prog 5 #[.string ⟨l.toArray⟩] wx fun e w' => e = .returned (.string ⟨S.toArray⟩) ∧ Below wx.heap.size wx w') := fun wx h1 h2 => by rw [← hS]; exact sum_any l hl ks1 rfl wx h1 h2
  have C6 : Hid (∀ wx, (∀ k, k < 64 → wx.cell? ⟨0, k, none⟩ = some (.int .u32 (nth ks1 k))) → 0 < wx.heap.size → Calls Tryd.prog 6 #[.string ⟨l.toArray⟩] wx fun e w' => e = .returned (.string ⟨D.toArray⟩) ∧ Below wx.heap.size wx w') := fun wx h1 h2 => by rw [← hD]; exact digest_any l hl ks1 rfl wx h1 h2
  have C7 : Hid (∀ wx, Calls Tryd.prog 7 #[.string ⟨l.toArray⟩] wx fun e w' => e = .returned (.string ⟨S.toArray⟩) ∧ Below wx.heap.size wx w') := fun wx => by rw [← hS, ← ref_is]; exact refSum_any l wx hl
  have C8 : Hid (∀ wx, Calls Tryd.prog 8 #[.string ⟨l.toArray⟩] wx fun e w' => e = .returned (.string ⟨D.toArray⟩) ∧ Below wx.heap.size wx w') := fun wx => by rw [← hD]; exact refDigest_any l hl wx
  clear hS hD
  go_enter Tryd.func3, Tryd.ntmps3
  go_wp2_with fail
  refine (C5.out _ HG.out hw0).mono ?_
  rintro e w1 ⟨rfl, b1⟩
  have z1 := b1.size
  go_wp2_with fail
  refine (C6.out _ (fun k hk => (b1.cell (p := ⟨0, k, none⟩) hw0).trans (HG.out k hk)) (by omega)).mono ?_
  rintro e w2 ⟨rfl, b2⟩
  have k2 : Below w.heap.size w w2 := b1.trans (b2.mono b1.size)
  clear b1 b2 z1
  go_wp2_with fail
  refine (C7.out _).mono ?_
  rintro e w3 ⟨rfl, b3⟩
  have k3 : Below w.heap.size w w3 := k2.trans (b3.mono k2.size)
  clear k2 b3
  go_wp2_with fail
  refine (C8.out _).mono ?_
  rintro e w4 ⟨rfl, b4⟩
  have k4 : Below w.heap.size w w4 := k3.trans (b4.mono k3.size)
  clear k3 b4
  go_wp2
  go_ret
  exact ⟨rfl, k4⟩
end Go.Proofs.YtfgjlfdiljlfnaaDoor
