/-
  SumBack: the walk of Digest and of the law.
-/
import Derived.Test.YtfgjlfdiljlfnaaDoorHex
import Derived.Test.YtfgjlfdiljlfnaaDoorP9
namespace Go.Proofs.YtfgjlfdiljlfnaaDoor
open Go.RowKit
set_option linter.unusedVariables false

theorem okHex : ∀ v < 16, okS (hexD v) = true ∧ (sg (hexD v).toNat).toNat = v := by decide +kernel
theorem two_hex (b : UInt8) : two (hexD (b.toNat / 16)) (hexD (b.toNat % 16)) = b := by
  have hb := b.toNat_lt
  unfold two
  rw [(okHex (b.toNat / 16) (by omega)).2, (okHex (b.toNat % 16) (by omega)).2]
  apply UInt8.toNat_inj.1
  have e : UInt8.size = 256 := rfl
  rw [UInt8.toNat_ofNat_of_lt' (by rw [e]; omega)]
  omega
theorem dec_hexF : ∀ l : List UInt8, dec (hexF l) = l
  | [] => rfl
  | b :: r => by simp [hexF, dec, two_hex, dec_hexF r]
theorem ok_hexF : ∀ (l : List UInt8), ∀ x ∈ hexF l, okS x = true
  | [], x, h => by cases h
  | b :: r, x, h => by
    have hb := b.toNat_lt
    simp only [hexF, List.mem_cons] at h
    rcases h with rfl | rfl | h
    · exact (okHex _ (by omega)).1
    · exact (okHex _ (by omega)).1
    · exact ok_hexF r x h
theorem fw_hexF (l : List UInt8) : fw (hexF l) = (hexF l).length := fw_all _ (fun j hj => ok_hexF l _ (List.getElem_mem hj))
theorem bts_hex (l : List UInt8) (hl : l.length ≤ 1048576) (w : World) :
    Calls Tryd.prog 10 #[.string ⟨(hexF l).toArray⟩] w fun e w' => e = .returned (.tuple #[.string ⟨l.toArray⟩, .int .i64 0, .int .i64 0]) ∧ Below w.heap.size w w' := by
  have hlen := hexF_len l
  have hf := fw_hexF l
  refine (bts_any ⟨(hexF l).toArray⟩ w (by show (hexF l).toArray.size ≤ _; simp; omega)).mono ?_
  rintro e w' ⟨rfl, hb⟩
  refine ⟨ret3 ?_ ?_ ?_, hb⟩
  · show bOut (hexF l) = l
    unfold bOut
    rw [if_neg (by omega), if_neg (by omega), dec_hexF]
  · show bErr (hexF l) = 0
    unfold bErr
    rw [if_neg (by omega), if_neg (by omega)]
  · show bAt (hexF l) = 0
    unfold bAt
    rw [if_neg (by omega), if_neg (by omega)]
/-- the sum's bytes. -/
def sumB (ks : List Int) (l : List UInt8) : List UInt8 := pText (sumS ks (cks l)).list 8
theorem sumB_len (ks : List Int) (l : List UInt8) : (sumB ks l).length = 32 := pText_len _ 8
theorem sum_any (l : List UInt8) (hl : l.length ≤ 140737488351232) (ks : List Int) (hks : ks.length = 64) (w : World) (hg : ∀ k, k < 64 → w.cell? ⟨0, k, none⟩ = some (.int .u32 (nth ks k))) (hw0 : 0 < w.heap.size) :
    Calls Tryd.prog 5 #[.string ⟨l.toArray⟩] w fun e w' => e = .returned (.string ⟨(sumB ks l).toArray⟩) ∧ Below w.heap.size w w' :=
  callsIn_wide.1 (sum_in ⟨l.toArray⟩ (by show l.toArray.size ≤ _; simpa using hl) ks hks w hg hw0)
def digF (ks : List Int) (l : List UInt8) : List UInt8 := pre ++ hexF (sumB ks l)
theorem addPre (x : List UInt8) (wx : World) (h : x.length ≤ 1000) : (Op.stringOp .add ⟨#[115, 104, 97, 50, 53, 54, 58]⟩ ⟨x.toArray⟩).run Tryd.prog wx = .ok (.string ⟨(pre ++ x).toArray⟩) wx := by
  rw [run_string_add_sum wx _ _ (by
    show 7 + x.toArray.size ≤ _
    simp
    omega)]
  rw [show (⟨#[115, 104, 97, 50, 53, 54, 58]⟩ : ByteArray) = ⟨pre.toArray⟩ from rfl, ByteArray.mk_append_mk]

set_option maxHeartbeats 1000000 in
theorem digest_any (l : List UInt8) (hl : l.length ≤ 140737488351232) (ks : List Int) (hks : ks.length = 64) (w : World) (hg : ∀ k, k < 64 → w.cell? ⟨0, k, none⟩ = some (.int .u32 (nth ks k))) (hw0 : 0 < w.heap.size) :
    Calls Tryd.prog 6 #[.string ⟨l.toArray⟩] w fun e w' => e = .returned (.string ⟨(digF ks l).toArray⟩) ∧ Below w.heap.size w w' := by
  have HG : Hid (∀ k, k < 64 → w.cell? ⟨0, k, none⟩ = some (.int .u32 (nth ks k))) := hg
  clear hg
  obtain ⟨sb, hsb⟩ : ∃ sb, sumB ks l = sb := ⟨_, rfl⟩
  have hs32 : sb.length = 32 := by rw [← hsb]; exact sumB_len _ _
  obtain ⟨H, hH⟩ : ∃ H, hexF sb = H := ⟨_, rfl⟩
  have hH64 : H.length = 64 := by rw [← hH, hexF_len]; omega
  have hadd := fun wx => addPre H wx (by omega)
  obtain ⟨D, hD⟩ : ∃ D, pre ++ H = D := ⟨_, rfl⟩
  rw [hD] at hadd
  have HD : Hid (digF ks l = D) := by show digF ks l = D; rw [digF, hsb, hH, hD]
  have C5 : Hid (∀ wx, (∀ k, k < 64 → wx.cell? ⟨0, k, none⟩ = some (.int .u32 (nth ks k))) → 0 < wx.heap.size → Calls Tryd.prog 5 #[.string ⟨l.toArray⟩] wx fun e w' => e = .returned (.string ⟨sb.toArray⟩) ∧ Below wx.heap.size wx w') := fun wx h1 h2 => by rw [← hsb]; exact sum_any l hl ks hks wx h1 h2
  have C9 : Hid (∀ wx, Calls Tryd.prog 9 #[.string ⟨sb.toArray⟩] wx fun e w' => e = .returned (.string ⟨H.toArray⟩) ∧ Below wx.heap.size wx w') := fun wx => by rw [← hH]; exact hex_any ⟨sb.toArray⟩ wx (by show sb.toArray.size ≤ _; simp; omega)
  clear hsb hs32 hH hH64 hD
  go_enter Tryd.func6, Tryd.ntmps6
  go_wp2_with (first | (go_at_call 5; refine (C5.out _ HG.out hw0).mono ?_; rintro e w1 ⟨rfl, hb1⟩) | (go_at_call 9; refine (C9.out _).mono ?_; rintro e w2 ⟨rfl, hb2⟩))
  go_ret
  exact ⟨by rw [HD.out]; rfl, hb1.trans (hb2.mono hb1.size)⟩
end Go.Proofs.YtfgjlfdiljlfnaaDoor
