/-
  A number in base ten, written by the document; walked.
-/
import Derived.Test.YtlfekpgoibgplaaDoorRd
import Derived.Test.YtlfekpgoibgplaaDoorLk
import Derived.Laws.BytesString
namespace Go.Proofs.YtlfekpgoibgplaaDoor
open Go.RowKit
set_option linter.unusedVariables false

theorem conv_one (w : World) (c : Int) : (convert 67 9 (.slice (some ⟨w.heap.size, 0, none⟩) 1 1)).run Tryd.prog (w.alloc (.cells #[.int .u8 c] 5)) = .ok (.string ⟨#[UInt8.ofNat c.toNat]⟩) (w.alloc (.cells #[.int .u8 c] 5)) := by
  rw [run_convert_bytes_string _ 67 9 5 _ 1 1 Tryd.underlying67 Tryd.underlying5 Tryd.underlying9]
  rw [run_bytesToString _ _ 1 1 [c] (run_loadCells_list _ _ [.int .u8 c] (by
    intro j v hj
    match j, hj with
    | 0, hj => simp at hj; subst hj; simp [Addr.add]))]
  rfl
theorem add_lists (x y : List UInt8) (wx : World) (h : x.length + y.length ≤ 9223372036854775807) : (Op.stringOp .add ⟨x.toArray⟩ ⟨y.toArray⟩).run Tryd.prog wx = .ok (.string ⟨(x ++ y).toArray⟩) wx := by
  rw [run_string_add_sum wx _ _ (by
    show x.toArray.size + y.toArray.size ≤ _
    simpa using h), ByteArray.mk_append_mk]
theorem nd_len : ∀ (u : Nat), (Lib.decDigits u).length ≤ u / 10 + 1 := by
  intro u
  induction u using Nat.strongRecOn with
  | ind u ih =>
    rw [Lib.decDigits]
    split
    · simp
    · have := ih (u / 10) (by omega)
      simp; omega
theorem itoa_len (n : Int) (h0 : -9223372036854775808 ≤ n) (h1 : n ≤ 9223372036854775807) : (Lib.itoa n).length ≤ 922337203685477584 := by
  unfold Lib.itoa
  split
  · have := nd_len n.natAbs; simp; omega
  · have := nd_len n.toNat; omega
theorem itoa_s1 (n : Int) (h : n < 0) (h' : -10 < n) : Lib.itoa n = [45, UInt8.ofNat (48 - n).toNat] := by
  unfold Lib.itoa
  rw [if_pos h, Lib.decDigits_one (by omega), show (48 - n).toNat = 48 + n.natAbs by omega]
theorem itoa_s3 (n : Int) (h : ¬ n < 0) (h' : n < 10) : Lib.itoa n = [UInt8.ofNat (48 + n).toNat] := by
  unfold Lib.itoa
  rw [if_neg h, Lib.decDigits_one (by omega), show (48 + n).toNat = 48 + n.toNat by omega]
theorem itoa_s4 (n : Int) (h : 10 ≤ n) : Lib.itoa n = Lib.itoa (n / 10) ++ [UInt8.ofNat (48 + n % 10).toNat] := by
  unfold Lib.itoa
  rw [if_neg (by omega), if_neg (by omega), Lib.decDigits, dif_neg (by omega), show (n / 10).toNat = n.toNat / 10 by omega, show (48 + n % 10).toNat = 48 + n.toNat % 10 by omega]
theorem tdiv_neg (n : Int) (h : n < 0) : n.tdiv 10 = -((-n) / 10) := by
  have : n = -(-n) := by omega
  rw [this, Int.neg_tdiv, Int.tdiv_eq_ediv_of_nonneg (by omega)]; simp
theorem tmod_neg (n : Int) (h : n < 0) : n.tmod 10 = -((-n) % 10) := by
  have : n = -(-n) := by omega
  rw [this, Int.neg_tmod, Int.tmod_eq_emod_of_nonneg (by omega)]; simp
theorem itoa_s2 (n : Int) (h : n ≤ -10) : Lib.itoa n = Lib.itoa (n.tdiv 10) ++ [UInt8.ofNat (48 - n.tmod 10).toNat] := by
  rw [tdiv_neg n (by omega), tmod_neg n (by omega)]
  unfold Lib.itoa
  rw [if_pos (by omega), if_pos (by omega), Lib.decDigits, dif_neg (by omega), show (-(-n / 10)).natAbs = n.natAbs / 10 by omega, show (48 - -(-n % 10)).toNat = 48 + n.natAbs % 10 by omega]
  rfl

set_option maxHeartbeats 800000 in
theorem decimal_at : ∀ (m : Nat) (n : Int), n.natAbs = m → -9223372036854775808 ≤ n → n ≤ 9223372036854775807 → ∀ (w : World),
    Calls Tryd.prog 22 #[.int .i64 n] w fun e w' => e = .returned (.string ⟨(Lib.itoa n).toArray⟩) ∧ Below w.heap.size w w' := by
  intro m
  induction m using Nat.strongRecOn with
  | ind m ih =>
    intro n hm h0 h1 w
    have IH : Hid (∀ n' : Int, n'.natAbs < m → -9223372036854775808 ≤ n' → n' ≤ 9223372036854775807 → ∀ (w : World), Calls Tryd.prog 22 #[.int .i64 n'] w fun e w' => e = .returned (.string ⟨(Lib.itoa n').toArray⟩) ∧ Below w.heap.size w w') := fun n' h => ih _ h n' rfl
    have HM : Hid (n.natAbs = m) := hm
    clear ih hm
    obtain ⟨T, hT⟩ : ∃ T, T = Lib.itoa n := ⟨_, rfl⟩
    rw [← hT]
    have HT : Hid (T = Lib.itoa n) := hT
    clear hT
    by_cases hneg : n < 0
    · by_cases h10 : -10 < n
      · have w1 : IntKind.i64.wrap (48 - n) = 48 - n := by rw [IntKind.wrap_i64]; omega
        have w2 : IntKind.u8.wrap (48 - n) = 48 - n := by rw [IntKind.wrap_u8]; omega
        have hcv := conv_one w (48 - n)
        have HE : Hid (T = [45, UInt8.ofNat (48 - n).toNat]) := by show T = _; rw [HT.out, itoa_s1 n hneg h10]
        go_enter Tryd.func22, Tryd.ntmps22
        go_wp2
        go_ret
        refine ⟨?_, gb_below (gb_alloc (gb_refl w none) _)⟩
        rw [HE.out]
        rfl
      · have hn10 : n ≤ -10 := by omega
        have hr : n.tmod 10 = -((-n) % 10) := tmod_neg n hneg
        have hq : n.tdiv 10 = -((-n) / 10) := tdiv_neg n hneg
        have w1 : IntKind.i64.wrap (48 - n.tmod 10) = 48 - n.tmod 10 := by rw [IntKind.wrap_i64]; omega
        have w2 : IntKind.u8.wrap (48 - n.tmod 10) = 48 - n.tmod 10 := by rw [IntKind.wrap_u8]; omega
        have HC : Hid (∀ w : World, Calls Tryd.prog 22 #[.int .i64 (n.tdiv 10)] w fun e w' => e = .returned (.string ⟨(Lib.itoa (n.tdiv 10)).toArray⟩) ∧ Below w.heap.size w w') := IH.out (n.tdiv 10) (by have := HM.out; omega) (by omega) (by omega)
        have hl := itoa_len (n.tdiv 10) (by omega) (by omega)
        have HE : Hid (T = Lib.itoa (n.tdiv 10) ++ [UInt8.ofNat (48 - n.tmod 10).toNat]) := by show T = _; rw [HT.out, itoa_s2 n hn10]
        have ad := fun wx => add_lists (Lib.itoa (n.tdiv 10)) [UInt8.ofNat (48 - n.tmod 10).toNat] wx (by simp; omega)
        have hcv := fun w => conv_one w (48 - n.tmod 10)
        rw [← HE.out] at ad
        clear hr hq hl
        generalize Lib.itoa (n.tdiv 10) = T1 at HC ad HE
        generalize UInt8.ofNat (48 - n.tmod 10).toNat = d at ad hcv HE
        have ad' : ∀ wx, (Op.stringOp .add ⟨T1.toArray⟩ ⟨#[d]⟩).run Tryd.prog wx = .ok (.string ⟨T.toArray⟩) wx := ad
        clear ad h10
        go_enter Tryd.func22, Tryd.ntmps22
        go_wp2_with (go_at_call 22; refine (HC.out _).mono ?_)
        rintro e w1' ⟨rfl, hb⟩
        have HB : Hid (Below w.heap.size w w1') := hb
        clear hb
        have hcv1 := hcv w1'
        clear hcv
        go_wp2
        go_ret
        exact ⟨rfl, HB.out.alloc HB.out.size _⟩
    · by_cases h10 : n < 10
      · have w1 : IntKind.i64.wrap (48 + n) = 48 + n := by rw [IntKind.wrap_i64]; omega
        have w2 : IntKind.u8.wrap (48 + n) = 48 + n := by rw [IntKind.wrap_u8]; omega
        have hcv := conv_one w (48 + n)
        have HE : Hid (T = [UInt8.ofNat (48 + n).toNat]) := by show T = _; rw [HT.out, itoa_s3 n hneg h10]
        go_enter Tryd.func22, Tryd.ntmps22
        go_wp2
        go_ret
        refine ⟨?_, gb_below (gb_alloc (gb_refl w none) _)⟩
        rw [HE.out]
        rfl
      · have hn10 : 10 ≤ n := by omega
        have w1 : IntKind.i64.wrap (48 + n % 10) = 48 + n % 10 := by rw [IntKind.wrap_i64]; omega
        have w2 : IntKind.u8.wrap (48 + n % 10) = 48 + n % 10 := by rw [IntKind.wrap_u8]; omega
        have HC : Hid (∀ w : World, Calls Tryd.prog 22 #[.int .i64 (n / 10)] w fun e w' => e = .returned (.string ⟨(Lib.itoa (n / 10)).toArray⟩) ∧ Below w.heap.size w w') := IH.out (n / 10) (by have := HM.out; omega) (by omega) (by omega)
        have hl := itoa_len (n / 10) (by omega) (by omega)
        have HE : Hid (T = Lib.itoa (n / 10) ++ [UInt8.ofNat (48 + n % 10).toNat]) := by show T = _; rw [HT.out, itoa_s4 n hn10]
        have ad := fun wx => add_lists (Lib.itoa (n / 10)) [UInt8.ofNat (48 + n % 10).toNat] wx (by simp; omega)
        have hcv := fun w => conv_one w (48 + n % 10)
        rw [← HE.out] at ad
        clear hl
        generalize Lib.itoa (n / 10) = T1 at HC ad HE
        generalize UInt8.ofNat (48 + n % 10).toNat = d at ad hcv HE
        have ad' : ∀ wx, (Op.stringOp .add ⟨T1.toArray⟩ ⟨#[d]⟩).run Tryd.prog wx = .ok (.string ⟨T.toArray⟩) wx := ad
        clear ad h10
        go_enter Tryd.func22, Tryd.ntmps22
        go_wp2_with (go_at_call 22; refine (HC.out _).mono ?_)
        rintro e w1' rfl hb
        have HB : Hid (Below w.heap.size w w1') := hb
        clear hb
        have hcv1 := hcv w1'
        clear hcv
        go_wp2
        go_ret
        exact ⟨rfl, HB.out.alloc HB.out.size _⟩
theorem decimal_any (n : Int) (w : World) (h0 : -9223372036854775808 ≤ n) (h1 : n ≤ 9223372036854775807) :
    Calls Tryd.prog 22 #[.int .i64 n] w fun e w' => e = .returned (.string ⟨(Lib.itoa n).toArray⟩) ∧ Below w.heap.size w w' := decimal_at _ n rfl h0 h1 w
end Go.Proofs.YtlfekpgoibgplaaDoor
