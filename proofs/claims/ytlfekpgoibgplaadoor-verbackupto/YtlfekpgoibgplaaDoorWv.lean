/-
  A number read, walked.
-/
import Derived.Test.YtlfekpgoibgplaaDoorWc
namespace Go.Proofs.YtlfekpgoibgplaaDoor
open Go.RowKit
set_option linter.unusedVariables false

theorem val_take (T : List UInt8) (m : Nat) (hm : m < T.length) : valN (T.take (m + 1)) = 10 * valN (T.take m) + ((T[m].toNat : Int) - 48) := by
  rw [List.take_succ_eq_append_getElem hm, valN_snoc]; rfl

set_option maxHeartbeats 1600000 in
theorem num_any (b : Nat) (s : ByteArray) (i : Nat) (w : World) (hi : i ≤ s.size) (h : RS b s i w) (hs : s.size < 2 ^ 62) :
    Calls Tryd.prog 59 #[.pointer (some ⟨b, 0, none⟩)] w fun e w' => e = .returned (.tuple #[.int .i64 (rdNum s.data.toList i).2.1, .int .i64 (rdNum s.data.toList i).1]) ∧ RS b s (rdNum s.data.toList i).2.2 w' ∧ w.grownBy w' (some b) := by
  obtain ⟨E, V, Q, hEQ⟩ : ∃ E V Q, rdNum s.data.toList i = (E, V, Q) := ⟨_, _, _, rfl⟩
  rw [hEQ]
  have hsl : s.data.toList.length = s.size := by simp
  have CR : Hid (Calls Tryd.prog 50 #[.pointer (some ⟨b, 0, none⟩), .func (.func 65) #[] #[]] w fun e w' => e = .returned (.string ⟨(subT s.data.toList i (runN isD s.data.toList i)).toArray⟩) ∧ RS b s (i + runN isD s.data.toList i) w' ∧ w.grownBy w' (some b)) := run_digits b s i w hi h hs
  have d1 := h.c1
  have hle : i + runN isD s.data.toList i ≤ s.size := by have := runN_le isD s.data.toList i (by rw [hsl]; exact hi); rw [hsl] at this; exact this
  have hln := sub_len s.data.toList i (runN isD s.data.toList i) (by rw [hsl]; exact hle)
  have hall := sub_all isD s.data.toList i
  have hT0 : ∀ k, 0 < k → i + k ≤ s.data.toList.length → (subT s.data.toList i k)[0]? = s.data.toList[i]? := by
    intro k hk hik
    unfold subT
    rw [List.getElem?_take_of_lt hk, List.getElem?_drop]; rfl
  unfold rdNum at hEQ
  obtain ⟨k, hk⟩ : ∃ k, runN isD s.data.toList i = k := ⟨_, rfl⟩
  rw [hk] at CR hEQ hle hln hall
  have hT0k := hT0 k
  obtain ⟨T, hT⟩ : ∃ T, subT s.data.toList i k = T := ⟨_, rfl⟩
  rw [hT] at CR hEQ hln hall hT0k
  obtain ⟨X, hX⟩ : ∃ X : ByteArray, X = ⟨T.toArray⟩ := ⟨_, rfl⟩
  rw [← hX] at CR
  have HXd : Hid (X.data.toList = T) := by show X.data.toList = T; rw [hX]
  have hXs : X.size = k := by rw [hX]; show T.toArray.size = k; simpa using hln
  have HEQ : Hid ((if k = 0 then (2, 0, i) else if 1 < k ∧ s.data.toList[i]? = some 48 then (2, 0, i) else if valN T > 999999999 then (3, 0, i) else (0, valN T, i + k)) = (E, V, Q)) := hEQ
  have HALL : Hid (T.all isD = true ∧ T.length = k ∧ (0 < k → T[0]? = s.data.toList[i]?)) := ⟨hall, hln, fun h => hT0k h (by rw [hsl]; exact hle)⟩
  clear hk hT hX hEQ hln hall hT0 hT0k h hsl hi
  by_cases hk0 : k = 0
  · have e1 := emp_t2 (hXs.trans hk0)
    have HZ : Hid (E = 2 ∧ V = 0 ∧ Q = i + k) := by
      have := HEQ.out
      rw [if_pos hk0] at this
      exact ⟨(congrArg Prod.fst this).symm, (congrArg (·.2.1) this).symm, by rw [hk0]; exact (congrArg (·.2.2) this).symm⟩
    clear hk0 hXs hle
    go_enter Tryd.func59, Tryd.ntmps59
    go_wp2_with (go_at_call 50; refine CR.out.mono ?_)
    rintro e w1 ⟨rfl, hr1, hg1⟩
    have HF : Hid (RS b s Q w1 ∧ w.grownBy w1 (some b)) := ⟨by rw [HZ.out.2.2]; exact hr1, hg1⟩
    clear hr1 hg1
    go_wp2
    refine bodyPost_ret (results_tmp2 rfl _ _ _) rfl ⟨?_, HF.out.1, HF.out.2⟩
    rw [HZ.out.1, HZ.out.2.1]; rfl
  · have e1 := emp_f2 (fun h => hk0 (hXs.symm.trans h))
    obtain ⟨z, hz⟩ : ∃ z, (decide (1 < X.data.toList.length) && decide (X.data.toList[0]? = some 48)) = z := ⟨_, rfl⟩
    have CZ : Hid (∀ w, Calls Tryd.prog 53 #[.string X] w fun e w' => e = .returned (.bool z) ∧ w' = w) := fun w => by rw [← hz]; exact needless_any X w
    have HZz : Hid (z = decide (1 < k ∧ s.data.toList[i]? = some 48)) := by
      show z = _
      rw [← hz, HXd.out, HALL.out.2.1, HALL.out.2.2 (by omega)]
      rw [Bool.eq_iff_iff]; simp
    have HK : Hid (¬ k = 0) := hk0
    clear hz hk0
    go_enter Tryd.func59, Tryd.ntmps59
    go_wp2_with (go_at_call 50; refine CR.out.mono ?_)
    rintro e w1 ⟨rfl, hr1, hg1⟩
    have HR1 : Hid (RS b s (i + k) w1) := hr1
    have HG1 : Hid (w.grownBy w1 (some b)) := hg1
    have f1 := hr1.c1
    have f2 := hr1.f1
    clear hr1 hg1
    cases z with
    | true =>
      have HZ : Hid (E = 2 ∧ V = 0 ∧ Q = i) := by
        have := HEQ.out
        rw [if_neg HK.out, if_pos (of_decide_eq_true HZz.out.symm)] at this
        exact ⟨(congrArg Prod.fst this).symm, (congrArg (·.2.1) this).symm, (congrArg (·.2.2) this).symm⟩
      go_wp2_with (first | (go_at_call 53; refine (CZ.out _).mono ?_; rintro e w' ⟨rfl, rfl⟩))
      refine bodyPost_ret (results_tmp2 rfl _ _ _) rfl ⟨?_, by rw [HZ.out.2.2]; exact HR1.out.set i, gb_set HG1.out _ _⟩
      rw [HZ.out.1, HZ.out.2.1]; rfl
    | false =>
      have HV : Hid ((if valN T > 999999999 then (3, 0, i) else (0, valN T, i + k)) = (E, V, Q)) := by
        have := HEQ.out
        rw [if_neg HK.out, if_neg (of_decide_eq_false HZz.out.symm)] at this
        exact this
      have kw := Lib.run_convert_string_bytes (P := Tryd.prog) w1 9 67 5 X Tryd.underlying9 Tryd.underlying67 Tryd.underlying5
      obtain ⟨W, hW⟩ : ∃ W, Lib.bytesWorld w1 5 X = W := ⟨_, rfl⟩
      have HC : Hid (∀ j, (hj : j < X.size) → W.cell? ⟨w1.heap.size, j, none⟩ = some (.int .u8 (X[j].toNat : Int))) := by
        show ∀ j, (hj : j < X.size) → W.cell? ⟨w1.heap.size, j, none⟩ = some (.int .u8 (X[j].toNat : Int))
        intro j hj
        rw [← hW, Lib.bytesWorld_cell w1 _ X j hj]
        have : X.data.toList.getD j 0 = X[j] := by
          rw [List.getD_eq_getElem?_getD, get_data X j hj]; rfl
        rw [this]
      have hgW : w1.grownBy W none := by rw [← hW]; exact gb_bytes w1 _ X
      rw [hW] at kw
      have HRW : Hid (RS b s (i + k) W) := HR1.out.grow hgW
      have HGW : Hid (w.grownBy W (some b)) := gb_trans HG1.out (gb_weak hgW _)
      have g1 := HRW.out.c1
      have g2 := HRW.out.f1
      clear hW hgW f1 f2
      go_wp2_with (first | (go_at_call 53; refine (CZ.out _).mono ?_; rintro e w' ⟨rfl, rfl⟩))
      have HXk : Hid (X.size = k) := hXs
      have hks : k < 2 ^ 62 := by omega
      clear hXs hle
      go_loop [6, 26] (fun vn vi => ∃ m : Nat, m ≤ k ∧ vi = .int .i64 m ∧ vn = .int .i64 (valN (T.take m)) ∧ valN (T.take m) ≤ 999999999) (fun _ vi => k - (intOf vi).toNat)
      case atStart => exact ⟨0, Nat.zero_le _, rfl, rfl, by show (0 : Int) ≤ _; omega⟩
      case round =>
        obtain ⟨m, hm, rfl, rfl, hvm⟩ := hrel
        by_cases hlt : m < k
        · have hmT : m < T.length := by rw [HALL.out.2.1]; exact hlt
          have hmX : m < X.size := by rw [HXk.out]; exact hlt
          have hXT : X[m] = T[m] := by
            have := get_data X m hmX
            rw [HXd.out, List.getElem?_eq_getElem hmT] at this
            exact (Option.some.inj this).symm
          have cm := HC.out m hmX
          have hdg := isD_ge (List.all_eq_true.1 HALL.out.1 T[m] (List.getElem_mem hmT))
          have hvt := val_take T m hmT
          have hv0 : 0 ≤ valN (T.take m) := val_nn _ (List.all_eq_true.2 (fun c hc => List.all_eq_true.1 HALL.out.1 c (List.mem_of_mem_take hc)))
          have hpre : valN (T.take (m + 1)) ≤ valN T := by
            have := val_prefix (T.take (m + 1)) (T.drop (m + 1)) (by rw [List.take_append_drop]; exact HALL.out.1)
            rw [List.take_append_drop] at this; exact this
          rw [hXT] at cm
          obtain ⟨c, hc⟩ : ∃ c : Int, c = (T[m].toNat : Int) := ⟨_, rfl⟩
          rw [← hc] at cm hvt
          obtain ⟨v, hv⟩ : ∃ v, v = valN (T.take m) := ⟨_, rfl⟩
          rw [← hv] at hvt hv0 hvm
          rw [← hv]
          have hc0 : 48 ≤ c ∧ c ≤ 57 := by omega
          have r1 : IntKind.i64.wrap (10 * v) = 10 * v := by rw [IntKind.wrap_i64]; omega
          have r2 : IntKind.u8.wrap (c - 48) = c - 48 := by rw [IntKind.wrap_u8]; omega
          have r3 : IntKind.i64.wrap (c - 48) = c - 48 := by rw [IntKind.wrap_i64]; omega
          have r4 : IntKind.i64.wrap (10 * v + (c - 48)) = 10 * v + (c - 48) := by rw [IntKind.wrap_i64]; omega
          have HVT : Hid (valN (T.take (m + 1)) = 10 * v + (c - 48) ∧ valN (T.take (m + 1)) ≤ valN T) := ⟨hvt, hpre⟩
          clear hc hv hXT hdg hvt hpre hmT hmX
          by_cases hbig : 999999999 < 10 * v + (c - 48)
          · have HZ : Hid (E = 3 ∧ V = 0 ∧ Q = i) := by
              have h1 := HVT.out
              have := HV.out
              rw [if_pos (by omega)] at this
              exact ⟨(congrArg Prod.fst this).symm, (congrArg (·.2.1) this).symm, (congrArg (·.2.2) this).symm⟩
            go_wp2
            refine bodyPost_ret (results_tmp2 rfl _ _ _) rfl ⟨?_, by rw [HZ.out.2.2]; exact HRW.out.set i, gb_set HGW.out _ _⟩
            rw [HZ.out.1, HZ.out.2.1]; rfl
          · go_wp2
            go_round
            case rel => exact ⟨m + 1, by omega, by go_num, by rw [HVT.out.1], by rw [HVT.out.1]; omega⟩
            case measure => simp [intOf]; omega
        · have hmk : m = k := by omega
          have HTk : Hid (T.take m = T) := by show T.take m = T; rw [hmk]; exact List.take_of_length_le (by rw [HALL.out.2.1]; exact Nat.le_refl _)
          have HZ : Hid (E = 0 ∧ V = valN (T.take m) ∧ Q = i + k) := by
            have := HV.out
            rw [HTk.out] at hvm ⊢
            rw [if_neg (by omega)] at this
            exact ⟨(congrArg Prod.fst this).symm, (congrArg (·.2.1) this).symm, (congrArg (·.2.2) this).symm⟩
          clear hmk hm hvm
          go_wp2
          refine bodyPost_ret (results_tmp2 rfl _ _ _) rfl ⟨?_, by rw [HZ.out.2.2]; exact HRW.out, HGW.out⟩
          rw [HZ.out.1, HZ.out.2.1]; rfl
end Go.Proofs.YtlfekpgoibgplaaDoor
