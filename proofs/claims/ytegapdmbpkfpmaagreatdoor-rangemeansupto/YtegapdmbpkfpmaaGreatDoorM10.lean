import Derived.Test.YtegapdmbpkfpmaaGreatDoorM04
import Derived.Test.YtegapdmbpkfpmaaGreatDoorM05
import Derived.Test.YtegapdmbpkfpmaaGreatDoorM09
/-
  isParts and Sound, walked.
-/
namespace Go.Proofs.YtegapdmbpkfpmaaGreatDoor
open Go.RowKit
set_option linter.unusedVariables false

theorem gb_own {w w1 : World} {o : Obj} (h : (w.alloc o).grownBy w1 (some w.heap.size)) : w.grownBy w1 none :=
  ⟨h.os, h.tape, h.output, by have := h.size; simp at this; omega, fun k hk _ => by rw [h.block k (by simp; omega) (by simp; omega)]; exact Lib.alloc_old w o k hk⟩

set_option maxHeartbeats 400000 in
theorem isParts_at (s : ByteArray) (kind : Int) (st : Bool) (w : World) (h0 : s.size ≠ 0) (hs : s.size < 2 ^ 62)
    (hk : ∀ b w, RS b s 0 w → Calls Tryz.prog 96 #[.pointer (some ⟨b, 0, none⟩), .int .i64 kind] w fun e w' => e = .returned (.int .i64 (rdParts st s.data.toList 0).1) ∧ RS b s (rdParts st s.data.toList 0).2 w' ∧ w.grownBy w' (some b)) :
    Calls Tryz.prog 67 #[.string s, .int .i64 kind] w fun e w' => e = .returned (.bool (okParts st s.data.toList)) ∧ w.grownBy w' none := by
  obtain ⟨R, hR⟩ : ∃ R, R = okParts st s.data.toList := ⟨_, rfl⟩
  obtain ⟨E, Q, hEQ⟩ : ∃ E Q, rdParts st s.data.toList 0 = (E, Q) := ⟨_, _, rfl⟩
  have HR : Hid (R = (decide (E = 0) && decide (Q = s.size))) := by
    show R = _
    have hne : s.data.toList ≠ [] := fun e => h0 (by show s.data.size = 0; rw [← Array.length_toList, e]; rfl)
    rw [hR, ← parts_ok st _ hne, hEQ, Bool.eq_iff_iff]
    simp [Prod.ext_iff]
  have HK : Hid (∀ b w, RS b s 0 w → Calls Tryz.prog 96 #[.pointer (some ⟨b, 0, none⟩), .int .i64 kind] w fun e w' => e = .returned (.int .i64 E) ∧ RS b s Q w' ∧ w.grownBy w' (some b)) := by
    intro b w hb
    have := hk b w hb
    rw [hEQ] at this; exact this
  rw [← hR]
  clear hR hEQ hk h0
  go_enter Tryz.func67, Tryz.ntmps67
  go_wp2_with (go_at_call 96; refine (HK.out _ _ ⟨_, heap_alloc_new w _⟩).mono ?_)
  rintro e w1 ⟨rfl, hr1, hg1⟩
  have HG : Hid (w.grownBy w1 none) := gb_own hg1
  have CE : Hid (Calls Tryz.prog 59 #[.pointer (some ⟨w.heap.size, 0, none⟩)] w1 fun e w' => e = .returned (.bool (decide (Q = s.size))) ∧ ∃ n, w' = w1.drewN n) := ended_any _ s Q w1 hr1
  clear hg1 hr1
  cases hE : (E == 0) with
  | false =>
    have HZ : Hid (R = false) := by show R = false; rw [HR.out, decide_eq_false (by simpa using hE)]; rfl
    go_wp2
    go_ret
    exact ⟨ret_bool HZ.out.symm, HG.out⟩
  | true =>
    have HZ : Hid (R = decide (Q = s.size)) := by
      show R = _
      have h1 : E = 0 := by simpa using hE
      rw [HR.out, decide_eq_true h1, Bool.true_and]
    obtain ⟨q, hq⟩ : ∃ q, decide (Q = s.size) = q := ⟨_, rfl⟩
    rw [hq] at CE HZ
    clear hq
    go_wp2_with (first | (go_at_call 59; refine CE.out.mono ?_))
    rintro e w2 ⟨rfl, n, hn⟩
    have HG2 : Hid (w.grownBy w2 none) := by show w.grownBy w2 none; rw [hn]; exact gb_drew HG.out n
    clear hn
    go_wp2
    go_ret
    exact ⟨ret_bool HZ.out.symm, HG2.out⟩

theorem isP_pre (s : ByteArray) (w : World) (h0 : s.size ≠ 0) (hs : s.size < 2 ^ 62) : Calls Tryz.prog 67 #[.string s, .int .i64 0] w fun e w' => e = .returned (.bool (okParts true s.data.toList)) ∧ w.grownBy w' none :=
  isParts_at s 0 true w h0 hs (fun b w h => skipP b s 0 w (Nat.zero_le _) h hs)
theorem isP_build (s : ByteArray) (w : World) (h0 : s.size ≠ 0) (hs : s.size < 2 ^ 62) : Calls Tryz.prog 67 #[.string s, .int .i64 1] w fun e w' => e = .returned (.bool (okParts false s.data.toList)) ∧ w.grownBy w' none :=
  isParts_at s 1 false w h0 hs (fun b w h => skipB b s 0 w (Nat.zero_le _) h hs)
theorem okp_empty (b : Bool) (s : ByteArray) (h : s.size = 0) : okParts b s.data.toList = true := by
  have : s.data.toList = [] := List.length_eq_zero_iff.1 (by simpa using h)
  rw [this]; rfl

theorem ix0 (a1 a2 a3 : Int) (w : World) : (Instr.index 109 (.agg #[.int .i64 a1, .int .i64 a2, .int .i64 a3]) (.int .i64 0)).run Tryz.prog w = .ok (.int .i64 a1) w := by kernel_rfl
theorem ix1 (a1 a2 a3 : Int) (w : World) : (Instr.index 109 (.agg #[.int .i64 a1, .int .i64 a2, .int .i64 a3]) (.int .i64 1)).run Tryz.prog w = .ok (.int .i64 a2) w := by kernel_rfl
theorem ix2 (a1 a2 a3 : Int) (w : World) : (Instr.index 109 (.agg #[.int .i64 a1, .int .i64 a2, .int .i64 a3]) (.int .i64 2)).run Tryz.prog w = .ok (.int .i64 a3) w := by kernel_rfl

set_option maxHeartbeats 1600000 in
theorem psound_any (a1 a2 a3 : Int) (a4 a5 : ByteArray) (w : World) (h4 : a4.size < 2 ^ 62) (h5 : a5.size < 2 ^ 62) :
    Calls Tryz.prog 40 #[.agg #[.int .i64 a1, .int .i64 a2, .int .i64 a3, .string a4, .string a5]] w fun e w' => e = .returned (.bool (soundV ⟨a1, a2, a3, a4.data.toList, a5.data.toList⟩)) ∧ w.grownBy w' none := by
  obtain ⟨R, hR⟩ : ∃ R, R = soundV ⟨a1, a2, a3, a4.data.toList, a5.data.toList⟩ := ⟨_, rfl⟩
  obtain ⟨x4, hx4⟩ : ∃ x, x = okParts true a4.data.toList := ⟨_, rfl⟩
  obtain ⟨x5, hx5⟩ : ∃ x, x = okParts false a5.data.toList := ⟨_, rfl⟩
  have HR : Hid (R = (bound a1 && (bound a2 && (bound a3 && (x4 && x5))))) := by show R = _; rw [hR, hx4, hx5]; rfl
  have C4 : Hid (a4.size ≠ 0 → ∀ w, Calls Tryz.prog 67 #[.string a4, .int .i64 0] w fun e w' => e = .returned (.bool x4) ∧ w.grownBy w' none) := fun h w => by rw [hx4]; exact isP_pre a4 w h h4
  have C5 : Hid (a5.size ≠ 0 → ∀ w, Calls Tryz.prog 67 #[.string a5, .int .i64 1] w fun e w' => e = .returned (.bool x5) ∧ w.grownBy w' none) := fun h w => by rw [hx5]; exact isP_build a5 w h h5
  have E4 : Hid (a4.size = 0 → x4 = true) := fun h => by rw [hx4]; exact okp_empty true a4 h
  have E5 : Hid (a5.size = 0 → x5 = true) := fun h => by rw [hx5]; exact okp_empty false a5 h
  have GA : Hid (∀ o, w.grownBy (w.alloc o) none) := fun o => gb_alloc (gb_refl w none) o
  rw [← hR]
  clear hR hx4 hx5 h4 h5
  go_enter Tryz.func40, Tryz.ntmps40
  go_wp2
  obtain ⟨W, hW⟩ : ∃ W, w.alloc (.cells #[.int .i64 a1, .int .i64 a2, .int .i64 a3, .string a4, .string a5] 35) = W := ⟨_, rfl⟩
  have HG : Hid (w.grownBy W none) := by show w.grownBy W none; rw [← hW]; exact GA.out _
  obtain ⟨A, hA⟩ : ∃ A, w.heap.size = A := ⟨_, rfl⟩
  have STa : Hid (St A a1 a2 a3 a4 a5 W) := by
    show St A a1 a2 a3 a4 a5 W
    rw [← hW, ← hA]; exact st_row (t := 35) (heap_alloc_new w _)
  rw [hW, hA]
  clear hW hA GA
  go_loop [12] (fun i => ∃ k : Nat, k ≤ 3 ∧ i = .int .i64 k ∧ (1 ≤ k → bound a1 = true) ∧ (2 ≤ k → bound a2 = true) ∧ (3 ≤ k → bound a3 = true)) (fun i => 3 - (intOf i).toNat)
  case atStart => exact ⟨0, by omega, rfl, by omega, by omega, by omega⟩
  case round =>
    obtain ⟨k, hk, rfl, k1, k2, k3⟩ := hrel
    have K1 : Hid (1 ≤ k → bound a1 = true) := k1
    have K2 : Hid (2 ≤ k → bound a2 = true) := k2
    have K3 : Hid (3 ≤ k → bound a3 = true) := k3
    clear k1 k2 k3
    rcases (show k = 0 ∨ k = 1 ∨ k = 2 ∨ k = 3 by omega) with rfl | rfl | rfl | rfl
    · clear hk
      have ix := ix0 a1 a2 a3 W
      by_cases b0 : 0 ≤ a1
      · have n0 : decide (a1 < 0) = false := decide_eq_false (by omega)
        by_cases b1 : a1 ≤ 1000000000
        · have n1 : decide (1000000000 < a1) = false := decide_eq_false (by omega)
          have BB : Hid (0 ≤ a1 ∧ a1 ≤ 1000000000) := ⟨b0, b1⟩
          clear b0 b1
          go_wp2
          go_round
          case rel => exact ⟨1, by omega, rfl, fun _ => bound_iff.2 BB.out, by omega, by omega⟩
          case measure => simp [intOf]
        · have n1 : decide (1000000000 < a1) = true := decide_eq_true (by omega)
          have HZ : Hid (R = false) := by show R = false; rw [HR.out, show bound a1 = false by cases hb : bound a1 with | true => exact absurd (bound_iff.1 hb) (by omega) | false => rfl]; simp
          clear b0 b1
          go_wp2
          go_ret
          exact ⟨ret_bool HZ.out.symm, HG.out⟩
      · have HZ : Hid (R = false) := by show R = false; rw [HR.out, show bound a1 = false by cases hb : bound a1 with | true => exact absurd (bound_iff.1 hb) (by omega) | false => rfl]; simp
        go_wp2
        go_ret
        exact ⟨ret_bool HZ.out.symm, HG.out⟩
    · clear hk
      have ix := ix1 a1 a2 a3 W
      by_cases b0 : 0 ≤ a2
      · have n0 : decide (a2 < 0) = false := decide_eq_false (by omega)
        by_cases b1 : a2 ≤ 1000000000
        · have n1 : decide (1000000000 < a2) = false := decide_eq_false (by omega)
          have BB : Hid (0 ≤ a2 ∧ a2 ≤ 1000000000) := ⟨b0, b1⟩
          clear b0 b1
          go_wp2
          go_round
          case rel => exact ⟨2, by omega, rfl, fun _ => K1.out (by omega), fun _ => bound_iff.2 BB.out, by omega⟩
          case measure => simp [intOf]
        · have n1 : decide (1000000000 < a2) = true := decide_eq_true (by omega)
          have HZ : Hid (R = false) := by show R = false; rw [HR.out, show bound a2 = false by cases hb : bound a2 with | true => exact absurd (bound_iff.1 hb) (by omega) | false => rfl]; simp
          clear b0 b1
          go_wp2
          go_ret
          exact ⟨ret_bool HZ.out.symm, HG.out⟩
      · have HZ : Hid (R = false) := by show R = false; rw [HR.out, show bound a2 = false by cases hb : bound a2 with | true => exact absurd (bound_iff.1 hb) (by omega) | false => rfl]; simp
        go_wp2
        go_ret
        exact ⟨ret_bool HZ.out.symm, HG.out⟩
    · clear hk
      have ix := ix2 a1 a2 a3 W
      by_cases b0 : 0 ≤ a3
      · have n0 : decide (a3 < 0) = false := decide_eq_false (by omega)
        by_cases b1 : a3 ≤ 1000000000
        · have n1 : decide (1000000000 < a3) = false := decide_eq_false (by omega)
          have BB : Hid (0 ≤ a3 ∧ a3 ≤ 1000000000) := ⟨b0, b1⟩
          clear b0 b1
          go_wp2
          go_round
          case rel => exact ⟨3, by omega, rfl, fun _ => K1.out (by omega), fun _ => K2.out (by omega), fun _ => bound_iff.2 BB.out⟩
          case measure => simp [intOf]
        · have n1 : decide (1000000000 < a3) = true := decide_eq_true (by omega)
          have HZ : Hid (R = false) := by show R = false; rw [HR.out, show bound a3 = false by cases hb : bound a3 with | true => exact absurd (bound_iff.1 hb) (by omega) | false => rfl]; simp
          clear b0 b1
          go_wp2
          go_ret
          exact ⟨ret_bool HZ.out.symm, HG.out⟩
      · have HZ : Hid (R = false) := by show R = false; rw [HR.out, show bound a3 = false by cases hb : bound a3 with | true => exact absurd (bound_iff.1 hb) (by omega) | false => rfl]; simp
        go_wp2
        go_ret
        exact ⟨ret_bool HZ.out.symm, HG.out⟩
    · have HB : Hid (R = (x4 && x5)) := by show R = _; rw [HR.out, K1.out (by omega), K2.out (by omega), K3.out (by omega)]; rfl
      obtain ⟨s1, s2, s3, s4, s5⟩ := STa.out
      clear hk
      by_cases z4 : a4.size = 0
      · have e4 := emp_t2 z4
        have hx4 : Hid (x4 = true) := E4.out z4
        clear z4
        by_cases z5 : a5.size = 0
        · have e5 := emp_t2 z5
          have HZ : Hid (R = true) := by show R = true; rw [HB.out, hx4.out, E5.out z5]; rfl
          clear z5
          go_wp2
          go_ret
          exact ⟨ret_bool HZ.out.symm, HG.out⟩
        · have e5 := emp_f2 z5
          have C := C5.out z5
          have HC : Hid (∀ w, Calls Tryz.prog 67 #[.string a5, .int .i64 1] w fun e w' => e = .returned (.bool x5) ∧ w.grownBy w' none) := C
          have HZ : Hid (R = x5) := by show R = x5; rw [HB.out, hx4.out]; rfl
          clear z5 C
          go_wp2_with (first | (go_at_call 67; refine (HC.out _).mono ?_; rintro e w5 ⟨rfl, hg5⟩))
          go_ret
          exact ⟨ret_bool HZ.out.symm, gb_trans HG.out hg5⟩
      · have e4 := emp_f2 z4
        have HC4 : Hid (∀ w, Calls Tryz.prog 67 #[.string a4, .int .i64 0] w fun e w' => e = .returned (.bool x4) ∧ w.grownBy w' none) := C4.out z4
        clear z4
        go_wp2_with (go_at_call 67; refine (HC4.out _).mono ?_)
        rintro e w4 rfl hg4
        have c5 : w4.cell? ⟨A, 4, none⟩ = some (.string a5) := hg4.cell s5 (by simp)
        have HG4 : Hid (w.grownBy w4 none) := gb_trans HG.out hg4
        clear hg4
        cases x4 with
        | false =>
          have HZ : Hid (R = false) := by show R = false; rw [HB.out]; rfl
          go_wp2
          go_ret
          exact ⟨ret_bool HZ.out.symm, HG4.out⟩
        | true =>
          have HZ5 : Hid (R = x5) := by show R = x5; rw [HB.out]; rfl
          by_cases z5 : a5.size = 0
          · have e5 := emp_t2 z5
            have HZ : Hid (R = true) := by show R = true; rw [HZ5.out, E5.out z5]
            clear z5
            go_wp2
            go_ret
            exact ⟨ret_bool HZ.out.symm, HG4.out⟩
          · have e5 := emp_f2 z5
            have HC : Hid (∀ w, Calls Tryz.prog 67 #[.string a5, .int .i64 1] w fun e w' => e = .returned (.bool x5) ∧ w.grownBy w' none) := C5.out z5
            clear z5
            go_wp2_with (first | (go_at_call 67; refine (HC.out _).mono ?_; rintro e w5 ⟨rfl, hg5⟩))
            go_ret
            exact ⟨ret_bool HZ5.out.symm, gb_trans HG4.out hg5⟩
end Go.Proofs.YtegapdmbpkfpmaaGreatDoor

/-
  Sound and Holds of the program, walked.
-/
namespace Go.Proofs.YtegapdmbpkfpmaaGreatDoor
open Go.RowKit
set_option linter.unusedVariables false

theorem elt_row {w : World} {A t : Nat} {s : Sp} (h : w.heap[A]? = some (.cells #[.int .i64 s.f1, .int .i64 s.f2, .int .i64 s.f3, .string s.f4, .string s.f5, .int .i64 s.t1, .int .i64 s.t2, .int .i64 s.t3, .string s.t4, .string s.t5, .bool s.o] t (0, 0))) : EltAt w ⟨A, 0, none⟩ s :=
  ⟨by rw [Lib.cell_of_heap h]; rfl, by rw [Lib.cell_of_heap h]; rfl, by rw [Lib.cell_of_heap h]; rfl, by rw [Lib.cell_of_heap h]; rfl, by rw [Lib.cell_of_heap h]; rfl, by rw [Lib.cell_of_heap h]; rfl, by rw [Lib.cell_of_heap h]; rfl, by rw [Lib.cell_of_heap h]; rfl, by rw [Lib.cell_of_heap h]; rfl, by rw [Lib.cell_of_heap h]; rfl, by rw [Lib.cell_of_heap h]; rfl⟩

set_option maxRecDepth 100000 in
set_option maxHeartbeats 1600000 in
theorem psound_at (a : Addr) (cap : Nat) (L : List Sp) (w : World) (hL : L.length < 2 ^ 62) (hcap : L.length ≤ cap) (h : SpAt w a L) (hsz : ∀ s ∈ L, smallS s) :
    Calls Tryz.prog 81 #[.slice (some a) L.length cap] w fun e w' => e = .returned (.bool (L.all soundS)) ∧ w.grownBy w' none := by
  have HA : Hid (SpAt w a L) := h
  have HS : Hid (∀ s ∈ L, smallS s) := hsz
  clear h hsz
  obtain ⟨R, hR⟩ : ∃ R, L.all soundS = R := ⟨_, rfl⟩
  have HR : Hid (L.all soundS = R) := hR
  rw [hR]
  clear hR
  go_enter Tryz.func81, Tryz.ntmps81
  go_wp2
  go_loopw [7] (fun vi wr => ∃ i : Nat, vi = .int .i64 i ∧ i ≤ L.length ∧ (∀ j (hj : j < L.length), j < i → soundS L[j] = true) ∧ w.grownBy wr none) (fun vi _ => L.length - (intOf vi).toNat)
  case atStart => exact ⟨0, rfl, Nat.zero_le _, fun j hj h => absurd h (by omega), gb_refl _ _⟩
  case round =>
    obtain ⟨i, rfl, hi, hp, hg⟩ := hrel
    have HP : Hid (∀ j (hj : j < L.length), j < i → soundS L[j] = true) := hp
    have HG : Hid (w.grownBy wr none) := hg
    clear hp hg
    by_cases hlt : i < L.length
    · obtain ⟨s, hs⟩ : ∃ s, L[i] = s := ⟨_, rfl⟩
      have HE : Hid (EltAt wr (a.add (i * 11)) s) := by show EltAt wr _ s; rw [← hs]; exact (HA.out i hlt).grow HG.out
      have hm : smallS s := by rw [← hs]; exact HS.out _ (List.getElem_mem hlt)
      have HSS : Hid (L[i] = s) := hs
      have CF : Hid (∀ w, Calls Tryz.prog 40 #[.agg #[.int .i64 s.f1, .int .i64 s.f2, .int .i64 s.f3, .string s.f4, .string s.f5]] w fun e w' => e = .returned (.bool (soundV (vFrom s))) ∧ w.grownBy w' none) := fun w => psound_any s.f1 s.f2 s.f3 s.f4 s.f5 w (by have := hm.1; omega) (by have := hm.2.1; omega)
      have CT : Hid (∀ w, Calls Tryz.prog 40 #[.agg #[.int .i64 s.t1, .int .i64 s.t2, .int .i64 s.t3, .string s.t4, .string s.t5]] w fun e w' => e = .returned (.bool (soundV (vTo s))) ∧ w.grownBy w' none) := fun w => psound_any s.t1 s.t2 s.t3 s.t4 s.t5 w (by have := hm.2.2.1; omega) (by have := hm.2.2.2; omega)
      obtain ⟨x, hx⟩ : ∃ x, soundV (vFrom s) = x := ⟨_, rfl⟩
      obtain ⟨y, hy⟩ : ∃ y, soundV (vTo s) = y := ⟨_, rfl⟩
      rw [hx] at CF
      rw [hy] at CT
      have HXY : Hid (soundS s = (x && (s.o || y))) := by show soundS s = _; unfold soundS; rw [hx, hy]
      clear hx hy hm hs
      obtain ⟨e0, e1, e2, e3, e4, e5, e6, e7, e8, e9, e10⟩ := HE.out
      go_wp2_with (first | (go_at_call 40; refine (CF.out _).mono ?_))
      rintro e w1 ⟨rfl, hg⟩
      obtain ⟨N, hN⟩ : ∃ N, wr.heap.size = N := ⟨_, rfl⟩
      have HE1 : Hid (EltAt w1 ⟨N, 0, none⟩ s) := by
        refine EltAt.grow ?_ hg
        rw [← hN]
        exact elt_row (t := 37) (heap_alloc_new wr _)
      replace HG : Hid (w.grownBy w1 none) := gb_trans (gb_alloc HG.out _) hg
      rw [hN]
      clear hN hg e0 e1 e2 e3 e4 e5 e6 e7 e8 e9 e10
      obtain ⟨e0, e1, e2, e3, e4, e5, e6, e7, e8, e9, e10⟩ := HE1.out
      simp only [Nat.zero_add] at e1 e2 e3 e4 e5 e6 e7 e8 e9 e10
      obtain ⟨ob, hob⟩ : ∃ b, s.o = b := ⟨_, rfl⟩
      rw [hob] at e10 HXY
      clear hob
      cases x with
      | false =>
        rw [Bool.false_and] at HXY
        have HRF : Hid (R = false) := by
          show R = false
          rw [← HR.out, List.all_eq_false]
          exact ⟨L[i], List.getElem_mem hlt, by rw [HSS.out, HXY.out]; decide⟩
        clear HXY
        go_wp2
        go_ret
        exact ⟨ret_bool HRF.out.symm, HG.out⟩
      | true =>
        rw [Bool.true_and] at HXY
        cases ob with
        | true =>
          rw [Bool.true_or] at HXY
          have HT : Hid (soundS s = true) := by show soundS s = true; rw [HXY.out]
          clear HXY
          go_wp2
          go_roundw
          case rel =>
            refine ⟨i + 1, by go_num, by omega, fun j hj hji => ?_, HG.out⟩
            by_cases hji' : j < i
            · exact HP.out j hj hji'
            · have e : j = i := by omega
              subst e
              rw [HSS.out]; exact HT.out
          case measure => simp [intOf]; omega
        | false =>
          rw [Bool.false_or] at HXY
          go_wp2_with (first | (go_at_call 40; refine (CT.out _).mono ?_))
          rintro e w2 ⟨rfl, hg⟩
          replace HG : Hid (w.grownBy w2 none) := gb_trans HG.out hg
          clear hg e0 e1 e2 e3 e4 e5 e6 e7 e8 e9 e10
          cases y with
          | true =>
            have HT : Hid (soundS s = true) := by show soundS s = true; rw [HXY.out]
            clear HXY
            go_wp2
            go_roundw
            case rel =>
              refine ⟨i + 1, by go_num, by omega, fun j hj hji => ?_, HG.out⟩
              by_cases hji' : j < i
              · exact HP.out j hj hji'
              · have e : j = i := by omega
                subst e
                rw [HSS.out]; exact HT.out
            case measure => simp [intOf]; omega
          | false =>
            have HRF : Hid (R = false) := by
              show R = false
              rw [← HR.out, List.all_eq_false]
              exact ⟨L[i], List.getElem_mem hlt, by rw [HSS.out, HXY.out]; decide⟩
            clear HXY
            go_wp2
            go_ret
            exact ⟨ret_bool HRF.out.symm, HG.out⟩
    · have HRT : Hid (R = true) := by
        show R = true
        rw [← HR.out, List.all_eq_true]
        intro t ht
        obtain ⟨j, hj, rfl⟩ := List.getElem_of_mem ht
        exact HP.out j hj (by omega)
      clear hi
      go_wp2
      go_ret
      exact ⟨ret_bool HRT.out.symm, HG.out⟩

set_option maxHeartbeats 400000 in
theorem psound_nil (w : World) : Calls Tryz.prog 81 #[.slice none 0 0] w fun e w' => e = .returned (.bool true) ∧ w.grownBy w' none := by
  go_enter Tryz.func81, Tryz.ntmps81
  go_wp2
  go_loopw [7] (fun vi wr => vi = .int .i64 0 ∧ w.grownBy wr none) (fun vi _ => 0)
  case atStart => exact ⟨rfl, gb_refl _ _⟩
  case round =>
    obtain ⟨rfl, hg⟩ := hrel
    have HG : Hid (w.grownBy wr none) := hg
    clear hg
    go_wp2
    go_ret
    exact ⟨rfl, HG.out⟩

set_option maxRecDepth 100000 in
set_option maxHeartbeats 1600000 in
theorem pholds_at (a : Addr) (cap : Nat) (L : List Sp) (v1 v2 v3 : Int) (v4 v5 : ByteArray) (w : World) (hL : L.length < 2 ^ 62) (hcap : L.length ≤ cap) (h : SpAt w a L) (hsz : ∀ s ∈ L, smallS s) (hv : v4.size ≤ 1048576) :
    Calls Tryz.prog 21 #[.slice (some a) L.length cap, .agg #[.int .i64 v1, .int .i64 v2, .int .i64 v3, .string v4, .string v5]] w fun e w' => e = .returned (.bool (holdsL L ⟨v1, v2, v3, v4.data.toList⟩)) ∧ w.grownBy w' none := by
  have HA : Hid (SpAt w a L) := h
  have HS : Hid (∀ s ∈ L, smallS s) := hsz
  have HV4 : Hid (v4.size ≤ 1048576) := hv
  clear h hsz hv
  obtain ⟨v, hv⟩ : ∃ v : V, v = ⟨v1, v2, v3, v4.data.toList⟩ := ⟨_, rfl⟩
  have HV : Hid (v = ⟨v1, v2, v3, v4.data.toList⟩) := hv
  rw [← hv]
  obtain ⟨R, hR⟩ : ∃ R, holdsL L v = R := ⟨_, rfl⟩
  have HR : Hid (holdsL L v = R) := hR
  rw [hR]
  clear hR hv
  go_enter Tryz.func21, Tryz.ntmps21
  go_wp2
  obtain ⟨A, hA⟩ : ∃ A, w.heap.size = A := ⟨_, rfl⟩
  obtain ⟨W, hW⟩ : ∃ W, w.alloc (.cells #[.int .i64 v1, .int .i64 v2, .int .i64 v3, .string v4, .string v5] 35) = W := ⟨_, rfl⟩
  have HG0 : Hid (w.grownBy W none) := by show w.grownBy W none; rw [← hW]; exact gb_alloc (gb_refl w none) _
  have STv : Hid (St A v1 v2 v3 v4 v5 W) := by show St _ _ _ _ _ _ W; rw [← hW, ← hA]; exact st_row (t := 35) (heap_alloc_new w _)
  try rw [hW]
  try rw [hA]
  clear hW hA
  go_loopw [9] (fun vi wr => ∃ i : Nat, vi = .int .i64 i ∧ i ≤ L.length ∧ (∀ j (hj : j < L.length), j < i → hasS L[j] v = false) ∧ W.grownBy wr none) (fun vi _ => L.length - (intOf vi).toNat)
  case atStart => exact ⟨0, rfl, Nat.zero_le _, fun j hj h => absurd h (by omega), gb_refl _ _⟩
  case round =>
    obtain ⟨i, rfl, hi, hp, hg⟩ := hrel
    have HP : Hid (∀ j (hj : j < L.length), j < i → hasS L[j] v = false) := hp
    have HG : Hid (W.grownBy wr none) := hg
    have STr : Hid (St A v1 v2 v3 v4 v5 wr) := STv.out.grow hg
    clear hp hg
    by_cases hlt : i < L.length
    · obtain ⟨s, hs⟩ : ∃ s, L[i] = s := ⟨_, rfl⟩
      have HE : Hid (EltAt wr (a.add (i * 11)) s) := by show EltAt wr _ s; rw [← hs]; exact ((HA.out i hlt).grow HG0.out).grow HG.out
      have hm : smallS s := by rw [← hs]; exact HS.out _ (List.getElem_mem hlt)
      have HSS : Hid (L[i] = s) := hs
      obtain ⟨x, hx⟩ : ∃ x, verC v (cFrom s) = x := ⟨_, rfl⟩
      obtain ⟨y, hy⟩ : ∃ y, verC v (cTo s) = y := ⟨_, rfl⟩
      have CF : Hid (∀ w, Calls Tryz.prog 44 #[.agg #[.int .i64 v1, .int .i64 v2, .int .i64 v3, .string v4, .string v5], .agg #[.int .i64 s.f1, .int .i64 s.f2, .int .i64 s.f3, .string s.f4, .string s.f5]] w fun e w' => e = .returned (.int .i64 x) ∧ w.grownBy w' none) := fun w => by
        rw [← hx, HV.out]; exact compare_any v1 v2 v3 s.f1 s.f2 s.f3 v4 v5 s.f4 s.f5 w (by have := HV4.out; omega) (by have := hm.1; omega)
      have CT : Hid (∀ w, Calls Tryz.prog 44 #[.agg #[.int .i64 v1, .int .i64 v2, .int .i64 v3, .string v4, .string v5], .agg #[.int .i64 s.t1, .int .i64 s.t2, .int .i64 s.t3, .string s.t4, .string s.t5]] w fun e w' => e = .returned (.int .i64 y) ∧ w.grownBy w' none) := fun w => by
        rw [← hy, HV.out]; exact compare_any v1 v2 v3 s.t1 s.t2 s.t3 v4 v5 s.t4 s.t5 w (by have := HV4.out; omega) (by have := hm.2.2.1; omega)
      have HXY : Hid (hasS s v = (decide (0 ≤ x) && (s.o || decide (y < 0)))) := by
        show hasS s v = _
        unfold hasS
        have := good_ver.anti v (cFrom s)
        rw [hx] at this
        rw [this, hy]
        congr 1
        rw [Bool.eq_iff_iff]; simp
      clear hm hs hx hy
      obtain ⟨e0, e1, e2, e3, e4, e5, e6, e7, e8, e9, e10⟩ := HE.out
      obtain ⟨N, hN⟩ : ∃ N, wr.heap.size = N := ⟨_, rfl⟩
      obtain ⟨W2, hW2⟩ : ∃ W2, wr.alloc (.cells #[.int .i64 s.f1, .int .i64 s.f2, .int .i64 s.f3, .string s.f4, .string s.f5, .int .i64 s.t1, .int .i64 s.t2, .int .i64 s.t3, .string s.t4, .string s.t5, .bool s.o] 37) = W2 := ⟨_, rfl⟩
      have hg2 : wr.grownBy W2 none := by rw [← hW2]; exact gb_alloc (gb_refl wr none) _
      have HE2 : Hid (EltAt W2 ⟨N, 0, none⟩ s) := by
        show EltAt W2 _ s
        rw [← hN, ← hW2]
        exact elt_row (t := 37) (heap_alloc_new wr _)
      replace STr : Hid (St A v1 v2 v3 v4 v5 W2) := STr.out.grow hg2
      replace HG : Hid (W.grownBy W2 none) := gb_trans HG.out hg2
      clear hg2
      obtain ⟨s1, s2, s3, s4, s5⟩ := STr.out
      obtain ⟨d0, d1, d2, d3, d4, d5, d6, d7, d8, d9, d10⟩ := HE2.out
      simp only [Nat.zero_add] at d1 d2 d3 d4 d5 d6 d7 d8 d9 d10
      go_wp2_with (first | (go_at_call 44; refine (CF.out _).mono ?_))
      rintro e w1 ⟨rfl, hg⟩
      have HE1 : Hid (EltAt w1 ⟨N, 0, none⟩ s) := HE2.out.grow hg
      replace STr : Hid (St A v1 v2 v3 v4 v5 w1) := STr.out.grow hg
      replace HG : Hid (W.grownBy w1 none) := gb_trans HG.out hg
      try rw [hN]
      clear hN hW2 hg e0 e1 e2 e3 e4 e5 e6 e7 e8 e9 e10 s1 s2 s3 s4 s5 d0 d1 d2 d3 d4 d5 d6 d7 d8 d9 d10
      obtain ⟨e0, e1, e2, e3, e4, e5, e6, e7, e8, e9, e10⟩ := HE1.out
      simp only [Nat.zero_add] at e1 e2 e3 e4 e5 e6 e7 e8 e9 e10
      obtain ⟨s1, s2, s3, s4, s5⟩ := STr.out
      obtain ⟨ob, hob⟩ : ∃ b, s.o = b := ⟨_, rfl⟩
      rw [hob] at e10 HXY
      clear hob
      by_cases hx0 : 0 ≤ x
      · rw [decide_eq_true hx0, Bool.true_and] at HXY
        cases ob with
        | true =>
          rw [Bool.true_or] at HXY
          have HRT : Hid (R = true) := by
            show R = true
            rw [← HR.out]; unfold holdsL
            rw [List.any_eq_true]
            exact ⟨L[i], List.getElem_mem hlt, by rw [HSS.out]; exact HXY.out⟩
          go_wp2
          go_ret
          exact ⟨ret_bool HRT.out.symm, gb_trans HG0.out HG.out⟩
        | false =>
          rw [Bool.false_or] at HXY
          go_wp2_with (first | (go_at_call 44; refine (CT.out _).mono ?_))
          rintro e w2 ⟨rfl, hg⟩
          replace HG : Hid (W.grownBy w2 none) := gb_trans HG.out hg
          clear hg e0 e1 e2 e3 e4 e5 e6 e7 e8 e9 e10 s1 s2 s3 s4 s5
          by_cases hy0 : y < 0
          · rw [decide_eq_true hy0] at HXY
            have HRT : Hid (R = true) := by
              show R = true
              rw [← HR.out]; unfold holdsL
              rw [List.any_eq_true]
              exact ⟨L[i], List.getElem_mem hlt, by rw [HSS.out]; exact HXY.out⟩
            go_wp2
            go_ret
            exact ⟨ret_bool HRT.out.symm, gb_trans HG0.out HG.out⟩
          · rw [decide_eq_false hy0] at HXY
            go_wp2
            go_roundw
            case rel =>
              refine ⟨i + 1, by go_num, by omega, fun j hj hji => ?_, HG.out⟩
              by_cases hji' : j < i
              · exact HP.out j hj hji'
              · have e : j = i := by omega
                subst e
                rw [HSS.out]; exact HXY.out
            case measure => simp [intOf]; omega
      · rw [decide_eq_false hx0, Bool.false_and] at HXY
        go_wp2
        go_roundw
        case rel =>
          refine ⟨i + 1, by go_num, by omega, fun j hj hji => ?_, HG.out⟩
          by_cases hji' : j < i
          · exact HP.out j hj hji'
          · have e : j = i := by omega
            subst e
            rw [HSS.out]; exact HXY.out
        case measure => simp [intOf]; omega
    · have HRF : Hid (R = false) := by
        show R = false
        rw [← HR.out]; unfold holdsL
        rw [List.any_eq_false]
        intro t ht
        obtain ⟨j, hj, rfl⟩ := List.getElem_of_mem ht
        rw [HP.out j hj (by omega)]; decide
      clear hi
      go_wp2
      go_ret
      exact ⟨ret_bool HRF.out.symm, gb_trans HG0.out HG.out⟩

set_option maxHeartbeats 400000 in
theorem pholds_nil (v1 v2 v3 : Int) (v4 v5 : ByteArray) (w : World) : Calls Tryz.prog 21 #[.slice none 0 0, .agg #[.int .i64 v1, .int .i64 v2, .int .i64 v3, .string v4, .string v5]] w fun e w' => e = .returned (.bool false) ∧ w.grownBy w' none := by
  go_enter Tryz.func21, Tryz.ntmps21
  go_wp2
  go_loopw [9] (fun vi wr => vi = .int .i64 0 ∧ w.grownBy wr none) (fun vi _ => 0)
  case atStart => exact ⟨rfl, gb_alloc (gb_refl _ _) _⟩
  case round =>
    obtain ⟨rfl, hg⟩ := hrel
    have HG : Hid (w.grownBy wr none) := hg
    clear hg
    go_wp2
    go_ret
    exact ⟨rfl, HG.out⟩
end Go.Proofs.YtegapdmbpkfpmaaGreatDoor
