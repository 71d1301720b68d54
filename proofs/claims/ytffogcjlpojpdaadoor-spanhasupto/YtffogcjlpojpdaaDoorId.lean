/-
  Growth; digits alone; slices of texts.
-/
import Derived.Test.YtffogcjlpojpdaaDoorWo
import Derived.Below
import Derived.Lib.ConvBytes
namespace Go.Proofs.YtffogcjlpojpdaaDoor
open Go.RowKit
set_option linter.unusedVariables false

theorem gb_below {w w' : World} (h : w.grownBy w' none) : Below w.heap.size w w' := ⟨h.os, h.tape, h.output, h.size, fun k hk => h.block k hk (by simp)⟩
theorem gb_undrew {w w' : World} {r : Option Nat} (h : w.drew.grownBy w' r) : w.grownBy w' r := ⟨h.os, h.tape, h.output, h.size, h.block⟩
theorem gb_alloc {w w' : World} (h : w.grownBy w' none) (o : Obj) : w.grownBy (w'.alloc o) none :=
  ⟨h.os, h.tape, h.output, by have := h.size; simp; omega, fun k hk hn => by rw [Lib.alloc_old _ _ _ (Nat.lt_of_lt_of_le hk h.size)]; exact h.block k hk hn⟩

theorem gb_bytes (w : World) (e : TypeId) (s : ByteArray) : w.grownBy (Lib.bytesWorld w e s) none :=
  ⟨rfl, rfl, rfl, by rw [Lib.bytesWorld_size]; omega, fun k hk _ => Lib.bytesWorld_at_old w e s k hk⟩
theorem gb_weak {w w' : World} (h : w.grownBy w' none) (r : Option Nat) : w.grownBy w' r := ⟨h.os, h.tape, h.output, h.size, fun k hk _ => h.block k hk (by simp)⟩

set_option maxHeartbeats 400000 in
theorem isDigits_any (s : ByteArray) (w : World) (hs : s.size < 2 ^ 62) :
    Calls Tryd.prog 45 #[.string s] w fun e w' => e = .returned (.bool (numT s.data.toList)) ∧ w.grownBy w' none := by
  have kc := fun (w : World) => Lib.run_convert_string_bytes (P := Tryd.prog) w 9 92 5 s Tryd.underlying9 Tryd.underlying92 Tryd.underlying5
  obtain ⟨W, hW⟩ : ∃ W, Lib.bytesWorld w 5 s = W := ⟨_, rfl⟩
  have HC : Hid (∀ j, (hj : j < s.size) → W.cell? ⟨w.heap.size, j, none⟩ = some (.int .u8 (s[j].toNat : Int))) := by
    show ∀ j, (hj : j < s.size) → W.cell? ⟨w.heap.size, j, none⟩ = some (.int .u8 (s[j].toNat : Int))
    intro j hj
    rw [← hW, Lib.bytesWorld_cell w _ s j hj]
    have : s.data.toList.getD j 0 = s[j] := by
      rw [List.getD_eq_getElem?_getD, get_data s j hj]; rfl
    rw [this]
  have HG : Hid (w.grownBy W none) := by show w.grownBy W none; rw [← hW]; exact gb_bytes w _ s
  have kw := kc w
  rw [hW] at kw
  clear kc hW
  go_enter Tryd.func45, Tryd.ntmps45
  go_wp2
  go_loop [8] (fun i => ∃ k : Nat, k ≤ s.size ∧ i = .int .i64 k ∧ ∀ j, (hj : j < s.size) → j < k → isD s[j] = true) (fun i => s.size - (intOf i).toNat)
  case atStart => exact ⟨0, Nat.zero_le _, rfl, fun j hj h => absurd h (by omega)⟩
  case round =>
    obtain ⟨k, hk, rfl, hp⟩ := hrel
    have HP : Hid (∀ j, (hj : j < s.size) → j < k → isD s[j] = true) := hp
    clear hp
    by_cases hlt : k < s.size
    · have ck := HC.out k hlt
      cases hd : isD s[k] with
      | true =>
        go_wp2_with (go_at_call 55; refine (isDigit_any _ _).mono ?_; rintro e w' ⟨rfl, rfl⟩)
        go_round
        case rel =>
          refine ⟨k + 1, by omega, by go_num, fun j hj hjk => ?_⟩
          by_cases hjk' : j < k
          · exact HP.out j hj hjk'
          · have e : j = k := by omega
            subst e
            exact hd
        case measure => simp [intOf]; omega
      | false =>
        have HN : Hid (numT s.data.toList = false) := by
          show numT s.data.toList = false
          unfold numT
          have : s.data.toList.all isD = false := by
            rw [List.all_eq_false]
            exact ⟨s[k], List.mem_of_getElem? (get_data s k hlt), by simp [hd]⟩
          rw [this, Bool.and_false]
        go_wp2_with (go_at_call 55; refine (isDigit_any _ _).mono ?_; rintro e w' ⟨rfl, rfl⟩)
        go_ret
        exact ⟨ret_bool HN.out.symm, HG.out⟩
    · have hks : k = s.size := by omega
      have HA : Hid (s.data.toList.all isD = true) := by
        show s.data.toList.all isD = true
        rw [List.all_eq_true]
        intro c hc
        obtain ⟨j, hj, rfl⟩ := List.getElem_of_mem hc
        exact HP.out j (by simpa using hj) (by simp at hj; have : s.size = s.data.size := rfl; omega)
      clear hks hk
      go_wp2
      go_ret
      refine ⟨ret_bool ?_, HG.out⟩
      unfold numT
      rw [Lib.toList_data, HA.out, Bool.and_true]

theorem run_pre (s : ByteArray) (k : Nat) (hk : k ≤ s.size) (w : World) :
    (Instr.slice 9 (.string s) none (some (.int .i64 (k : Int))) none).run Tryd.prog w = .ok (.string ⟨(s.data.toList.take k).toArray⟩) w := by
  have h5 : (k : Int) ≤ (s.size : Int) := by omega
  have e : s.extract 0 k = ⟨(s.data.toList.take k).toArray⟩ := by
    apply ByteArray.ext
    rw [ByteArray.data_extract]
    apply Array.ext'
    simp
  rw [← e]
  simp [go_sem, Tryd.underlying9, h5]
theorem run_suf (s : ByteArray) (k : Nat) (hk : k ≤ s.size) (w : World) :
    (Instr.slice 9 (.string s) (some (.int .i64 (k : Int))) none none).run Tryd.prog w = .ok (.string ⟨(s.data.toList.drop k).toArray⟩) w := by
  have h1 : (0 : Int) ≤ (k : Int) := by omega
  have h5 : (k : Int) ≤ (s.size : Int) := by omega
  have e : s.extract k s.size = ⟨(s.data.toList.drop k).toArray⟩ := by
    apply ByteArray.ext
    rw [ByteArray.data_extract]
    apply Array.ext'
    simp
    exact List.take_of_length_le (by simp)
  rw [← e]
  simp [go_sem, Tryd.underlying9, h1, h5]

end Go.Proofs.YtffogcjlpojpdaaDoor
