import Derived.Test.YtkafaocbeankiaaGreatDoorM24
import Derived.Test.YtkafaocbeankiaaGreatDoorM08
/-
  The sweep, walked, where all lists are wanted.
-/
namespace Go.Proofs.YtkafaocbeankiaaGreatDoor
open Go.RowKit
set_option linter.unusedVariables false

end Go.Proofs.YtkafaocbeankiaaGreatDoor

/-
  Growth, with the draws counted; digits alone.
-/
namespace Go.Proofs.YtkafaocbeankiaaGreatDoor
open Go.RowKit
set_option linter.unusedVariables false
/-- grown, and no draw taken back -/
def Gr (w w' : World) : Prop := w.grownBy w' none ∧ w.drawn ≤ w'.drawn
theorem gr_refl (w : World) : Gr w w := ⟨gb_refl w none, Nat.le_refl _⟩
theorem gr_drew {w w' : World} (h : Gr w w') (n : Nat) : Gr w (w'.drewN n) := ⟨gb_drew h.1 n, Nat.le_trans h.2 (by simp [World.drewN])⟩
theorem gr_trans {w w1 w2 : World} (h : Gr w w1) (h' : Gr w1 w2) : Gr w w2 := ⟨gb_trans h.1 h'.1, Nat.le_trans h.2 h'.2⟩
theorem gr_alloc {w w' : World} (h : Gr w w') (o : Obj) : Gr w (w'.alloc o) := ⟨gb_alloc h.1 o, h.2⟩
theorem gr_bytes (w : World) (e : TypeId) (s : ByteArray) : Gr w (Lib.bytesWorld w e s) := ⟨gb_bytes w e s, Nat.le_succ w.drawn⟩
end Go.Proofs.YtkafaocbeankiaaGreatDoor
namespace Go.Proofs.YtkafaocbeankiaaGreatDoor.G
open Go.RowKit
set_option maxHeartbeats 400000 in
theorem isDigits_any (s : ByteArray) (w : World) (hs : s.size < 2 ^ 62) :
    Calls Tryz.prog 85 #[.string s] w fun e w' => e = .returned (.bool (numT s.data.toList)) ∧ Gr w w' := by
  have kc := fun (w : World) => Lib.run_convert_string_bytes (P := Tryz.prog) w 9 54 5 s Tryz.underlying9 Tryz.underlying54 Tryz.underlying5
  obtain ⟨W, hW⟩ : ∃ W, Lib.bytesWorld w 5 s = W := ⟨_, rfl⟩
  have HC : Hid (∀ j, (hj : j < s.size) → W.cell? ⟨w.heap.size, j, none⟩ = some (.int .u8 (s[j].toNat : Int))) := by
    show ∀ j, (hj : j < s.size) → W.cell? ⟨w.heap.size, j, none⟩ = some (.int .u8 (s[j].toNat : Int))
    intro j hj
    rw [← hW, Lib.bytesWorld_cell w _ s j hj]
    have : s.data.toList.getD j 0 = s[j] := by
      rw [List.getD_eq_getElem?_getD, get_data s j hj]; rfl
    rw [this]
  have HG : Hid (Gr w W) := by show Gr w W; rw [← hW]; exact gr_bytes w _ s
  have kw := kc w
  rw [hW] at kw
  clear kc hW
  go_enter Tryz.func85, Tryz.ntmps85
  go_wp2
  go_loop [8] (fun i => ∃ k : Nat, k ≤ s.size ∧ i = .int .i64 k ∧ ∀ j, (hj : j < s.size) → j < k → isD s[j] = true) (fun i => s.size - (intOf i).toNat)
  case atStart => exact ⟨0, Nat.zero_le _, rfl, fun j hj h => absurd h (by omega)⟩
  case round =>
    obtain ⟨k, hk, rfl, hp⟩ := hrel
    have HP : Hid (∀ j, (hj : j < s.size) → j < k → isD s[j] = true) := hp
    clear hp
    by_cases hlt : k < s.size
    · have ck := HC.out k hlt
      cases hd : isD s[k] with
      | true =>
        go_wp2_with (go_at_call 101; refine (isDigit_any _ _).mono ?_; rintro e w' ⟨rfl, rfl⟩)
        go_round
        case rel =>
          refine ⟨k + 1, by omega, by go_num, fun j hj hjk => ?_⟩
          by_cases hjk' : j < k
          · exact HP.out j hj hjk'
          · have e : j = k := by omega
            subst e
            exact hd
        case measure => simp [intOf]; omega
      | false =>
        have HN : Hid (numT s.data.toList = false) := by
          show numT s.data.toList = false
          unfold numT
          have : s.data.toList.all isD = false := by
            rw [List.all_eq_false]
            exact ⟨s[k], List.mem_of_getElem? (get_data s k hlt), by simp [hd]⟩
          rw [this, Bool.and_false]
        go_wp2_with (go_at_call 101; refine (isDigit_any _ _).mono ?_; rintro e w' ⟨rfl, rfl⟩)
        go_ret
        exact ⟨ret_bool HN.out.symm, HG.out⟩
    · have hks : k = s.size := by omega
      have HA : Hid (s.data.toList.all isD = true) := by
        show s.data.toList.all isD = true
        rw [List.all_eq_true]
        intro c hc
        obtain ⟨j, hj, rfl⟩ := List.getElem_of_mem hc
        exact HP.out j (by simpa using hj) (by simp at hj; have : s.size = s.data.size := rfl; omega)
      clear hks hk
      go_wp2
      go_ret
      refine ⟨ret_bool ?_, HG.out⟩
      unfold numT
      rw [Lib.toList_data, HA.out, Bool.and_true]

end Go.Proofs.YtkafaocbeankiaaGreatDoor.G

/-
  Parts behind their interface, walked.
-/
namespace Go.Proofs.YtkafaocbeankiaaGreatDoor.G
open Go.RowKit
set_option linter.unusedVariables false

/-- a part as the program holds it -/
def partV (l : List UInt8) : Value := if numT l then .iface 133 (.string ⟨(bareT l).toArray⟩) else .iface 135 (.string ⟨l.toArray⟩)

set_option maxHeartbeats 400000 in
theorem partOf_any (s : ByteArray) (w : World) (hs : s.size < 2 ^ 62) :
    Calls Tryz.prog 66 #[.string s] w fun e w' => e = .returned (partV s.data.toList) ∧ Gr w w' := by
  unfold partV
  cases hn : numT s.data.toList with
  | true =>
    have HN : Hid (numT s.data.toList = true) := hn
    clear hn
    rw [if_pos rfl]
    go_enter Tryz.func66, Tryz.ntmps66
    go_wp2_with (first | (go_at_call 85; refine (isDigits_any _ _ hs).mono ?_; rw [HN.out]; rintro e w1 ⟨rfl, hg1⟩) | (go_at_call 86; refine (trim_any _ _).mono ?_; rintro e w' ⟨rfl, rfl⟩))
    go_ret
    exact ⟨rfl, hg1⟩
  | false =>
    have HN : Hid (numT s.data.toList = false) := hn
    clear hn
    rw [if_neg (by simp)]
    go_enter Tryz.func66, Tryz.ntmps66
    go_wp2_with (first | (go_at_call 85; refine (isDigits_any _ _ hs).mono ?_; rw [HN.out]; rintro e w1 ⟨rfl, hg1⟩))
    go_ret
    exact ⟨rfl, hg1⟩

theorem taNN (b : ByteArray) (w : World) : (Instr.typeAssert (.iface 133 (.string b)) 110 133 true).run Tryz.prog w = .ok (.tuple #[.string b, .bool true]) w := by kernel_rfl
theorem taWN (b : ByteArray) (w : World) : (Instr.typeAssert (.iface 135 (.string b)) 110 133 true).run Tryz.prog w = .ok (.tuple #[.string ⟨#[]⟩, .bool false]) w := by kernel_rfl
theorem taWW (b : ByteArray) (w : World) : (Instr.typeAssert (.iface 135 (.string b)) 110 135 true).run Tryz.prog w = .ok (.tuple #[.string b, .bool true]) w := by kernel_rfl
theorem taNW (b : ByteArray) (w : World) : (Instr.typeAssert (.iface 133 (.string b)) 110 135 true).run Tryz.prog w = .ok (.tuple #[.string ⟨#[]⟩, .bool false]) w := by kernel_rfl

set_option maxHeartbeats 400000 in
theorem orderNN_eq (a b : ByteArray) (w : World) (h : a.size = b.size) : Calls Tryz.prog 141 #[.string a, .iface 133 (.string b)] w fun e w' => e = .returned (.int .i64 (Lib.compareBytes a.data.toList b.data.toList)) ∧ ∃ n, w' = w.drewN n := by
  have ta := taNN b
  have hd : ((a.size : Int) == (b.size : Int)) = true := by simp; omega
  clear h
  go_enter Tryz.func141, Tryz.ntmps141
  go_wp2_with (first | (go_at_call 142; refine (cmpN_any _ _ _).mono ?_; rintro e w' ⟨rfl, rfl⟩))
  go_ret
  exact ⟨rfl, 0, rfl⟩
set_option maxHeartbeats 400000 in
theorem orderNN_ne (a b : ByteArray) (w : World) (h : ¬ a.size = b.size) : Calls Tryz.prog 141 #[.string a, .iface 133 (.string b)] w fun e w' => e = .returned (.int .i64 (Lib.compareInt a.size b.size)) ∧ ∃ n, w' = w.drewN n := by
  have ta := taNN b
  have hd : ((a.size : Int) == (b.size : Int)) = false := by simp; omega
  clear h
  go_enter Tryz.func141, Tryz.ntmps141
  go_wp2_with (first | (go_at_call 52; refine (cmpInt_any _ _ _).mono ?_; rintro e w' ⟨rfl, rfl⟩))
  go_ret
  exact ⟨rfl, 0, rfl⟩
set_option maxHeartbeats 400000 in
theorem orderNW (a b : ByteArray) (w : World) : Calls Tryz.prog 141 #[.string a, .iface 135 (.string b)] w fun e w' => e = .returned (.int .i64 (-1)) ∧ ∃ n, w' = w.drewN n := by
  have ta := taWN b
  go_enter Tryz.func141, Tryz.ntmps141
  go_wp2
  go_ret
  exact ⟨rfl, 0, rfl⟩
set_option maxHeartbeats 400000 in
theorem orderWN (a b : ByteArray) (w : World) : Calls Tryz.prog 144 #[.string a, .iface 133 (.string b)] w fun e w' => e = .returned (.int .i64 1) ∧ ∃ n, w' = w.drewN n := by
  have ta := taNW b
  go_enter Tryz.func144, Tryz.ntmps144
  go_wp2
  go_ret
  exact ⟨rfl, 0, rfl⟩
set_option maxHeartbeats 400000 in
theorem orderWW (a b : ByteArray) (w : World) : Calls Tryz.prog 144 #[.string a, .iface 135 (.string b)] w fun e w' => e = .returned (.int .i64 (Lib.compareBytes a.data.toList b.data.toList)) ∧ ∃ n, w' = w.drewN n := by
  have ta := taWW b
  go_enter Tryz.func144, Tryz.ntmps144
  go_wp2_with (first | (go_at_call 145; refine (cmpW_any _ _ _).mono ?_; rintro e w' ⟨rfl, rfl⟩))
  go_ret
  exact ⟨rfl, 0, rfl⟩
end Go.Proofs.YtkafaocbeankiaaGreatDoor.G
