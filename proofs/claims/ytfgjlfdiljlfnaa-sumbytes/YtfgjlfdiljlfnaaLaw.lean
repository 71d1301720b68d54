/-
  The law's walk.
-/
import Derived.Test.YtfgjlfdiljlfnaaRefAll
import Derived.Test.YtfgjlfdiljlfnaaBts
namespace Go.Proofs.Ytfgjlfdiljlfnaa
open Go.RowKit
theorem chk_isDig (l : List UInt8) : chk l = isDig l := by
  unfold chk isDig hasP cutP Lib.trimPrefix Lib.hasPrefix
  by_cases h : l.take 7 = pre
  · have hp : List.isPrefixOf pre l = true := by
      rw [List.isPrefixOf_iff_prefix, ← h]
      exact List.take_prefix _ _
    have h7 : 7 ≤ l.length := by
      have := congrArg List.length h
      simp [pre] at this
      omega
    simp only [hp, if_true]
    rw [show pre.length = 7 from rfl, h]
    simp only [Bool.true_and, beq_self_eq_true, Bool.and_true]
    congr 1
    simp
    omega
  · have hp : List.isPrefixOf pre l = false := by
      rw [Bool.eq_false_iff]
      intro hp
      rw [List.isPrefixOf_iff_prefix] at hp
      apply h
      have := List.prefix_iff_eq_take.1 hp
      rw [this]
      rfl
    rw [hp, show (l.take 7 == pre) = false from by simpa using h]
    simp

set_option maxHeartbeats 1000000 in
theorem law_walk (s : ByteArray) (w : World) (hs : s.size ≤ 140737488351232) :
    Calls Try.prog 3 #[.string s] w fun e w' => e = .returned (.bool true) ∧ Below w.heap.size w w' := by
  have hm : s.size ≤ maxLen := by unfold maxLen; omega
  have HC : Hid (chk s.data.toList = isDig s.data.toList) := chk_isDig _
  go_enter Try.func3, Try.ntmps3
  go_wp2_with (first | (go_at_call 4; refine (bts_any s _ hs).mono ?_; rintro e w1 ⟨rfl, hb1⟩) | (go_at_call 5; refine (ref_any s _ hm).mono ?_; rintro e w2 ⟨rfl, hb2⟩) | (go_at_call 6; refine (check_any s _).mono ?_; rintro e w3 ⟨rfl, h3⟩; subst w3; rw [HC.out]) | (go_at_call 7; refine (num_any _ _).mono ?_; rintro e w4 ⟨rfl, h4⟩; subst w4) | (go_at_call 8; refine (isDigest_any s _ hm).mono ?_; rintro e w5 ⟨rfl, h5⟩; subst w5))
  go_ret
  exact ⟨rfl, hb1.trans (hb2.mono hb1.size)⟩
end Go.Proofs.Ytfgjlfdiljlfnaa
