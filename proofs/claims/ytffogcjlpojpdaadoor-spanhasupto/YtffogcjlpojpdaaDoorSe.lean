/-
  equal of the law, walked, of two lists that are the same.
-/
import Derived.Test.YtffogcjlpojpdaaDoorSd
namespace Go.Proofs.YtffogcjlpojpdaaDoor
open Go.RowKit
set_option linter.unusedVariables false

set_option maxRecDepth 100000 in
set_option maxHeartbeats 1600000 in
theorem equal_at (a b : Addr) (capa capb : Nat) (L : List Sp) (w : World) (hL : L.length < 2 ^ 62) (ha : L.length ≤ capa) (hb : L.length ≤ capb) (h : SpAt w a L) (h' : SpAt w b L) :
    Calls Tryd.prog 13 #[.slice (some a) L.length capa, .slice (some b) L.length capb] w fun e w' => e = .returned (.bool true) ∧ w.grownBy w' none := by
  have HA : Hid (SpAt w a L) := h
  have HB : Hid (SpAt w b L) := h'
  clear h h'
  go_enter Tryd.func13, Tryd.ntmps13
  go_wp2
  go_loopw [5] (fun vi wr => ∃ i : Nat, vi = .int .i64 i ∧ i ≤ L.length ∧ w.grownBy wr none) (fun vi _ => L.length - (intOf vi).toNat)
  case atStart => exact ⟨0, rfl, Nat.zero_le _, gb_refl _ _⟩
  case round =>
    obtain ⟨i, rfl, hi, hg⟩ := hrel
    have HG : Hid (w.grownBy wr none) := hg
    clear hg
    by_cases hlt : i < L.length
    · obtain ⟨s, hs⟩ : ∃ s, L[i] = s := ⟨_, rfl⟩
      have HE : Hid (EltAt wr (a.add (i * 11)) s) := by show EltAt wr _ s; rw [← hs]; exact (HA.out i hlt).grow HG.out
      have HF : Hid (EltAt wr (b.add (i * 11)) s) := by show EltAt wr _ s; rw [← hs]; exact (HB.out i hlt).grow HG.out
      clear hs
      obtain ⟨e0, e1, e2, e3, e4, e5, e6, e7, e8, e9, e10⟩ := HE.out
      obtain ⟨f0, f1, f2, f3, f4, f5, f6, f7, f8, f9, f10⟩ := HF.out
      have q1 : (s.f4.toList == s.f4.toList) = true := by simp
      have q2 : (s.f5.toList == s.f5.toList) = true := by simp
      have q3 : (s.t4.toList == s.t4.toList) = true := by simp
      have q4 : (s.t5.toList == s.t5.toList) = true := by simp
      go_wp2
      go_quiet (fail)
      go_wp2
      go_roundw
      case rel => exact ⟨i + 1, by go_num, by omega, gb_drew HG.out _⟩
      case measure => simp [intOf]; omega
    · clear hi
      go_wp2
      go_ret
      exact ⟨rfl, HG.out⟩

set_option maxHeartbeats 400000 in
theorem equal_nil (x y : Option Addr) (c d : Nat) (w : World) : Calls Tryd.prog 13 #[.slice x 0 c, .slice y 0 d] w fun e w' => e = .returned (.bool true) ∧ w.grownBy w' none := by
  go_enter Tryd.func13, Tryd.ntmps13
  go_wp2
  go_loopw [5] (fun vi wr => vi = .int .i64 0 ∧ w.grownBy wr none) (fun vi _ => 0)
  case atStart => exact ⟨rfl, gb_refl _ _⟩
  case round =>
    obtain ⟨rfl, hg⟩ := hrel
    have HG : Hid (w.grownBy wr none) := hg
    clear hg
    go_wp2
    go_ret
    exact ⟨rfl, HG.out⟩
end Go.Proofs.YtffogcjlpojpdaaDoor
