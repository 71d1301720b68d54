/-
  Normal, Meet and Join, walked.
-/
import Derived.Test.YtffogcjlpojpdaaDoorPc
import Derived.Test.YtffogcjlpojpdaaDoorPe
import Derived.Test.YtffogcjlpojpdaaDoorPs
namespace Go.Proofs.YtffogcjlpojpdaaDoor
open Go.RowKit
set_option linter.unusedVariables false

theorem sps_slice {w : World} {sl : Value} {L : List Sp} (h : SpS w sl L) : ∃ o n c, sl = .slice o n c := by
  rcases h with ⟨rfl, _⟩ | ⟨a, cap, rfl, _⟩
  · exact ⟨_, _, _, rfl⟩
  · exact ⟨_, _, _, rfl⟩
theorem SweepPost.from {ch : Int → Bool} {Ls : List (List Sp)} {w w1 : World} {e : Ending} {w' : World} (hg : w.grownBy w1 none) (h : SweepPost ch Ls w1 e w') : SweepPost ch Ls w e w' := ⟨gb_trans hg h.1, h.2⟩
theorem SweepPost.two {ch : Int → Bool} {Ls : List (List Sp)} {w : World} {e : Ending} {w' : World} (h : SweepPost ch Ls w e w') : ∃ o n c r, e = .returned (.tuple #[.slice o n c, .int .i64 r]) := by
  rcases h.2 with ⟨_, rfl⟩ | ⟨_, E, vs, _, _, rfl, hs⟩
  · exact ⟨_, _, _, _, rfl⟩
  · obtain ⟨o, n, c, rfl⟩ := sps_slice hs
    exact ⟨_, _, _, _, rfl⟩

set_option maxRecDepth 100000 in
set_option maxHeartbeats 1600000 in
theorem normal_any (sl : Value) (L : List Sp) (w : World) (h : SpS w sl L) (hL : L.length ≤ 1048576) (hsz : ∀ s ∈ L, smallS s) :
    Calls Tryd.prog 16 #[sl] w (SweepPost (fun x => decide (0 < x)) [L] w) := by
  have HA : Hid (SpS w sl L) := h
  have CS : Hid (∀ a w, Lists w a [L] → Calls Tryd.prog 29 #[.func (.func 30) #[] #[], .slice (some a) 1 1] w (SweepPost (fun x => decide (0 < x)) [L] w)) := fun a w h => sweep_some sortSays a 1 1 [L] w rfl (by omega) (by omega) h (by intro l hl; simp at hl; subst hl; exact ⟨hL, hsz⟩)
  obtain ⟨o, n, c, rfl⟩ := sps_slice h
  clear h hL hsz
  go_enter Tryd.func16, Tryd.ntmps16
  go_wp2_with (first | (go_at_call 29; refine (CS.out _ _ ?_).mono ?_))
  · have hg := gb_alloc (gb_refl w none) (.cells #[.slice o n c] 29)
    intro j hj
    have hj' : j = 0 := by simp at hj; omega
    subst hj'
    exact ⟨.slice o n c, by rw [show (⟨w.heap.size, 0, none⟩ : Addr).add 0 = ⟨w.heap.size, 0, none⟩ from add_zero_off _ _, Lib.cell_of_heap (heap_alloc_new w _)]; rfl, HA.out.grow hg⟩
  intro e w1 hp
  have HP := SweepPost.from (gb_alloc (gb_refl w none) _) hp
  clear hp
  obtain ⟨o2, n2, c2, r2, rfl⟩ := HP.two
  have HQ : Hid (SweepPost (fun x => decide (0 < x)) [L] w (.returned (.tuple #[.slice o2 n2 c2, .int .i64 r2])) w1) := HP
  clear HP
  go_wp2
  exact bodyPost_ret (results_tmp2 (t := 2) (u := 3) rfl _ _ _) rfl HQ.out

set_option maxRecDepth 100000 in
set_option maxHeartbeats 1600000 in
theorem meet_any (sl sm : Value) (L M : List Sp) (w : World) (h : SpS w sl L) (h' : SpS w sm M) (hL : L.length ≤ 1048576) (hsz : ∀ s ∈ L, smallS s) (hM : M.length ≤ 1048576) (hsm : ∀ s ∈ M, smallS s) :
    Calls Tryd.prog 18 #[sl, sm] w (SweepPost (fun x => decide (x = ((2 : Nat) : Int))) [L, M] w) := by
  have HA : Hid (SpS w sl L) := h
  have HB : Hid (SpS w sm M) := h'
  have CS : Hid (∀ a w, Lists w a [L, M] → Calls Tryd.prog 29 #[.func (.func 31) #[] #[], .slice (some a) 2 2] w (SweepPost (fun x => decide (x = ((2 : Nat) : Int))) [L, M] w)) := fun a w h => sweep_every sortSays a 2 2 [L, M] w rfl (by omega) (by omega) h (by intro l hl; simp at hl; rcases hl with rfl | rfl <;> first | exact ⟨hL, hsz⟩ | exact ⟨hM, hsm⟩)
  obtain ⟨o, n, c, rfl⟩ := sps_slice h
  obtain ⟨o', n', c', rfl⟩ := sps_slice h'
  clear h'
  clear hM hsm
  clear h hL hsz
  go_enter Tryd.func18, Tryd.ntmps18
  go_wp2_with (first | (go_at_call 29; refine (CS.out _ _ ?_).mono ?_))
  · have hg := gb_alloc (gb_refl w none) (.cells #[.slice o n c, .slice o' n' c'] 29)
    intro j hj
    have hj' : j = 0 ∨ j = 1 := by simp at hj; omega
    rcases hj' with rfl | rfl
    · exact ⟨.slice o n c, by rw [show (⟨w.heap.size, 0, none⟩ : Addr).add 0 = ⟨w.heap.size, 0, none⟩ from add_zero_off _ _, Lib.cell_of_heap (heap_alloc_new w _)]; rfl, HA.out.grow hg⟩
    · exact ⟨.slice o' n' c', by rw [show (⟨w.heap.size, 0, none⟩ : Addr).add 1 = ⟨w.heap.size, 1, none⟩ from add_zero_off _ _, Lib.cell_of_heap (heap_alloc_new w _)]; rfl, HB.out.grow hg⟩
  intro e w1 hp
  have HP := SweepPost.from (gb_alloc (gb_refl w none) _) hp
  clear hp
  obtain ⟨o2, n2, c2, r2, rfl⟩ := HP.two
  have HQ : Hid (SweepPost (fun x => decide (x = ((2 : Nat) : Int))) [L, M] w (.returned (.tuple #[.slice o2 n2 c2, .int .i64 r2])) w1) := HP
  clear HP
  go_wp2
  exact bodyPost_ret (results_tmp2 (t := 4) (u := 5) rfl _ _ _) rfl HQ.out

set_option maxRecDepth 100000 in
set_option maxHeartbeats 1600000 in
theorem join_any (sl sm : Value) (L M : List Sp) (w : World) (h : SpS w sl L) (h' : SpS w sm M) (hL : L.length ≤ 1048576) (hsz : ∀ s ∈ L, smallS s) (hM : M.length ≤ 1048576) (hsm : ∀ s ∈ M, smallS s) :
    Calls Tryd.prog 19 #[sl, sm] w (SweepPost (fun x => decide (0 < x)) [L, M] w) := by
  have HA : Hid (SpS w sl L) := h
  have HB : Hid (SpS w sm M) := h'
  have CS : Hid (∀ a w, Lists w a [L, M] → Calls Tryd.prog 29 #[.func (.func 30) #[] #[], .slice (some a) 2 2] w (SweepPost (fun x => decide (0 < x)) [L, M] w)) := fun a w h => sweep_some sortSays a 2 2 [L, M] w rfl (by omega) (by omega) h (by intro l hl; simp at hl; rcases hl with rfl | rfl <;> first | exact ⟨hL, hsz⟩ | exact ⟨hM, hsm⟩)
  obtain ⟨o, n, c, rfl⟩ := sps_slice h
  obtain ⟨o', n', c', rfl⟩ := sps_slice h'
  clear h'
  clear hM hsm
  clear h hL hsz
  go_enter Tryd.func19, Tryd.ntmps19
  go_wp2_with (first | (go_at_call 29; refine (CS.out _ _ ?_).mono ?_))
  · have hg := gb_alloc (gb_refl w none) (.cells #[.slice o n c, .slice o' n' c'] 29)
    intro j hj
    have hj' : j = 0 ∨ j = 1 := by simp at hj; omega
    rcases hj' with rfl | rfl
    · exact ⟨.slice o n c, by rw [show (⟨w.heap.size, 0, none⟩ : Addr).add 0 = ⟨w.heap.size, 0, none⟩ from add_zero_off _ _, Lib.cell_of_heap (heap_alloc_new w _)]; rfl, HA.out.grow hg⟩
    · exact ⟨.slice o' n' c', by rw [show (⟨w.heap.size, 0, none⟩ : Addr).add 1 = ⟨w.heap.size, 1, none⟩ from add_zero_off _ _, Lib.cell_of_heap (heap_alloc_new w _)]; rfl, HB.out.grow hg⟩
  intro e w1 hp
  have HP := SweepPost.from (gb_alloc (gb_refl w none) _) hp
  clear hp
  obtain ⟨o2, n2, c2, r2, rfl⟩ := HP.two
  have HQ : Hid (SweepPost (fun x => decide (0 < x)) [L, M] w (.returned (.tuple #[.slice o2 n2 c2, .int .i64 r2])) w1) := HP
  clear HP
  go_wp2
  exact bodyPost_ret (results_tmp2 (t := 4) (u := 5) rfl _ _ _) rfl HQ.out
end Go.Proofs.YtffogcjlpojpdaaDoor
