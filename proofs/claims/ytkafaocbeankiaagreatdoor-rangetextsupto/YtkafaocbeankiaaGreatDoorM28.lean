import Derived.Test.YtkafaocbeankiaaGreatDoorM27
import Derived.Test.YtkafaocbeankiaaGreatDoorM23
import Derived.Test.YtkafaocbeankiaaGreatDoorM24
import Derived.Test.YtkafaocbeankiaaGreatDoorM25
import Derived.Test.YtkafaocbeankiaaGreatDoorM20
/-
  The sort of edges, by its contract.
-/
namespace Go.Proofs.YtkafaocbeankiaaGreatDoor
open Go.RowKit Go.Shelf Go.Sort
set_option linter.unusedVariables false

/-- edges whose texts are not too long -/
abbrev Eb := {e : Er // e.a4.size ≤ 1048576}
instance : Inhabited Eb := ⟨⟨default, by show (0 : Nat) ≤ _; omega⟩⟩
def encB (x : Eb) : List Value := erC x.1
def cfB (x y : Eb) : Int := verC (toEd x.1).at_ (toEd y.1).at_
theorem swoB : SWO (ltOf cfB) where
  irrefl x := by unfold ltOf cfB; rw [v_self]; rfl
  trans x y z h1 h2 := by
    unfold ltOf cfB at *
    have a1 := of_decide_eq_true h1
    have a2 := of_decide_eq_true h2
    exact decide_eq_true (v_lt_trans a1 a2)
  ntrans x y z h1 h2 := by
    unfold ltOf cfB at *
    have a1 := of_decide_eq_false h1
    have a2 := of_decide_eq_false h2
    apply decide_eq_false
    intro h3
    have b1 := v_anti (toEd x.1).at_ (toEd y.1).at_
    have b2 := v_anti (toEd y.1).at_ (toEd z.1).at_
    have b3 := v_le_trans (show verC (toEd z.1).at_ (toEd y.1).at_ ≤ 0 by omega) (show verC (toEd y.1).at_ (toEd x.1).at_ ≤ 0 by omega)
    have b4 := v_anti (toEd z.1).at_ (toEd x.1).at_
    omega
theorem gr_grow {w w' : World} (h : Gr w w') : ∃ q os, w' = grow (w.drewN q) os := by
  refine ⟨w'.drawn - w.drawn, w'.heap.extract w.heap.size w'.heap.size, ?_⟩
  obtain ⟨hg, hd⟩ := h
  have hh : w'.heap = w.heap ++ w'.heap.extract w.heap.size w'.heap.size := by
    apply Array.ext_getElem?
    intro k
    by_cases hk : k < w.heap.size
    · rw [Array.getElem?_append_left hk]; exact hg.block k hk (by simp)
    · rw [Array.getElem?_append_right (by omega), Array.getElem?_extract]
      by_cases hk2 : k < w'.heap.size
      · rw [if_pos (by omega)]; congr 1; omega
      · rw [if_neg (by omega), Array.getElem?_eq_none (by omega)]
  have h1 := hg.os
  have h2 := hg.tape
  have h3 := hg.output
  cases w'; cases w
  simp only [grow, World.drewN, World.mk.injEq] at *
  exact ⟨hh, h2, by omega, h1, h3⟩
theorem cmpB (w : World) (blk off size : Nat) : CmpLays Tryz.prog 50 #[] encB 7 cfB blk off size w := by
  intro m os dk hdk x y
  refine (cmpE_any x.1 y.1 _ x.2 y.2).mono ?_
  rintro e w' ⟨rfl, hg⟩
  exact ⟨rfl, gr_grow hg⟩
theorem encLen (x : Eb) : (encB x).length = 7 := rfl
theorem encOne (x : Eb) : ∀ v ∈ encB x, v.oneCell' = true := er_one x.1
theorem flatB (d : Array Eb) : (flatK encB 7 d).toList = (d.toList.map (·.1)).flatMap erC := by
  apply List.ext_getElem?
  intro j
  have hl : ((d.toList.map (·.1)).flatMap erC).length = d.size * 7 := by
    have : ∀ L : List Er, (L.flatMap erC).length = L.length * 7 := by
      intro L
      induction L with
      | nil => rfl
      | cons e L ih => rw [List.flatMap_cons, List.length_append, ih, List.length_cons]; show 7 + _ = _; omega
    rw [this]; simp
  by_cases hj : j < d.size * 7
  · have hi : j / 7 < d.size := by omega
    have h1 : (flatK encB 7 d).toList[j]? = some ((encB d[j / 7]!)[j % 7]!) := by
      rw [Array.getElem?_toList, Array.getElem?_eq_getElem (by simpa using hj)]
      have := get_flatK encB 7 d j hj
      rw [getElem!_pos _ j (by simpa using hj)] at this
      rw [this]
    have h2 := flat_er (d.toList.map (·.1)) (j / 7) (by simpa using hi) (j % 7) ((encB d[j / 7]!)[j % 7]!) (by
      rw [getElem!_pos d (j / 7) hi]
      have hk : j % 7 < (encB d[j / 7]).length := by rw [encLen]; omega
      rw [getElem!_pos _ (j % 7) hk]
      rw [List.getElem_map, Array.getElem_toList]
      exact List.getElem?_eq_getElem hk)
    rw [show j / 7 * 7 + j % 7 = j by omega] at h2
    rw [h1, h2]
  · rw [List.getElem?_eq_none (by simp; omega), List.getElem?_eq_none (by rw [hl]; omega)]
theorem eg : ∀ args w, (callFunc 50 args).run Tryz.prog w = .ok (.enter 50 args) w := enters_of Tryz.func50 (by kernel_rfl) rfl

set_option maxRecDepth 100000 in
theorem sortSays : SortSays := by
  intro ve E base w hown hlen hsmall
  obtain ⟨D, hD⟩ : ∃ D : Array Eb, D.toList.map (·.1) = E := ⟨(E.attach.map fun e => (⟨e.1, hsmall e.1 e.2⟩ : Eb)).toArray, by simp⟩
  have hDs : D.size = E.length := by rw [← hD]; simp
  have hown' := hown
  rcases hown.2 with ⟨rfl, h0⟩ | ⟨g, cap, cur, rfl, hb, hg, hn, hm, hs, ht⟩
  · refine (AnyF.slices_SortFunc_none Tryz.laysSort none 0 (.func (.func 50) #[] #[]) w).mono ?_
    rintro e w' ⟨rfl, rfl⟩
    have hE : E = [] := List.eq_nil_of_length_eq_zero h0
    subst hE
    exact ⟨rfl, [], List.Perm.refl _, List.Pairwise.nil, hown', ⟨rfl, rfl, rfl, Nat.le_refl _, fun _ _ _ => rfl⟩⟩
  · have hH : HoldsK encB 7 w g 0 D := by
      intro j hj
      have hj' : j < (E.flatMap erC).length := by rw [hown.1, ← hDs]; simpa using hj
      refine ⟨?_, Lib.frozen_of_heap hg _⟩
      have h1 : (flatK encB 7 D).toList[j]? = (E.flatMap erC)[j]? := by rw [flatB, hD]
      rw [Array.getElem?_toList, Array.getElem?_eq_getElem hj] at h1
      rw [Nat.zero_add, Lib.cell_of_heap hg]
      rw [getElem!_pos _ j hj]
      show cur[j]? = some (id _)
      rw [id, h1, ← ht, List.getElem?_take_of_lt (by rw [hown.1] at hj'; exact hj')]
      simp
    rw [← hDs]
    refine (AnyQ.slices_SortFunc Tryz.laysSort 7 Tryz.isAgg79 Tryz.sizeOf79 encB encLen encOne cfB swoB 50 #[] g 0 cap D w eg (cmpB w g 0 D.size) hH (Array.getElem?_eq_some_iff.1 hg).1 (by omega)).mono ?_
    rintro e w' ⟨rfl, d', m, os, hperm, hsort, hw'⟩
    have hds : d'.size = D.size := hperm.1
    have hgl : g < w.heap.size := (Array.getElem?_eq_some_iff.1 hg).1
    have hheap : w'.heap = (w.heap.modify g (onCells (putCells id 0 (flatK encB 7 d')))) ++ os := by rw [hw']; rfl
    have hg' : w'.heap[g]? = some (.cells (putCells id 0 (flatK encB 7 d') cur) 79) := by
      rw [hheap, Array.getElem?_append_left (by simpa using hgl), Array.getElem?_modify, if_pos rfl, hg]; rfl
    have hFs : (flatK encB 7 d').size = D.size * 7 := by simp [hds]
    have hcs : D.size * 7 ≤ cur.size := by rw [hs, hDs]; omega
    have hlen2 : ((d'.toList.map (·.1)).flatMap erC).length = D.size * 7 := by rw [← flatB, Array.length_toList, hFs]
    refine ⟨rfl, d'.toList.map (·.1), ?_, ?_, ⟨?_, .inr ⟨g, cap, _, ?_, hb, hg', ?_, hm, ?_, ?_⟩⟩, ?_⟩
    · rw [← hD]
      apply List.Perm.map
      have := hperm.2.2
      rw [Array.extract_size] at this
      rw [show d'.extract 0 D.size = d' by rw [← hds, Array.extract_size]] at this
      exact this
    · show List.Pairwise _ _
      rw [List.pairwise_iff_getElem]
      intro i j hi hj hij
      simp only [List.length_map, Array.length_toList] at hi hj
      have := hsort i j (Nat.zero_le _) hij (by omega)
      rw [getElem!_pos d' j hj, getElem!_pos d' i hi] at this
      have h3 := of_decide_eq_false this
      have h4 := v_anti (toEd d'[j].1).at_ (toEd d'[i].1).at_
      simp only [List.getElem_map, Array.getElem_toList]
      unfold cfB at h3
      omega
    · rw [hlen2]; simp [hds]
    · simp [hds]
    · simp [hds]; omega
    · simp [putCells, hs]
    · rw [show (d'.toList.map (·.1)).length = D.size by simp [hds], ← flatB]
      apply List.ext_getElem?
      intro j
      by_cases hj : j < D.size * 7
      · rw [List.getElem?_take_of_lt hj, Array.getElem?_toList, Array.getElem?_toList]
        rw [putCells, Array.getElem?_mapIdx, Array.getElem?_eq_getElem (show j < cur.size by omega)]
        rw [Option.map_some, if_pos ⟨Nat.zero_le _, by omega⟩, Nat.sub_zero, id, getElem!_pos _ j (by omega)]
        exact (Array.getElem?_eq_getElem _).symm
      · rw [List.getElem?_eq_none (by simp; omega), List.getElem?_eq_none (by rw [Array.length_toList]; omega)]
    · refine ⟨by rw [hw']; rfl, by rw [hw']; rfl, by rw [hw']; rfl, ?_, ?_⟩
      · rw [hheap]; simp
      · intro k hk hne
        have hkg : g ≠ k := by
          intro h; subst h; exact hne rfl
        rw [hheap, Array.getElem?_append_left (by simpa using hk), Array.getElem?_modify, if_neg hkg]
end Go.Proofs.YtkafaocbeankiaaGreatDoor

/-
  Normal, Meet and Join, walked.
-/
namespace Go.Proofs.YtkafaocbeankiaaGreatDoor
open Go.RowKit
set_option linter.unusedVariables false

theorem sps_slice {w : World} {sl : Value} {L : List Sp} (h : SpS w sl L) : ∃ o n c, sl = .slice o n c := by
  rcases h with ⟨rfl, _⟩ | ⟨a, cap, rfl, _⟩
  · exact ⟨_, _, _, rfl⟩
  · exact ⟨_, _, _, rfl⟩
theorem SweepPost.from {ch : Int → Bool} {Ls : List (List Sp)} {w w1 : World} {e : Ending} {w' : World} (hg : w.grownBy w1 none) (h : SweepPost ch Ls w1 e w') : SweepPost ch Ls w e w' := by
  refine ⟨gb_trans hg h.1, ?_⟩
  rcases h.2 with h1 | ⟨h1, E, vs, h2, h3, h4, h5, h6⟩
  · exact Or.inl h1
  · exact Or.inr ⟨h1, E, vs, h2, h3, h4, h5, own_down h6 hg.size⟩
theorem SweepPost.two {ch : Int → Bool} {Ls : List (List Sp)} {w : World} {e : Ending} {w' : World} (h : SweepPost ch Ls w e w') : ∃ o n c r, e = .returned (.tuple #[.slice o n c, .int .i64 r]) := by
  rcases h.2 with ⟨_, rfl⟩ | ⟨_, E, vs, _, _, rfl, hs, _⟩
  · exact ⟨_, _, _, _, rfl⟩
  · obtain ⟨o, n, c, rfl⟩ := sps_slice hs
    exact ⟨_, _, _, _, rfl⟩

set_option maxRecDepth 100000 in
set_option maxHeartbeats 1600000 in
theorem normal_any (sl : Value) (L : List Sp) (w : World) (h : SpS w sl L) (hL : L.length ≤ 1048576) (hsz : ∀ s ∈ L, smallS s) :
    Calls Tryz.prog 9 #[sl] w (SweepPost (fun x => decide (0 < x)) [L] w) := by
  have HA : Hid (SpS w sl L) := h
  have CS : Hid (∀ a w, Lists w a [L] → Calls Tryz.prog 19 #[.func (.func 20) #[] #[], .slice (some a) 1 1] w (SweepPost (fun x => decide (0 < x)) [L] w)) := fun a w h => sweep_some sortSays a 1 1 [L] w rfl (by omega) (by omega) h (by intro l hl; simp at hl; subst hl; exact ⟨hL, hsz⟩)
  obtain ⟨o, n, c, rfl⟩ := sps_slice h
  clear h hL hsz
  go_enter Tryz.func9, Tryz.ntmps9
  go_wp2_with (first | (go_at_call 19; refine (CS.out _ _ ?_).mono ?_))
  · have hg := gb_alloc (gb_refl w none) (.cells #[.slice o n c] 26)
    intro j hj
    have hj' : j = 0 := by simp at hj; omega
    subst hj'
    exact ⟨.slice o n c, by rw [show (⟨w.heap.size, 0, none⟩ : Addr).add 0 = ⟨w.heap.size, 0, none⟩ from add_zero_off _ _, Lib.cell_of_heap (heap_alloc_new w _)]; rfl, HA.out.grow hg⟩
  intro e w1 hp
  have HP := SweepPost.from (gb_alloc (gb_refl w none) _) hp
  clear hp
  obtain ⟨o2, n2, c2, r2, rfl⟩ := HP.two
  have HQ : Hid (SweepPost (fun x => decide (0 < x)) [L] w (.returned (.tuple #[.slice o2 n2 c2, .int .i64 r2])) w1) := HP
  clear HP
  go_wp2
  exact bodyPost_ret (results_tmp2 (t := 2) (u := 3) rfl _ _ _) rfl HQ.out

end Go.Proofs.YtkafaocbeankiaaGreatDoor

/-
  parts of the law, walked.
-/
namespace Go.Proofs.YtkafaocbeankiaaGreatDoor
open Go.RowKit
set_option linter.unusedVariables false

def partS (A B : List Sp) (s : Sp) : Bool := (holdsL A (cFrom s) != holdsL B (cFrom s)) || (!s.o && (holdsL A (cTo s) != holdsL B (cTo s)))
def partsL (A B C : List Sp) : Bool := C.any (partS A B)

end Go.Proofs.YtkafaocbeankiaaGreatDoor
