/-
  Parse, walked.
-/
import Derived.Test.YtlfekpgoibgplaaDoorWy
namespace Go.Proofs.YtlfekpgoibgplaaDoor
open Go.RowKit
set_option linter.unusedVariables false

theorem res_row_tmp2 {P : Program} {fn : Func} {p u r : Tmp} {ty : TypeId} (h : fn.results = #[.cell p ty, .tmp u, .tmp r]) (tmps : Array Value) (w : World) (g : Nat) (t : TypeId) (cs : Array Value) (fr : Nat × Nat) (d : TypeDesc)
    (hp : tmps.getD p undef = .pointer (some ⟨g, 0, none⟩)) (hg : w.heap[g]? = some (.cells cs t fr)) (hu : P.underlying ty = some d) (hd : (match d with | .struct _ | .array _ _ => true | _ => false) = true) (hi : (P.info? ty).map (·.size) = some cs.size) :
    (results fn tmps).run P w = .ok (.tuple #[.agg cs, tmps.getD u undef, tmps.getD r undef]) w := by
  have hp' : tmps[p]?.getD undef = .pointer (some ⟨g, 0, none⟩) := by simpa using hp
  simp [results, h, Result.andThen, hp', asAddr, run_loadVar_row w g t ty cs fr d hg hu hd hi]

theorem gb_new0 {A : Nat} {w W : World} (h : w.grownBy W none) (hA : w.heap.size ≤ A) (o : Nat) (x : Value) : w.grownBy (W.setCell ⟨A, o, none⟩ x) none :=
  ⟨h.os, h.tape, h.output, by simpa [World.setCell] using h.size, fun k hk hn => by rw [← h.block k hk hn]; exact heap_setCell_other W _ k x (by simp; omega)⟩
theorem put5_gb0 {A : Nat} {w W : World} (h : w.grownBy W none) (hA : w.heap.size ≤ A) (y1 y2 y3 : Int) (x4 x5 : ByteArray) : w.grownBy (put5 W A y1 y2 y3 x4 x5) none := gb_new0 (gb_new0 (gb_new0 (gb_new0 (gb_new0 h hA _ _) hA _ _) hA _ _) hA _ _) hA _ _
theorem ver_bad (l : List UInt8) (h : ¬ (rdVer l).1 = 0) : (rdVer l).2.2 = zeroV := by
  unfold rdVer at h ⊢
  repeat' split
  all_goals first | rfl | (exfalso; simp_all)
theorem ver_good (l : List UInt8) (h : (rdVer l).1 = 0) : (rdVer l).2.1 = 0 := by
  unfold rdVer at h ⊢
  repeat' split
  all_goals first | rfl | (exfalso; simp_all)
/-- a parsed version, as a value -/
def valV (v : Vv) : Value := .agg #[.int .i64 v.major, .int .i64 v.minor, .int .i64 v.patch, .string ⟨v.pre.toArray⟩, .string ⟨v.build.toArray⟩]

set_option maxRecDepth 100000 in
set_option maxHeartbeats 1600000 in
theorem parse_any (s : ByteArray) (w : World) (hs : s.size < 2 ^ 62) :
    Calls Tryd.prog 17 #[.string s] w fun e w' => e = .returned (.tuple #[valV (parseV s.data.toList).2.2, .int .i64 (parseV s.data.toList).1, .int .i64 ((parseV s.data.toList).2.1 : Nat)]) ∧ w.grownBy w' none := by
  by_cases h100 : 100 < s.size
  · have hp : parseV s.data.toList = (1, 0, zeroV) := by unfold parseV; rw [if_pos (by simpa using h100)]
    rw [hp]
    clear hp
    go_enter Tryd.func17, Tryd.ntmps17
    go_wp2
    exact bodyPost_ret (res_row_tmp2 (p := 2) (u := 3) (r := 4) rfl _ _ w.heap.size _ _ (0, 0) _ rfl (heap_alloc_new w _) Tryd.underlying25 rfl (by kernel_rfl)) rfl ⟨rfl, gb_alloc (gb_refl w none) _⟩
  · have hp : parseV s.data.toList = rdVer s.data.toList := by unfold parseV; rw [if_neg (by simpa using h100)]
    rw [hp]
    have CV : Hid (∀ b w, RS b s 0 w → Calls Tryd.prog 30 #[.pointer (some ⟨b, 0, none⟩)] w (VerPost b s w)) := fun b w h => version_any b s w h (by omega)
    clear hp hs
    go_enter Tryd.func17, Tryd.ntmps17
    go_wp2_with (go_at_call 30; refine (CV.out _ _ (row2 w _ _)).mono ?_)
    rintro e w1 ⟨x1, x2, x3, x4, x5, E, j, rfl, hr, hg, hE, hok, herr⟩
    obtain ⟨A, hA⟩ : ∃ A, w.heap.size = A := ⟨_, rfl⟩
    have HXA : Hid (VX A 0 0 0 ⟨#[]⟩ ⟨#[]⟩ w1) := by
      show w1.heap[A]? = _
      rw [← hA, hg.block w.heap.size (by simp; omega) (by simp), Lib.alloc_old _ _ _ (by simp)]
      exact heap_alloc_new w _
    have HG : Hid (w.grownBy w1 none) := by
      refine ⟨hg.os, hg.tape, hg.output, by have := hg.size; simp at this; omega, fun k hk _ => ?_⟩
      rw [hg.block k (by simp; omega) (by simp; omega), Lib.alloc_old _ _ _ (by simp; omega), Lib.alloc_old _ _ _ hk]
    have HWA : Hid (w.heap.size ≤ A) := Nat.le_of_eq hA
    have HE : Hid (E = (rdVer s.data.toList).1 ∧ (E = 0 → (rdVer s.data.toList).2.2 = ⟨x1, x2, x3, x4, x5⟩) ∧ (E ≠ 0 → (rdVer s.data.toList).2.1 = j)) := ⟨hE, hok, herr⟩
    rw [hA] at hr
    have HR : Hid (RS (A + 1) s j w1) := hr
    rw [hA]
    clear hA hr hg hE hok herr
    obtain ⟨ca0, ca1, ca2, ca3, ca4⟩ := HXA.out.cells
    have ra := HXA.out.f
    have r1 := HR.out.c1
    have hlt1 : A + 1 < w1.heap.size := (Array.getElem?_eq_some_iff.1 HR.out).1
    have hlt0 : A < w1.heap.size := by omega
    cases hz : (E == 0) with
    | false =>
      go_wp2
      obtain ⟨W, hW⟩ : ∃ W, w1.alloc (.cells #[.int .i64 x1, .int .i64 x2, .int .i64 x3, .string ⟨x4.toArray⟩, .string ⟨x5.toArray⟩] 25) = W := ⟨_, rfl⟩
      have hgW : w1.grownBy W none := by rw [← hW]; exact gb_alloc (gb_refl w1 none) _
      have HXW : Hid (VX A 0 0 0 ⟨#[]⟩ ⟨#[]⟩ W) := by show W.heap[A]? = _; rw [hgW.block A hlt0 (by simp)]; exact HXA.out
      have HRW : Hid (RS (A + 1) s j W) := HR.out.grow hgW
      have HGW : Hid (w.grownBy W none) := gb_trans HG.out hgW
      rw [hW]
      clear hW hgW ca0 ca1 ca2 ca3 ca4 ra r1 hlt0 hlt1 HR HG HXA
      obtain ⟨ca0, ca1, ca2, ca3, ca4⟩ := HXW.out.cells
      have ra := HXW.out.f
      have r1 := HRW.out.c1
      have HF : Hid ((rdVer s.data.toList).2.2 = zeroV ∧ (rdVer s.data.toList).2.1 = j ∧ (rdVer s.data.toList).1 = E) := by
        have h0 : ¬ E = 0 := by simpa using hz
        have h := HE.out
        exact ⟨ver_bad _ (by rw [← h.1]; exact h0), h.2.2 h0, h.1.symm⟩
      go_region
      go_wp2
      refine bodyPost_ret (res_row_tmp2 (p := 2) (u := 3) (r := 4) rfl _ _ A _ _ (0, 0) _ rfl (put5_row HXW.out 0 0 0 ⟨#[]⟩ ⟨#[]⟩) Tryd.underlying25 rfl (by kernel_rfl)) rfl ⟨?_, gb_drew (put5_gb0 HGW.out HWA.out 0 0 0 ⟨#[]⟩ ⟨#[]⟩) 1⟩
      rw [HF.out.1, HF.out.2.1, HF.out.2.2]; rfl
    | true =>
      have hE0 : E = 0 := by simpa using hz
      have HF : Hid ((rdVer s.data.toList).2.2 = ⟨x1, x2, x3, x4, x5⟩ ∧ (rdVer s.data.toList).2.1 = 0 ∧ (rdVer s.data.toList).1 = 0) := by
        have h := HE.out
        have h1 : (rdVer s.data.toList).1 = 0 := by rw [← h.1]; exact hE0
        exact ⟨h.2.1 hE0, ver_good _ h1, h1⟩
      subst hE0
      go_wp2
      refine bodyPost_ret (res_row_tmp2 (p := 2) (u := 3) (r := 4) rfl _ _ A _ #[.int .i64 x1, .int .i64 x2, .int .i64 x3, .string ⟨x4.toArray⟩, .string ⟨x5.toArray⟩] (0, 0) _ rfl ((Lib.alloc_old _ _ _ (by simpa [World.setCell] using hlt0)).trans (put5_row HXA.out x1 x2 x3 ⟨x4.toArray⟩ ⟨x5.toArray⟩)) Tryd.underlying25 rfl (by kernel_rfl)) rfl ⟨?_, gb_alloc (put5_gb0 HG.out HWA.out x1 x2 x3 ⟨x4.toArray⟩ ⟨x5.toArray⟩) _⟩
      rw [HF.out.1, HF.out.2.1, HF.out.2.2]; rfl
end Go.Proofs.YtlfekpgoibgplaaDoor
