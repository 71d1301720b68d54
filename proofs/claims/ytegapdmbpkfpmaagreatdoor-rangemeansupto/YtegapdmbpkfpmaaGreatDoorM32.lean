import Derived.Test.YtegapdmbpkfpmaaGreatDoorM31
import Derived.Test.YtegapdmbpkfpmaaGreatDoorM09
import Derived.Test.YtegapdmbpkfpmaaGreatDoorM11
import Derived.Test.YtegapdmbpkfpmaaGreatDoorM05
/-
  Parse of ranges, walked.
-/
namespace Go.Proofs.YtegapdmbpkfpmaaGreatDoor
open Go.RowKit
set_option linter.unusedVariables false

/-- what Parse of a range leaves -/
def ParsePost (R : Int × Nat × List (List Te)) (w : World) (e : Ending) (w' : World) : Prop :=
  ∃ (o : Option Addr) (n c : Nat), e = .returned (.tuple #[.slice o n c, .int .i64 R.1, .int .i64 (R.2.1 : Int)]) ∧ w.grownBy w' none ∧ (¬ R.1 = 0 → Value.slice o n c = .slice none 0 0) ∧
    (R.1 = 0 → ∃ T, OS w' w.heap.size (.slice o n c) (outs T) ∧ LOk (outs T) 70000 ∧ NT T 2 ∧ Has (outs T) (admS R.2.2))
theorem range_sets (l : List UInt8) (h : ¬ 200 < l.length) : ((psets l (l.length + 1) 0 []).1 = 0 → rdRange l = (0, 0, (psets l (l.length + 1) 0 []).2.2)) ∧ (¬ (psets l (l.length + 1) 0 []).1 = 0 → rdRange l = ((psets l (l.length + 1) 0 []).1, (psets l (l.length + 1) 0 []).2.1, [])) := by
  obtain ⟨h1, h2, h3⟩ := sets_same l (l.length + 1) 0 [] (Nat.zero_le _)
  unfold rdRange
  rw [if_neg h]
  constructor
  · intro h0
    rw [if_pos (h1.symm.trans h0), h3 h0]
  · intro h0
    rw [if_neg (fun e => h0 (h1.trans e)), h1, h2]

set_option maxRecDepth 100000 in
set_option maxHeartbeats 800000 in
theorem rparse_any (s : ByteArray) (w : World) (hs : s.size < 2 ^ 62) :
    Calls Tryz.prog 11 #[.string s] w (ParsePost (rdRange s.data.toList) w) := by
  by_cases h200 : 200 < s.size
  · have hR : rdRange s.data.toList = (1, 0, []) := by unfold rdRange; rw [if_pos (by simpa using h200)]
    rw [hR]
    clear hR
    go_enter Tryz.func11, Tryz.ntmps11
    go_wp2
    exact bodyPost_ret (results_tmp3 (t := 2) (u := 3) (v := 4) rfl _ _ _) rfl ⟨_, _, _, rfl, gb_refl _ _, fun _ => rfl, fun h => absurd h (by simp)⟩
  · have hR := range_sets s.data.toList (by simpa using h200)
    have CS : Hid (∀ b w, RS b s 0 w → Calls Tryz.prog 32 #[.pointer (some ⟨b, 0, none⟩)] w (SetsPost b s (psets s.data.toList (s.data.toList.length + 1) 0 []) w)) := fun b w h => sets_any b s w h (by omega)
    have CN : Hid (∀ (sl : Value) (L : List Sp) (w : World), SpS w sl L → LOk L 70000 → Calls Tryz.prog 33 #[sl] w (TOst (holdsL L) 70000 w)) := fun sl L w h1 h2 => oNormal sl L 70000 w h1 h2 (by omega)
    obtain ⟨E, J, S, hP⟩ : ∃ E J S, psets s.data.toList (s.data.toList.length + 1) 0 [] = (E, J, S) := ⟨_, _, _, rfl⟩
    rw [hP] at CS hR
    have HR : Hid ((E = 0 → rdRange s.data.toList = (0, 0, S)) ∧ (¬ E = 0 → rdRange s.data.toList = (E, J, []))) := hR
    obtain ⟨R, hRR⟩ : ∃ R, rdRange s.data.toList = R := ⟨_, rfl⟩
    rw [hRR] at HR ⊢
    clear hR hP hRR hs
    go_enter Tryz.func11, Tryz.ntmps11
    go_wp2_with (first | (go_at_call 32; refine (CS.out _ _ ⟨_, heap_alloc_new w _⟩).mono ?_))
    rintro e w1 ⟨o, n, c, rfl, hr, hg, hok⟩
    obtain ⟨A, hA⟩ : ∃ A, w.heap.size = A := ⟨_, rfl⟩
    have HG : Hid (w.grownBy w1 none) := gb_own hg
    have hsz : w.heap.size ≤ (w.alloc (.cells #[.string s, .int .i64 0] 65)).heap.size := by simp
    have HOK : Hid (E = 0 → ∃ L, OS w1 w.heap.size (.slice o n c) L ∧ LOk L 70000 ∧ Has L (admS S)) := fun h => by
      obtain ⟨L, h1, h2, h3⟩ := hok h
      exact ⟨L, h1.base hsz, h2, h3⟩
    rw [hA] at hr
    have HR1 : Hid (RS A s J w1) := hr
    have HA : Hid (w.heap.size = A) := hA
    try rw [hA]
    clear hA hr hg hok hsz
    cases hz : (E == 0) with
    | false =>
      have hE0 : ¬ E = 0 := by simpa using hz
      have HE0 : Hid (¬ E = 0) := hE0
      have e1 := HR1.out.c1
      clear hE0
      go_wp2
      go_quiet (fail)
      go_wp2
      refine bodyPost_ret (results_tmp3 (t := 2) (u := 3) (v := 4) rfl _ _ _) rfl ?_
      rw [HR.out.2 HE0.out]
      exact ⟨_, _, _, rfl, gb_drew HG.out _, fun _ => rfl, fun h => absurd h HE0.out⟩
    | true =>
      have hE0 : E = 0 := by simpa using hz
      subst hE0
      obtain ⟨L, ho, hl, hh⟩ := HOK.out rfl
      have CNL : Hid (Calls Tryz.prog 33 #[.slice o n c] w1 (TOst (holdsL L) 70000 w1)) := CN.out _ L w1 ho.sps hl
      have HH : Hid (Has L (admS S)) := hh
      have HRR : Hid (R = (0, 0, S)) := HR.out.1 rfl
      clear ho hl hh hz HOK HR
      go_wp2_with (first | (go_at_call 33; refine CNL.out.mono ?_))
      rintro e w2 ⟨hg, o', n', c', T, rfl, hos, hlk, hnt, hh⟩
      have HF : Hid (w.grownBy w2 none ∧ OS w2 w.heap.size (.slice o' n' c') (outs T) ∧ LOk (outs T) 70000 ∧ NT T 2 ∧ Has (outs T) (admS S)) :=
        ⟨gb_trans HG.out hg, hos.base HG.out.size, hlk, hnt, fun v hv => by rw [hh]; exact HH.out v hv⟩
      clear hg hos hlk hnt hh
      go_wp2
      refine bodyPost_ret (results_tmp3 (t := 2) (u := 3) (v := 4) rfl _ _ _) rfl ?_
      rw [HRR.out]
      exact ⟨_, _, _, rfl, HF.out.1, fun h => absurd rfl h, fun _ => ⟨T, HF.out.2.1, HF.out.2.2.1, HF.out.2.2.2.1, HF.out.2.2.2.2⟩⟩
end Go.Proofs.YtegapdmbpkfpmaaGreatDoor

/-
  plain and with of the document, walked.
-/
namespace Go.Proofs.YtegapdmbpkfpmaaGreatDoor
open Go.RowKit
set_option linter.unusedVariables false

set_option maxHeartbeats 800000 in
theorem plain_any (v1 v2 v3 : Int) (v4 v5 : ByteArray) (w : World) :
    Calls Tryz.prog 95 #[.agg #[.int .i64 v1, .int .i64 v2, .int .i64 v3, .string v4, .string v5]] w fun e w' => e = .returned (.agg #[.int .i64 v1, .int .i64 v2, .int .i64 v3, .string v4, .string ⟨#[]⟩]) ∧ w.grownBy w' none := by
  go_enter Tryz.func95, Tryz.ntmps95
  go_wp2
  refine bodyPost_ret (results_cell_row rfl _ _ (w.heap.size + 1) 39 #[.int .i64 v1, .int .i64 v2, .int .i64 v3, .string v4, .string ⟨#[]⟩] (0, 0) _ rfl ?_ Tryz.underlying39 rfl (by kernel_rfl)) rfl ⟨rfl, gb_alloc (gb_alloc (gb_refl w none) _) _⟩
  have := heap_alloc_new (w.alloc (.cells #[.int .i64 v1, .int .i64 v2, .int .i64 v3, .string v4, .string v5] 39)) (.cells #[.int .i64 v1, .int .i64 v2, .int .i64 v3, .string v4, .string ⟨#[]⟩] 39)
  rw [show (w.alloc (.cells #[.int .i64 v1, .int .i64 v2, .int .i64 v3, .string v4, .string v5] 39)).heap.size = w.heap.size + 1 by simp] at this
  exact this

def VAt (w : World) (p : Addr) (t : V) : Prop := w.cell? p = some (.int .i64 t.major) ∧ w.cell? ⟨p.block, p.off + 1, none⟩ = some (.int .i64 t.minor) ∧ w.cell? ⟨p.block, p.off + 2, none⟩ = some (.int .i64 t.patch) ∧ w.cell? ⟨p.block, p.off + 3, none⟩ = some (.string ⟨t.pre.toArray⟩) ∧ w.cell? ⟨p.block, p.off + 4, none⟩ = some (.string ⟨#[]⟩)
theorem VAt.grow {w w' : World} {p : Addr} {t : V} (h : VAt w p t) (hg : w.grownBy w' none) : VAt w' p t :=
  ⟨hg.cell h.1 (by simp), hg.cell h.2.1 (by simp), hg.cell h.2.2.1 (by simp), hg.cell h.2.2.2.1 (by simp), hg.cell h.2.2.2.2 (by simp)⟩
def VsAt (w : World) (a : Addr) (l : List V) : Prop := ∀ i (hi : i < l.length), VAt w (a.add (i * 5)) l[i]
theorem VsAt.grow {w w' : World} {a : Addr} {l : List V} (h : VsAt w a l) (hg : w.grownBy w' none) : VsAt w' a l := fun i hi => (h i hi).grow hg
end Go.Proofs.YtegapdmbpkfpmaaGreatDoor
