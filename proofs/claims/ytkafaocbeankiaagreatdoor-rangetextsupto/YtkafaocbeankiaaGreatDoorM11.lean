import Derived.Test.YtkafaocbeankiaaGreatDoorM10
import Derived.Test.YtkafaocbeankiaaGreatDoorM09
/-
  Sound versions that stand together are one; bounds, each once.
-/
namespace Go.Proofs.YtkafaocbeankiaaGreatDoor
set_option linter.unusedVariables false

/-! ### texts out of their parts -/
def joinD : List (List UInt8) → List UInt8
  | [] => []
  | [p] => p
  | p :: q :: r => p ++ 46 :: joinD (q :: r)
theorem join_split (l : List UInt8) : joinD (splitD l) = l := by
  induction l with
  | nil => rfl
  | cons c l ih =>
    rw [splitD_cons]
    cases hs : splitD l with
    | nil => exact absurd hs (splitD_ne l)
    | cons p r =>
      rw [hs] at ih
      by_cases hc : c = 46
      · rw [if_pos hc]
        simp only [joinD, List.nil_append]
        rw [ih, hc]
      · rw [if_neg hc]
        cases r with
        | nil => simp only [joinD] at ih ⊢; rw [ih]
        | cons q r => simp only [joinD, List.cons_append] at ih ⊢; rw [ih]

theorem bytes_zero : ∀ (a b : List UInt8), Lib.compareBytes a b = 0 → a = b
  | [], [], _ => rfl
  | [], _ :: _, h => by simp [Lib.compareBytes] at h
  | _ :: _, [], h => by simp [Lib.compareBytes] at h
  | x :: a, y :: b, h => by
    rw [bytes_list] at h
    unfold listC at h
    have hc : byteC x y = 0 := by
      by_cases h0 : byteC x y = 0
      · exact h0
      · rw [if_neg h0] at h; exact h
    simp only [hc, if_true] at h
    rw [← bytes_list] at h
    have e1 : x = y := by
      unfold byteC at hc
      have := cmp_zero.1 hc
      exact UInt8.toNat_inj.1 (by omega)
    rw [e1, bytes_zero a b h]

theorem bare_head {c : UInt8} {r : List UInt8} (h : c ≠ 48) : bareT (c :: r) = c :: r := by
  unfold bareT Lib.trimLeftB
  rw [List.dropWhile_cons]
  have : (c == 48) = false := by simpa using h
  rw [this]; simp
theorem bare_inj {p q : List UInt8} (hp : okPart true p = true) (hq : okPart true q = true) (np : numT p = true) (nq : numT q = true) (h : bareT p = bareT q) : p = q := by
  have key : ∀ p : List UInt8, okPart true p = true → numT p = true → (p = [48] ∧ bareT p = []) ∨ (bareT p = p ∧ p ≠ [] ∧ p ≠ [48]) := by
    intro p hp np
    unfold numT at np
    simp only [Bool.and_eq_true, Bool.not_eq_true'] at np
    cases p with
    | nil => simp at np
    | cons c r =>
      by_cases hc : c = 48
      · subst hc
        cases r with
        | nil => exact Or.inl ⟨rfl, by decide⟩
        | cons d r =>
          exfalso
          unfold okPart badZ at hp
          rw [np.2] at hp
          simp at hp
      · exact Or.inr ⟨bare_head hc, by simp, fun e => hc (by injection e)⟩
  rcases key p hp np with ⟨e1, e2⟩ | ⟨e1, e2, e3⟩ <;> rcases key q hq nq with ⟨f1, f2⟩ | ⟨f1, f2, f3⟩
  · rw [e1, f1]
  · rw [e2, f1] at h; exact absurd h.symm f2
  · rw [e1, f2] at h; exact absurd h e2
  · rw [e1, f1] at h; exact h
theorem part_one {p q : List UInt8} (hp : okPart true p = true) (hq : okPart true q = true) (h : partC p q = 0) : p = q := by
  cases np : numT p with
  | true =>
    cases nq : numT q with
    | true =>
      rw [partC_nn np nq] at h
      split at h
      · exact bare_inj hp hq np nq (bytes_zero _ _ h)
      · rename_i hl; exact absurd (cmp_zero.1 h) hl
    | false => rw [partC_nw np nq] at h; exact absurd h (by decide)
  | false =>
    cases nq : numT q with
    | true => rw [partC_wn np nq] at h; exact absurd h (by decide)
    | false => rw [partC_ww np nq] at h; exact bytes_zero _ _ h
theorem parts_one : ∀ (A B : List (List UInt8)), A.all (okPart true) = true → B.all (okPart true) = true → listC partC A B = 0 → A = B
  | [], [], _, _, _ => rfl
  | [], _ :: _, _, _, h => by simp [listC] at h
  | _ :: _, [], _, _, h => by simp [listC] at h
  | p :: A, q :: B, ha, hb, h => by
    simp only [List.all_cons, Bool.and_eq_true] at ha hb
    unfold listC at h
    by_cases h0 : partC p q = 0
    · rw [if_pos h0] at h
      rw [part_one ha.1 hb.1 h0, parts_one A B ha.2 hb.2 h]
    · rw [if_neg h0] at h; exact absurd h h0
theorem pre_one {a b : List UInt8} (ha : okParts true a = true) (hb : okParts true b = true) (h : preC a b = 0) : a = b := by
  by_cases h0 : a = [] ∨ b = []
  · rw [pre_empty a b h0] at h
    have := cmp_zero.1 h
    rcases h0 with rfl | rfl
    · simp at this; rw [this]
    · simp at this; exact List.length_eq_zero_iff.1 (by omega)
  · have hna : a ≠ [] := fun e => h0 (Or.inl e)
    have hnb : b ≠ [] := fun e => h0 (Or.inr e)
    rw [pre_full a b hna hnb] at h
    have := parts_one _ _ (okParts_split ha hna) (okParts_split hb hnb) h
    rw [← join_split a, ← join_split b, this]
/-- sound versions that stand together are one (Build left out) -/
theorem ver_one {a b : V} (ha : okParts true a.pre = true) (hb : okParts true b.pre = true) (h : verC a b = 0) : a = b := by
  rw [verC_eq] at h
  split at h
  · rename_i e1
    split at h
    · rename_i e2
      split at h
      · rename_i e3
        have h1 := cmp_zero.1 e1
        have h2 := cmp_zero.1 e2
        have h3 := cmp_zero.1 e3
        have h4 := pre_one ha hb h
        cases a; cases b
        simp only at h1 h2 h3 h4
        rw [h1, h2, h3, h4]
      · rename_i e3; exact absurd h e3
    · rename_i e2; exact absurd h e2
  · rename_i e1; exact absurd h e1

/-! ### bounds, each once, rising -/
def insV (v : V) : List V → List V
  | [] => [v]
  | x :: l => if verC v x = 0 then x :: l else if verC v x < 0 then v :: x :: l else x :: insV v l
theorem ins_mem (v : V) : ∀ (l : List V) (d : V), d ∈ insV v l → d = v ∨ d ∈ l
  | [], d, h => by simp [insV] at h; exact Or.inl h
  | x :: l, d, h => by
    unfold insV at h
    split at h
    · exact Or.inr h
    · split at h
      · rcases List.mem_cons.1 h with e | e
        · exact Or.inl e
        · exact Or.inr e
      · rcases List.mem_cons.1 h with e | e
        · exact Or.inr (by simp [e])
        · rcases ins_mem v l d e with e | e
          · exact Or.inl e
          · exact Or.inr (by simp [e])
theorem ins_old (v : V) : ∀ (l : List V) (d : V), d ∈ l → d ∈ insV v l
  | [], d, h => by simp at h
  | x :: l, d, h => by
    unfold insV
    split
    · exact h
    · split
      · exact List.mem_cons_of_mem _ h
      · rcases List.mem_cons.1 h with e | e
        · simp [e]
        · exact List.mem_cons_of_mem _ (ins_old v l d e)
theorem ins_new (v : V) : ∀ (l : List V), ∃ d ∈ insV v l, verC v d = 0
  | [] => ⟨v, by simp [insV], v_self v⟩
  | x :: l => by
    unfold insV
    split
    · rename_i h; exact ⟨x, by simp, h⟩
    · split
      · exact ⟨v, by simp, v_self v⟩
      · obtain ⟨d, hd, h⟩ := ins_new v l
        exact ⟨d, by simp [hd], h⟩
theorem ins_rising (v : V) : ∀ (l : List V), Rising l → Rising (insV v l)
  | [], _ => by simp [insV, Rising]
  | x :: l, h => by
    have h1 := (List.pairwise_cons.1 h).1
    have h2 := (List.pairwise_cons.1 h).2
    unfold insV
    split
    · exact h
    · split
      · rename_i h0 hlt
        refine List.pairwise_cons.2 ⟨fun d hd => ?_, h⟩
        rcases List.mem_cons.1 hd with e | e
        · rw [e]; exact hlt
        · exact v_lt_trans hlt (h1 d e)
      · rename_i h0 hge
        refine List.pairwise_cons.2 ⟨fun d hd => ?_, ins_rising v l h2⟩
        rcases ins_mem v l d hd with e | e
        · rw [e]; have := v_anti x v; omega
        · exact h1 d e
end Go.Proofs.YtkafaocbeankiaaGreatDoor

/-
  plain and with of the document, walked.
-/
namespace Go.Proofs.YtkafaocbeankiaaGreatDoor
open Go.RowKit
set_option linter.unusedVariables false

set_option maxHeartbeats 800000 in
theorem plain_any (v1 v2 v3 : Int) (v4 v5 : ByteArray) (w : World) :
    Calls Tryz.prog 45 #[.agg #[.int .i64 v1, .int .i64 v2, .int .i64 v3, .string v4, .string v5]] w fun e w' => e = .returned (.agg #[.int .i64 v1, .int .i64 v2, .int .i64 v3, .string v4, .string ⟨#[]⟩]) ∧ w.grownBy w' none := by
  go_enter Tryz.func45, Tryz.ntmps45
  go_wp2
  refine bodyPost_ret (results_cell_row rfl _ _ (w.heap.size + 1) 43 #[.int .i64 v1, .int .i64 v2, .int .i64 v3, .string v4, .string ⟨#[]⟩] (0, 0) _ rfl ?_ Tryz.underlying43 rfl (by kernel_rfl)) rfl ⟨rfl, gb_alloc (gb_alloc (gb_refl w none) _) _⟩
  have := heap_alloc_new (w.alloc (.cells #[.int .i64 v1, .int .i64 v2, .int .i64 v3, .string v4, .string v5] 43)) (.cells #[.int .i64 v1, .int .i64 v2, .int .i64 v3, .string v4, .string ⟨#[]⟩] 43)
  rw [show (w.alloc (.cells #[.int .i64 v1, .int .i64 v2, .int .i64 v3, .string v4, .string v5] 43)).heap.size = w.heap.size + 1 by simp] at this
  exact this

/-- a version without Build, as cells -/
def vC (t : V) : List Value := [.int .i64 t.major, .int .i64 t.minor, .int .i64 t.patch, .string ⟨t.pre.toArray⟩, .string ⟨#[]⟩]
def VAt (w : World) (p : Addr) (t : V) : Prop := w.cell? p = some (.int .i64 t.major) ∧ w.cell? ⟨p.block, p.off + 1, none⟩ = some (.int .i64 t.minor) ∧ w.cell? ⟨p.block, p.off + 2, none⟩ = some (.int .i64 t.patch) ∧ w.cell? ⟨p.block, p.off + 3, none⟩ = some (.string ⟨t.pre.toArray⟩) ∧ w.cell? ⟨p.block, p.off + 4, none⟩ = some (.string ⟨#[]⟩)
theorem VAt.grow {w w' : World} {p : Addr} {t : V} (h : VAt w p t) (hg : w.grownBy w' none) : VAt w' p t :=
  ⟨hg.cell h.1 (by simp), hg.cell h.2.1 (by simp), hg.cell h.2.2.1 (by simp), hg.cell h.2.2.2.1 (by simp), hg.cell h.2.2.2.2 (by simp)⟩
def VsAt (w : World) (a : Addr) (l : List V) : Prop := ∀ i (hi : i < l.length), VAt w (a.add (i * 5)) l[i]
theorem VsAt.grow {w w' : World} {a : Addr} {l : List V} (h : VsAt w a l) (hg : w.grownBy w' none) : VsAt w' a l := fun i hi => (h i hi).grow hg
theorem infoV : (Tryz.prog.info? 43).map (fun i => (i.zero, i.size, i.bytes)) = some (some (.agg #[.int .i64 0, .int .i64 0, .int .i64 0, .string ⟨#[]⟩, .string ⟨#[]⟩]), 5, 56) := by kernel_rfl
/-- with, told step by step -/
theorem ins_step (v d : V) (r : List V) (O l : List V) (b : Bool) (h : O ++ (if b = true then d :: r else insV v (d :: r)) = insV v l) :
    (b = true → (O ++ [d]) ++ r = insV v l) ∧
    (b = false → verC v d = 0 → (O ++ [d]) ++ r = insV v l) ∧
    (b = false → verC v d < 0 → ((O ++ [v]) ++ [d]) ++ r = insV v l) ∧
    (b = false → ¬ verC v d = 0 → ¬ verC v d < 0 → (O ++ [d]) ++ insV v r = insV v l) := by
  refine ⟨fun hb => ?_, fun hb h0 => ?_, fun hb h0 => ?_, fun hb h0 h1 => ?_⟩
  · rw [if_pos hb] at h; rw [← h]; simp
  · rw [hb, if_neg (by decide), insV, if_pos h0] at h; rw [← h]; simp
  · rw [hb, if_neg (by decide), insV, if_neg (by omega), if_pos h0] at h; rw [← h]; simp
  · rw [hb, if_neg (by decide), insV, if_neg h0, if_neg h1] at h; rw [← h]; simp
end Go.Proofs.YtkafaocbeankiaaGreatDoor
