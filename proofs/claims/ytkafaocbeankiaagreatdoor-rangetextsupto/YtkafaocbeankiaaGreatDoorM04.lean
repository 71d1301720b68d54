import Derived.Test.YtkafaocbeankiaaGreatDoorM03
import Derived.Test.YtkafaocbeankiaaGreatDoorProg
import Derived.WalkKit
import Derived.WalkSpells
import Derived.WalkLawsBesides
import Derived.Deep.QuietTactic
import Derived.BigQuiet
import Derived.Below
import Derived.Lib.ConvBytes
/-
  A whole version: read and written.
-/
namespace Go.Proofs.YtkafaocbeankiaaGreatDoor
set_option linter.unusedVariables false

structure Vv where
  major : Int
  minor : Int
  patch : Int
  pre : List UInt8
  build : List UInt8
def zeroV : Vv := ⟨0, 0, 0, [], []⟩

/-- what may stand behind the sign c: errno, place, text -/
def optP (c : UInt8) (s : Bool) (l : List UInt8) (i : Nat) : Int × Nat × List UInt8 :=
  if l[i]? = some c then
    (if (rdParts s l (i + 1)).1 = 0 then (0, (rdParts s l (i + 1)).2, subT l (i + 1) ((rdParts s l (i + 1)).2 - (i + 1))) else ((rdParts s l (i + 1)).1, (rdParts s l (i + 1)).2, []))
  else (0, i, [])

/-- three numbers: errno, place, the numbers -/
def rdNums (l : List UInt8) : Int × Nat × Int × Int × Int :=
  if (rdNum l 0).1 = 0 then
    if l[(rdNum l 0).2.2]? = some 46 then
      if (rdNum l ((rdNum l 0).2.2 + 1)).1 = 0 then
        if l[(rdNum l ((rdNum l 0).2.2 + 1)).2.2]? = some 46 then
          if (rdNum l ((rdNum l ((rdNum l 0).2.2 + 1)).2.2 + 1)).1 = 0 then
            (0, (rdNum l ((rdNum l ((rdNum l 0).2.2 + 1)).2.2 + 1)).2.2, (rdNum l 0).2.1, (rdNum l ((rdNum l 0).2.2 + 1)).2.1, (rdNum l ((rdNum l ((rdNum l 0).2.2 + 1)).2.2 + 1)).2.1)
          else ((rdNum l ((rdNum l ((rdNum l 0).2.2 + 1)).2.2 + 1)).1, (rdNum l ((rdNum l ((rdNum l 0).2.2 + 1)).2.2 + 1)).2.2, 0, 0, 0)
        else (2, (rdNum l ((rdNum l 0).2.2 + 1)).2.2, 0, 0, 0)
      else ((rdNum l ((rdNum l 0).2.2 + 1)).1, (rdNum l ((rdNum l 0).2.2 + 1)).2.2, 0, 0, 0)
    else (2, (rdNum l 0).2.2, 0, 0, 0)
  else ((rdNum l 0).1, (rdNum l 0).2.2, 0, 0, 0)

def rdVer (l : List UInt8) : Int × Nat × Vv :=
  if (rdNums l).1 = 0 then
    if (optP 45 true l (rdNums l).2.1).1 = 0 then
      if (optP 43 false l (optP 45 true l (rdNums l).2.1).2.1).1 = 0 then
        if (optP 43 false l (optP 45 true l (rdNums l).2.1).2.1).2.1 < l.length then (2, (optP 43 false l (optP 45 true l (rdNums l).2.1).2.1).2.1, zeroV)
        else (0, 0, ⟨(rdNums l).2.2.1, (rdNums l).2.2.2.1, (rdNums l).2.2.2.2, (optP 45 true l (rdNums l).2.1).2.2, (optP 43 false l (optP 45 true l (rdNums l).2.1).2.1).2.2⟩)
      else ((optP 43 false l (optP 45 true l (rdNums l).2.1).2.1).1, (optP 43 false l (optP 45 true l (rdNums l).2.1).2.1).2.1, zeroV)
    else ((optP 45 true l (rdNums l).2.1).1, (optP 45 true l (rdNums l).2.1).2.1, zeroV)
  else ((rdNums l).1, (rdNums l).2.1, zeroV)

def parseV (l : List UInt8) : Int × Nat × Vv := if 100 < l.length then (1, 0, zeroV) else rdVer l

def optT (c : UInt8) (p : List UInt8) : List UInt8 := if p = [] then [] else c :: p
def textV (v : Vv) : List UInt8 := Lib.itoa v.major ++ (46 :: (Lib.itoa v.minor ++ (46 :: (Lib.itoa v.patch ++ (optT 45 v.pre ++ optT 43 v.build)))))

def bound (n : Int) : Bool := decide (0 ≤ n) && decide (n ≤ 1000000000)
theorem bound_iff {n : Int} : bound n = true ↔ 0 ≤ n ∧ n ≤ 1000000000 := by unfold bound; simp
def soundV (v : Vv) : Bool := bound v.major && (bound v.minor && (bound v.patch && (okParts true v.pre && okParts false v.build)))

/-! ### written, then read -/
theorem itoa_dec {n : Int} (h : 0 ≤ n) : Lib.itoa n = Lib.decDigits n.toNat := by unfold Lib.itoa; rw [if_neg (by omega)]

theorem okParts_split {s : Bool} {l : List UInt8} (h : okParts s l = true) (hne : l ≠ []) : (splitD l).all (okPart s) = true := by
  have : l.isEmpty = false := by simpa using hne
  unfold okParts at h; rw [this, Bool.false_or] at h; exact h

theorem opt_give (c : UInt8) (s : Bool) (l p r : List UInt8) (i : Nat) (hd : l.drop i = optT c p ++ r) (hp : okParts s p = true) (hr : ∀ x t, r = x :: t → isP x = false ∧ x ≠ 46 ∧ x ≠ c) :
    optP c s l i = (0, i + (optT c p).length, p) ∧ l.drop (i + (optT c p).length) = r := by
  have h0 : l[i]? = (optT c p ++ r)[0]? := by rw [← hd, List.getElem?_drop]; rfl
  unfold optT at hd h0 ⊢
  unfold optP
  by_cases hne : p = []
  · subst hne
    simp only [if_true, List.nil_append] at hd h0
    rw [if_neg]
    · simpa using hd
    · rw [h0]
      cases r with
      | nil => simp
      | cons x t => simpa using (hr x t rfl).2.2
  · rw [if_neg hne] at hd h0
    rw [if_neg hne, if_pos (by rw [h0]; simp)]
    have hd2 : l.drop (i + 1) = p ++ r := by rw [← List.drop_drop, hd]; simp
    have e := parts_give s l _ p r (i + 1) rfl hd2 (okParts_split hp hne) (fun x t h => ⟨(hr x t h).1, (hr x t h).2.1⟩)
    rw [e]
    simp only [if_true]
    refine ⟨?_, ?_⟩
    · have hs : subT l (i + 1) (i + 1 + p.length - (i + 1)) = p := by
        unfold subT; rw [show i + 1 + p.length - (i + 1) = p.length by omega, hd2]; simp
      rw [hs, List.length_cons]; congr 2; omega
    · rw [List.length_cons, show i + (p.length + 1) = i + 1 + p.length by omega, ← List.drop_drop, hd2]; simp

theorem dot_isD : isD 46 = false := by decide
theorem drop_one {l : List UInt8} {i : Nat} {c : UInt8} {r : List UInt8} (h : l.drop i = c :: r) : l.drop (i + 1) = r ∧ l[i]? = some c := by
  refine ⟨by rw [← List.drop_drop, h]; rfl, ?_⟩
  have : l[i]? = (l.drop i)[0]? := by rw [List.getElem?_drop]; rfl
  rw [this, h]; rfl

theorem nums_give (l r : List UInt8) (a b c : Nat) (ha : a ≤ 999999999) (hb : b ≤ 999999999) (hc : c ≤ 999999999)
    (hl : l = Lib.decDigits a ++ 46 :: (Lib.decDigits b ++ 46 :: (Lib.decDigits c ++ r))) (hr : ∀ x t, r = x :: t → isD x = false) :
    ∃ i, rdNums l = (0, i, (a : Int), (b : Int), (c : Int)) ∧ l.drop i = r := by
  have d0 : l.drop 0 = Lib.decDigits a ++ 46 :: (Lib.decDigits b ++ 46 :: (Lib.decDigits c ++ r)) := hl
  have e1 := rdNum_dec l _ 0 a ha d0 (fun x t h => by simp at h; rw [← h.1]; exact dot_isD)
  obtain ⟨-, -, -, d1⟩ := run_of isD l _ _ 0 d0 (dec_all a) (fun x t h => by simp at h; rw [← h.1]; exact dot_isD)
  obtain ⟨d2, g1⟩ := drop_one d1
  have e2 := rdNum_dec l _ _ b hb d2 (fun x t h => by simp at h; rw [← h.1]; exact dot_isD)
  obtain ⟨-, -, -, d3⟩ := run_of isD l _ _ _ d2 (dec_all b) (fun x t h => by simp at h; rw [← h.1]; exact dot_isD)
  obtain ⟨d4, g2⟩ := drop_one d3
  have e3 := rdNum_dec l _ _ c hc d4 hr
  obtain ⟨-, -, -, d5⟩ := run_of isD l _ _ _ d4 (dec_all c) hr
  refine ⟨_, ?_, d5⟩
  unfold rdNums
  simp only [e1, e2, e3, g1, g2, if_true]

theorem read_text (v : Vv) (hs : soundV v = true) (h1 : v.major ≤ 999999999) (h2 : v.minor ≤ 999999999) (h3 : v.patch ≤ 999999999) : rdVer (textV v) = (0, 0, v) := by
  simp only [soundV, Bool.and_eq_true, bound_iff] at hs
  obtain ⟨b1, b2, b3, p1, p2⟩ := hs
  have hl : textV v = Lib.decDigits v.major.toNat ++ 46 :: (Lib.decDigits v.minor.toNat ++ 46 :: (Lib.decDigits v.patch.toNat ++ (optT 45 v.pre ++ optT 43 v.build))) := by
    unfold textV; rw [itoa_dec b1.1, itoa_dec b2.1, itoa_dec b3.1]
  have hr : ∀ x t, optT 45 v.pre ++ optT 43 v.build = x :: t → isD x = false := by
    intro x t h
    unfold optT at h
    split at h
    · split at h
      · simp at h
      · simp at h; rw [← h.1]; decide
    · simp at h; rw [← h.1]; decide
  obtain ⟨i, e, d⟩ := nums_give (textV v) _ _ _ _ (by omega) (by omega) (by omega) hl hr
  have hr2 : ∀ x t, optT 43 v.build = x :: t → isP x = false ∧ x ≠ 46 ∧ x ≠ 45 := by
    intro x t h
    unfold optT at h
    split at h
    · simp at h
    · simp at h; rw [← h.1]; decide
  obtain ⟨e2, d2⟩ := opt_give 45 true (textV v) v.pre _ i d p1 hr2
  have d2' : (textV v).drop (i + (optT 45 v.pre).length) = optT 43 v.build ++ [] := by rw [d2]; simp
  obtain ⟨e3, d3⟩ := opt_give 43 false (textV v) v.build [] _ d2' p2 (by simp)
  have hend : ¬ i + (optT 45 v.pre).length + (optT 43 v.build).length < (textV v).length := by
    have := congrArg List.length d3
    simp at this
    omega
  unfold rdVer
  simp only [e, e2, e3, if_true, if_neg hend]
  rw [Int.toNat_of_nonneg b1.1, Int.toNat_of_nonneg b2.1, Int.toNat_of_nonneg b3.1]

/-! ### read, then written -/
theorem sub_drop {l : List UInt8} {i k : Nat} : l.drop i = subT l i k ++ l.drop (i + k) := by
  unfold subT; rw [← List.drop_drop, List.take_append_drop]
theorem drop_cons {l : List UInt8} {i : Nat} {c : UInt8} (h : l[i]? = some c) : l.drop i = c :: l.drop (i + 1) ∧ i < l.length := by
  obtain ⟨hlt, e⟩ := List.getElem?_eq_some_iff.1 h
  rw [List.drop_eq_getElem_cons hlt, e]; exact ⟨rfl, hlt⟩

theorem num_take (l : List UInt8) (i : Nat) (hi : i ≤ l.length) (h : (rdNum l i).1 = 0) :
    (rdNum l i).2.2 ≤ l.length ∧ l.drop i = Lib.itoa (rdNum l i).2.1 ++ l.drop (rdNum l i).2.2 ∧ 0 ≤ (rdNum l i).2.1 ∧ (rdNum l i).2.1 ≤ 999999999 := by
  obtain ⟨k, h1, h2, h3, h4, h5, h6⟩ := rdNum_ok l i hi h
  refine ⟨by omega, ?_, h5, h6⟩
  rw [itoa_dec h5, ← h4, h3]; exact sub_drop

theorem nums_take (l : List UInt8) (h : (rdNums l).1 = 0) :
    (rdNums l).2.1 ≤ l.length ∧ l = Lib.itoa (rdNums l).2.2.1 ++ 46 :: (Lib.itoa (rdNums l).2.2.2.1 ++ 46 :: (Lib.itoa (rdNums l).2.2.2.2 ++ l.drop (rdNums l).2.1)) ∧
    (0 ≤ (rdNums l).2.2.1 ∧ (rdNums l).2.2.1 ≤ 999999999) ∧ (0 ≤ (rdNums l).2.2.2.1 ∧ (rdNums l).2.2.2.1 ≤ 999999999) ∧ (0 ≤ (rdNums l).2.2.2.2 ∧ (rdNums l).2.2.2.2 ≤ 999999999) := by
  unfold rdNums at h ⊢
  split at h
  · rename_i e1
    split at h
    · rename_i g1
      split at h
      · rename_i e2
        split at h
        · rename_i g2
          split at h
          · rename_i e3
            obtain ⟨a1, a2, a3⟩ := num_take l 0 (Nat.zero_le _) e1
            obtain ⟨c1, c2⟩ := drop_cons g1
            obtain ⟨b1, b2, b3⟩ := num_take l _ (by omega) e2
            obtain ⟨c3, c4⟩ := drop_cons g2
            obtain ⟨d1, d2, d3⟩ := num_take l _ (by omega) e3
            simp only [e1, g1, e2, g2, e3, if_true]
            refine ⟨d1, ?_, a3, b3, d3⟩
            rw [List.drop_zero] at a2
            rw [← d2, ← c3, ← b2, ← c1]; exact a2
          · rename_i e; exact absurd h e
        · simp at h
      · rename_i e; exact absurd h e
    · simp at h
  · rename_i e; exact absurd h e

theorem opt_take (c : UInt8) (s : Bool) (l : List UInt8) (i : Nat) (hi : i ≤ l.length) (h : (optP c s l i).1 = 0) :
    (optP c s l i).2.1 ≤ l.length ∧ l.drop i = optT c (optP c s l i).2.2 ++ l.drop (optP c s l i).2.1 ∧ okParts s (optP c s l i).2.2 = true := by
  unfold optP at h ⊢
  by_cases hc : l[i]? = some c
  · rw [if_pos hc] at h ⊢
    obtain ⟨c1, c2⟩ := drop_cons hc
    by_cases h0 : (rdParts s l (i + 1)).1 = 0
    · rw [if_pos h0]
      obtain ⟨g1, g2, g3⟩ := parts_take s l _ (i + 1) rfl (by omega) h0
      have hlen := sub_len l (i + 1) ((rdParts s l (i + 1)).2 - (i + 1)) (by omega)
      have hne : subT l (i + 1) ((rdParts s l (i + 1)).2 - (i + 1)) ≠ [] := fun e => by rw [e] at hlen; simp at hlen; omega
      refine ⟨g2, ?_, ?_⟩
      · simp only
        unfold optT
        rw [if_neg hne, c1, List.cons_append]
        congr 1
        have := @sub_drop l (i + 1) ((rdParts s l (i + 1)).2 - (i + 1))
        rw [show i + 1 + ((rdParts s l (i + 1)).2 - (i + 1)) = (rdParts s l (i + 1)).2 by omega] at this
        exact this
      · simp only
        unfold okParts
        rw [g3, Bool.or_true]
    · rw [if_neg h0] at h; exact absurd h h0
  · rw [if_neg hc]
    exact ⟨hi, rfl, rfl⟩

theorem text_read (l : List UInt8) (h : (rdVer l).1 = 0) : textV (rdVer l).2.2 = l ∧ soundV (rdVer l).2.2 = true := by
  unfold rdVer at h ⊢
  split at h
  · rename_i e1
    split at h
    · rename_i e2
      split at h
      · rename_i e3
        split at h
        · simp at h
        · rename_i e4
          obtain ⟨a1, a2, a3, a4, a5⟩ := nums_take l e1
          obtain ⟨b1, b2, b3⟩ := opt_take 45 true l _ a1 e2
          obtain ⟨c1, c2, c3⟩ := opt_take 43 false l _ b1 e3
          simp only [e1, e2, e3, if_true, if_neg e4]
          have hend : l.drop (optP 43 false l (optP 45 true l (rdNums l).2.1).2.1).2.1 = [] := List.drop_of_length_le (by omega)
          rw [hend, List.append_nil] at c2
          constructor
          · unfold textV
            simp only
            rw [← c2, ← b2]; exact a2.symm
          · simp only [soundV, Bool.and_eq_true, bound_iff]
            exact ⟨by omega, by omega, by omega, b3, c3⟩
      · rename_i e; exact absurd h e
    · rename_i e; exact absurd h e
  · rename_i e; exact absurd h e

end Go.Proofs.YtkafaocbeankiaaGreatDoor

/-
  Small facts of worlds; a digit, walked.
-/
namespace Go.Proofs.YtkafaocbeankiaaGreatDoor
open Go.RowKit
set_option linter.unusedVariables false
/-- a fact kept away from the walk -/
def Hid (p : Prop) : Prop := p
theorem Hid.out {p : Prop} (h : Hid p) : p := h
theorem ret_int {k : IntKind} {a b : Int} (h : a = b) : Ending.returned (.int k a) = .returned (.int k b) := by rw [h]
theorem ret_bool {a b : Bool} (h : a = b) : Ending.returned (.bool a) = .returned (.bool b) := by rw [h]

set_option maxHeartbeats 400000 in
theorem isDigit_any (c : UInt8) (w : World) : Calls Tryz.prog 101 #[.int .u8 (c.toNat : Int)] w fun e w' => e = .returned (.bool (isD c)) ∧ w' = w := by
  go_enter Tryz.func101, Tryz.ntmps101
  go_wp2
  all_goals go_ret
  all_goals (refine ⟨ret_bool ?_, rfl⟩; rw [Bool.eq_iff_iff]; unfold isD; simp; omega)

theorem gb_refl (w : World) (r : Option Nat) : w.grownBy w r := ⟨rfl, rfl, rfl, Nat.le_refl _, fun _ _ _ => rfl⟩
theorem gb_drew {w w' : World} {r : Option Nat} (h : w.grownBy w' r) (n : Nat) : w.grownBy (w'.drewN n) r := ⟨h.os, h.tape, h.output, h.size, h.block⟩
theorem gb_set {w w' : World} {b : Nat} (h : w.grownBy w' (some b)) (o : Nat) (v : Value) : w.grownBy (w'.setCell ⟨b, o, none⟩ v) (some b) := by
  refine ⟨h.os, h.tape, h.output, by simpa [World.setCell] using h.size, fun k hk hne => ?_⟩
  rw [← h.block k hk hne]
  exact heap_setCell_other w' _ k v (fun e => hne (by rw [e]))
theorem gb_trans {w w1 w2 : World} {r : Option Nat} (h : w.grownBy w1 r) (h' : w1.grownBy w2 r) : w.grownBy w2 r :=
  ⟨h'.os.trans h.os, h'.tape.trans h.tape, h'.output.trans h.output, Nat.le_trans h.size h'.size, fun k hk hne => (h'.block k (Nat.lt_of_lt_of_le hk h.size) hne).trans (h.block k hk hne)⟩

theorem get_data (s : ByteArray) (i : Nat) (h : i < s.size) : s.data.toList[i]? = some s[i] := by rw [List.getElem?_eq_getElem (by simpa using h)]; rfl
theorem run_sub (s : ByteArray) (i j : Nat) (hi : i ≤ j) (hj : j ≤ s.size) (w : World) :
    (Instr.slice 9 (.string s) (some (.int .i64 (i : Int))) (some (.int .i64 (j : Int))) none).run Tryz.prog w = .ok (.string ⟨(subT s.data.toList i (j - i)).toArray⟩) w := by
  have h1 : (0 : Int) ≤ (i : Int) := by omega
  have h4 : (i : Int) ≤ (j : Int) := by omega
  have h5 : (j : Int) ≤ (s.size : Int) := by omega
  have e : s.extract i j = ⟨(subT s.data.toList i (j - i)).toArray⟩ := by
    apply ByteArray.ext
    rw [ByteArray.data_extract]
    apply Array.ext'
    unfold subT
    simp
  rw [← e]
  simp [go_sem, Tryz.underlying9, h1, h4, h5]

end Go.Proofs.YtkafaocbeankiaaGreatDoor

/-
  Growth; digits alone; slices of texts.
-/
namespace Go.Proofs.YtkafaocbeankiaaGreatDoor
open Go.RowKit
set_option linter.unusedVariables false

theorem gb_below {w w' : World} (h : w.grownBy w' none) : Below w.heap.size w w' := ⟨h.os, h.tape, h.output, h.size, fun k hk => h.block k hk (by simp)⟩
theorem gb_undrew {w w' : World} {r : Option Nat} (h : w.drew.grownBy w' r) : w.grownBy w' r := ⟨h.os, h.tape, h.output, h.size, h.block⟩
theorem gb_alloc {w w' : World} (h : w.grownBy w' none) (o : Obj) : w.grownBy (w'.alloc o) none :=
  ⟨h.os, h.tape, h.output, by have := h.size; simp; omega, fun k hk hn => by rw [Lib.alloc_old _ _ _ (Nat.lt_of_lt_of_le hk h.size)]; exact h.block k hk hn⟩

theorem gb_bytes (w : World) (e : TypeId) (s : ByteArray) : w.grownBy (Lib.bytesWorld w e s) none :=
  ⟨rfl, rfl, rfl, by rw [Lib.bytesWorld_size]; omega, fun k hk _ => Lib.bytesWorld_at_old w e s k hk⟩
theorem gb_weak {w w' : World} (h : w.grownBy w' none) (r : Option Nat) : w.grownBy w' r := ⟨h.os, h.tape, h.output, h.size, fun k hk _ => h.block k hk (by simp)⟩

set_option maxHeartbeats 400000 in
theorem isDigits_any (s : ByteArray) (w : World) (hs : s.size < 2 ^ 62) :
    Calls Tryz.prog 85 #[.string s] w fun e w' => e = .returned (.bool (numT s.data.toList)) ∧ w.grownBy w' none := by
  have kc := fun (w : World) => Lib.run_convert_string_bytes (P := Tryz.prog) w 9 54 5 s Tryz.underlying9 Tryz.underlying54 Tryz.underlying5
  obtain ⟨W, hW⟩ : ∃ W, Lib.bytesWorld w 5 s = W := ⟨_, rfl⟩
  have HC : Hid (∀ j, (hj : j < s.size) → W.cell? ⟨w.heap.size, j, none⟩ = some (.int .u8 (s[j].toNat : Int))) := by
    show ∀ j, (hj : j < s.size) → W.cell? ⟨w.heap.size, j, none⟩ = some (.int .u8 (s[j].toNat : Int))
    intro j hj
    rw [← hW, Lib.bytesWorld_cell w _ s j hj]
    have : s.data.toList.getD j 0 = s[j] := by
      rw [List.getD_eq_getElem?_getD, get_data s j hj]; rfl
    rw [this]
  have HG : Hid (w.grownBy W none) := by show w.grownBy W none; rw [← hW]; exact gb_bytes w _ s
  have kw := kc w
  rw [hW] at kw
  clear kc hW
  go_enter Tryz.func85, Tryz.ntmps85
  go_wp2
  go_loop [8] (fun i => ∃ k : Nat, k ≤ s.size ∧ i = .int .i64 k ∧ ∀ j, (hj : j < s.size) → j < k → isD s[j] = true) (fun i => s.size - (intOf i).toNat)
  case atStart => exact ⟨0, Nat.zero_le _, rfl, fun j hj h => absurd h (by omega)⟩
  case round =>
    obtain ⟨k, hk, rfl, hp⟩ := hrel
    have HP : Hid (∀ j, (hj : j < s.size) → j < k → isD s[j] = true) := hp
    clear hp
    by_cases hlt : k < s.size
    · have ck := HC.out k hlt
      cases hd : isD s[k] with
      | true =>
        go_wp2_with (go_at_call 101; refine (isDigit_any _ _).mono ?_; rintro e w' ⟨rfl, rfl⟩)
        go_round
        case rel =>
          refine ⟨k + 1, by omega, by go_num, fun j hj hjk => ?_⟩
          by_cases hjk' : j < k
          · exact HP.out j hj hjk'
          · have e : j = k := by omega
            subst e
            exact hd
        case measure => simp [intOf]; omega
      | false =>
        have HN : Hid (numT s.data.toList = false) := by
          show numT s.data.toList = false
          unfold numT
          have : s.data.toList.all isD = false := by
            rw [List.all_eq_false]
            exact ⟨s[k], List.mem_of_getElem? (get_data s k hlt), by simp [hd]⟩
          rw [this, Bool.and_false]
        go_wp2_with (go_at_call 101; refine (isDigit_any _ _).mono ?_; rintro e w' ⟨rfl, rfl⟩)
        go_ret
        exact ⟨ret_bool HN.out.symm, HG.out⟩
    · have hks : k = s.size := by omega
      have HA : Hid (s.data.toList.all isD = true) := by
        show s.data.toList.all isD = true
        rw [List.all_eq_true]
        intro c hc
        obtain ⟨j, hj, rfl⟩ := List.getElem_of_mem hc
        exact HP.out j (by simpa using hj) (by simp at hj; have : s.size = s.data.size := rfl; omega)
      clear hks hk
      go_wp2
      go_ret
      refine ⟨ret_bool ?_, HG.out⟩
      unfold numT
      rw [Lib.toList_data, HA.out, Bool.and_true]

theorem run_pre (s : ByteArray) (k : Nat) (hk : k ≤ s.size) (w : World) :
    (Instr.slice 9 (.string s) none (some (.int .i64 (k : Int))) none).run Tryz.prog w = .ok (.string ⟨(s.data.toList.take k).toArray⟩) w := by
  have h5 : (k : Int) ≤ (s.size : Int) := by omega
  have e : s.extract 0 k = ⟨(s.data.toList.take k).toArray⟩ := by
    apply ByteArray.ext
    rw [ByteArray.data_extract]
    apply Array.ext'
    simp
  rw [← e]
  simp [go_sem, Tryz.underlying9, h5]
theorem run_suf (s : ByteArray) (k : Nat) (hk : k ≤ s.size) (w : World) :
    (Instr.slice 9 (.string s) (some (.int .i64 (k : Int))) none none).run Tryz.prog w = .ok (.string ⟨(s.data.toList.drop k).toArray⟩) w := by
  have h1 : (0 : Int) ≤ (k : Int) := by omega
  have h5 : (k : Int) ≤ (s.size : Int) := by omega
  have e : s.extract k s.size = ⟨(s.data.toList.drop k).toArray⟩ := by
    apply ByteArray.ext
    rw [ByteArray.data_extract]
    apply Array.ext'
    simp
    exact List.take_of_length_le (by simp)
  rw [← e]
  simp [go_sem, Tryz.underlying9, h1, h5]

end Go.Proofs.YtkafaocbeankiaaGreatDoor
