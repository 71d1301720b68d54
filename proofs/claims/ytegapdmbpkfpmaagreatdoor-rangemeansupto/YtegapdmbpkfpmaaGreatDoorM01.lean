import Derived.Lib.Bytealg
import Derived.Lib.TrimByte
import Derived.Lib.Small
/-
  Versions as lists of bytes: their parts, their order.
-/
namespace Go.Proofs.YtegapdmbpkfpmaaGreatDoor
set_option linter.unusedVariables false

/-! ### orders told by -1, 0, 1 -/
structure Good {α : Type} (c : α → α → Int) : Prop where
  rng : ∀ a b, c a b = -1 ∨ c a b = 0 ∨ c a b = 1
  anti : ∀ a b, c b a = - c a b
  trans : ∀ a b d, c a b ≤ 0 → c b d ≤ 0 → c a d ≤ 0 ∧ ((c a b = 0 ∧ c b d = 0) ↔ c a d = 0)

theorem Good.self {α : Type} {c : α → α → Int} (h : Good c) (a : α) : c a a = 0 := by
  have := h.anti a a; omega

theorem good_pull {α β : Type} {c : α → α → Int} (h : Good c) (f : β → α) : Good (fun a b => c (f a) (f b)) :=
  ⟨fun a b => h.rng _ _, fun a b => h.anti _ _, fun a b d => h.trans _ _ _⟩

def lexC {α : Type} (c d : α → α → Int) (a b : α) : Int := if c a b = 0 then d a b else c a b

theorem good_lex {α : Type} {c d : α → α → Int} (hc : Good c) (hd : Good d) : Good (lexC c d) := by
  refine ⟨fun a b => ?_, fun a b => ?_, fun x y z => ?_⟩
  · unfold lexC; split
    · exact hd.rng a b
    · exact hc.rng a b
  · have h1 := hc.anti a b
    have h2 := hd.anti a b
    unfold lexC
    by_cases h : c a b = 0
    · rw [if_pos h, if_pos (by omega), h2]
    · rw [if_neg h, if_neg (by omega), h1]
  · have h1 := hc.trans x y z
    have h2 := hd.trans x y z
    have r1 := hc.rng x y
    have r2 := hc.rng y z
    have r3 := hc.rng x z
    have s3 := hd.rng x z
    unfold lexC
    intro p q
    split at p <;> split at q
    · rename_i e1 e2
      have e3 : c x z = 0 := (h1 (by omega) (by omega)).2.1 ⟨e1, e2⟩
      rw [if_pos e1, if_pos e2, if_pos e3]
      exact h2 p q
    · rename_i e1 e2
      have e3 := h1 (by omega) (by omega)
      have e4 : c x z ≠ 0 := fun hh => e2 (e3.2.2 hh).2
      rw [if_pos e1, if_neg e2, if_neg e4]
      refine ⟨e3.1, ?_⟩
      constructor
      · rintro ⟨_, h⟩; exact absurd h e2
      · intro h; exact absurd h e4
    · rename_i e1 e2
      have e3 := h1 (by omega) (by omega)
      have e4 : c x z ≠ 0 := fun hh => e1 (e3.2.2 hh).1
      rw [if_neg e1, if_pos e2, if_neg e4]
      refine ⟨e3.1, ?_⟩
      constructor
      · rintro ⟨h, _⟩; exact absurd h e1
      · intro h; exact absurd h e4
    · rename_i e1 e2
      have e3 := h1 (by omega) (by omega)
      have e4 : c x z ≠ 0 := fun hh => e1 (e3.2.2 hh).1
      rw [if_neg e1, if_neg e2, if_neg e4]
      refine ⟨e3.1, ?_⟩
      constructor
      · rintro ⟨h, _⟩; exact absurd h e1
      · intro h; exact absurd h e4

def listC {α : Type} (c : α → α → Int) : List α → List α → Int
  | [], [] => 0
  | [], _ :: _ => -1
  | _ :: _, [] => 1
  | a :: as, b :: bs => if c a b = 0 then listC c as bs else c a b

theorem good_list {α : Type} {c : α → α → Int} (hc : Good c) : Good (listC c) := by
  refine ⟨fun a => ?_, fun a => ?_, fun x => ?_⟩
  · induction a with
    | nil => intro b; cases b <;> simp [listC]
    | cons a as ih =>
      intro b
      cases b with
      | nil => simp [listC]
      | cons b bs =>
        simp only [listC]; split
        · exact ih bs
        · exact hc.rng a b
  · induction a with
    | nil => intro b; cases b <;> simp [listC]
    | cons a as ih =>
      intro b
      cases b with
      | nil => simp [listC]
      | cons b bs =>
        have h1 := hc.anti a b
        simp only [listC]
        by_cases h : c a b = 0
        · rw [if_pos h, if_pos (by omega), ih]
        · rw [if_neg h, if_neg (by omega), h1]
  · induction x with
    | nil =>
      intro y z p q
      cases y with
      | nil => cases z <;> simp [listC] at q ⊢
      | cons y ys => cases z with
        | nil => simp [listC] at q
        | cons z zs => simp [listC]
    | cons x xs ih =>
      intro y z
      cases y with
      | nil => intro p; simp [listC] at p
      | cons y ys =>
        cases z with
        | nil => intro p q; simp [listC] at q
        | cons z zs =>
          have h1 := hc.trans x y z
          have h2 := ih ys zs
          have r1 := hc.rng x y
          have r2 := hc.rng y z
          have r3 := hc.rng x z
          simp only [listC]
          intro p q
          split at p <;> split at q
          · rename_i e1 e2
            have e3 : c x z = 0 := (h1 (by omega) (by omega)).2.1 ⟨e1, e2⟩
            rw [if_pos e1, if_pos e2, if_pos e3]
            exact h2 p q
          · rename_i e1 e2
            have e3 := h1 (by omega) (by omega)
            have e4 : c x z ≠ 0 := fun hh => e2 (e3.2.2 hh).2
            rw [if_pos e1, if_neg e2, if_neg e4]
            refine ⟨e3.1, ?_⟩
            constructor
            · rintro ⟨_, h⟩; exact absurd h e2
            · intro h; exact absurd h e4
          · rename_i e1 e2
            have e3 := h1 (by omega) (by omega)
            have e4 : c x z ≠ 0 := fun hh => e1 (e3.2.2 hh).1
            rw [if_neg e1, if_pos e2, if_neg e4]
            refine ⟨e3.1, ?_⟩
            constructor
            · rintro ⟨h, _⟩; exact absurd h e1
            · intro h; exact absurd h e4
          · rename_i e1 e2
            have e3 := h1 (by omega) (by omega)
            have e4 : c x z ≠ 0 := fun hh => e1 (e3.2.2 hh).1
            rw [if_neg e1, if_neg e2, if_neg e4]
            refine ⟨e3.1, ?_⟩
            constructor
            · rintro ⟨h, _⟩; exact absurd h e1
            · intro h; exact absurd h e4

theorem good_int : Good Lib.compareInt := by
  refine ⟨fun a b => ?_, fun a b => ?_, fun x y z => ?_⟩
  · unfold Lib.compareInt; split
    · simp
    · split <;> simp
  · unfold Lib.compareInt; repeat' split
    all_goals omega
  · unfold Lib.compareInt; repeat' split
    all_goals omega

def byteC (a b : UInt8) : Int := Lib.compareInt a.toNat b.toNat
theorem good_byte : Good byteC := good_pull good_int (fun a : UInt8 => (a.toNat : Int))

theorem bytes_list : ∀ a b, Lib.compareBytes a b = listC byteC a b
  | [], [] => rfl
  | [], _ :: _ => rfl
  | _ :: _, [] => rfl
  | a :: as, b :: bs => by
    have ih := bytes_list as bs
    unfold Lib.compareBytes listC
    rw [ih]
    have eb : byteC a b = if (a.toNat : Int) < b.toNat then -1 else if (a.toNat : Int) > b.toNat then 1 else 0 := rfl
    rw [eb]
    by_cases h : a < b
    · have h' : ((a.toNat : Int) < b.toNat) := by have := UInt8.lt_iff_toNat_lt.1 h; omega
      simp [h, h']
    · by_cases h2 : b < a
      · have h' : ((b.toNat : Int) < a.toNat) := by have := UInt8.lt_iff_toNat_lt.1 h2; omega
        have h'' : ¬ ((a.toNat : Int) < b.toNat) := by omega
        simp [h, h2, h', h'']
      · have h' : ¬ ((b.toNat : Int) < a.toNat) := by intro hh; exact h2 (UInt8.lt_iff_toNat_lt.2 (by omega))
        have h'' : ¬ ((a.toNat : Int) < b.toNat) := by intro hh; exact h (UInt8.lt_iff_toNat_lt.2 (by omega))
        simp [h, h2, h', h'']

theorem good_bytes : Good Lib.compareBytes := by
  have e : Lib.compareBytes = listC byteC := by funext a b; exact bytes_list a b
  rw [e]; exact good_list good_byte

/-! ### parts -/
def isD (c : UInt8) : Bool := decide (48 ≤ c.toNat) && decide (c.toNat ≤ 57)
def isP (c : UInt8) : Bool := isD c || (decide (65 ≤ c.toNat) && decide (c.toNat ≤ 90)) || (decide (97 ≤ c.toNat) && decide (c.toNat ≤ 122)) || decide (c.toNat = 45)
def numT (l : List UInt8) : Bool := !l.isEmpty && l.all isD
def bareT (l : List UInt8) : List UInt8 := Lib.trimLeftB l 48

def kindT (l : List UInt8) : Int := if numT l then 0 else 1
def lenT (l : List UInt8) : Int := if numT l then (bareT l).length else 0
def bodyT (l : List UInt8) : List UInt8 := if numT l then bareT l else l

def partC (a b : List UInt8) : Int := lexC (fun a b => Lib.compareInt (kindT a) (kindT b)) (lexC (fun a b => Lib.compareInt (lenT a) (lenT b)) (fun a b => Lib.compareBytes (bodyT a) (bodyT b))) a b
theorem good_part : Good partC := good_lex (good_pull good_int kindT) (good_lex (good_pull good_int lenT) (good_pull good_bytes bodyT))

/-- what stands between dots -/
def splitD : List UInt8 → List (List UInt8)
  | [] => [[]]
  | c :: l => if c = 46 then [] :: splitD l else match splitD l with
    | p :: ps => (c :: p) :: ps
    | [] => [[c]]

theorem splitD_cons (c : UInt8) (l : List UInt8) : splitD (c :: l) = if c = 46 then [] :: splitD l else match splitD l with
    | p :: ps => (c :: p) :: ps
    | [] => [[c]] := by rw [splitD]
theorem splitD_ne (l : List UInt8) : splitD l ≠ [] := by
  cases l with
  | nil => simp [splitD]
  | cons c l =>
    rw [splitD_cons]; split
    · simp
    · split <;> simp

theorem splitD_free : ∀ (p : List UInt8), (∀ c ∈ p, c ≠ 46) → splitD p = [p]
  | [], _ => rfl
  | c :: p, h => by
    have ih := splitD_free p (fun x hx => h x (List.mem_cons_of_mem _ hx))
    rw [splitD_cons]
    rw [if_neg (h c (List.mem_cons_self ..)), ih]

theorem splitD_dot : ∀ (p r : List UInt8), (∀ c ∈ p, c ≠ 46) → splitD (p ++ 46 :: r) = p :: splitD r
  | [], r, _ => by simp [splitD]
  | c :: p, r, h => by
    have ih := splitD_dot p r (fun x hx => h x (List.mem_cons_of_mem _ hx))
    rw [List.cons_append, splitD_cons]
    rw [if_neg (h c (List.mem_cons_self ..)), ih]

theorem splitD_app : ∀ (l r : List UInt8), splitD (l ++ 46 :: r) = splitD l ++ splitD r
  | [], r => by simp [splitD]
  | c :: l, r => by
    have ih := splitD_app l r
    rw [List.cons_append, splitD_cons, splitD_cons]
    by_cases h : c = 46
    · rw [if_pos h, if_pos h, ih, List.cons_append]
    · rw [if_neg h, if_neg h, ih]
      obtain ⟨p, ps, e⟩ : ∃ p ps, splitD l = p :: ps := by
        cases e : splitD l with
        | nil => exact absurd e (splitD_ne l)
        | cons p ps => exact ⟨p, ps, rfl⟩
      rw [e]; rfl

def preC (a b : List UInt8) : Int :=
  lexC (fun a b : List UInt8 => Lib.compareInt (if a.isEmpty then 1 else 0) (if b.isEmpty then 1 else 0)) (fun a b => listC partC (splitD a) (splitD b)) a b
theorem good_pre : Good preC := good_lex (good_pull good_int (fun a : List UInt8 => if a.isEmpty then (1 : Int) else 0)) (good_pull (good_list good_part) splitD)

/-- a version, but for Build -/
structure V where
  major : Int
  minor : Int
  patch : Int
  pre : List UInt8

def verC (a b : V) : Int := lexC (fun a b => Lib.compareInt a.major b.major) (lexC (fun a b => Lib.compareInt a.minor b.minor) (lexC (fun a b => Lib.compareInt a.patch b.patch) (fun a b => preC a.pre b.pre))) a b
theorem good_ver : Good verC := good_lex (good_pull good_int V.major) (good_lex (good_pull good_int V.minor) (good_lex (good_pull good_int V.patch) (good_pull good_pre V.pre)))

end Go.Proofs.YtegapdmbpkfpmaaGreatDoor

/-
  The least version, the next one.
-/
namespace Go.Proofs.YtegapdmbpkfpmaaGreatDoor
set_option linter.unusedVariables false

theorem cmp_lt {x y : Int} (h : x < y) : Lib.compareInt x y = -1 := by unfold Lib.compareInt; rw [if_pos h]
theorem cmp_gt {x y : Int} (h : y < x) : Lib.compareInt x y = 1 := by unfold Lib.compareInt; rw [if_neg (by omega), if_pos h]
theorem cmp_eq (x : Int) : Lib.compareInt x x = 0 := good_int.self x
theorem cmp_zero {x y : Int} : Lib.compareInt x y = 0 ↔ x = y := by unfold Lib.compareInt; repeat' split
                                                                    all_goals omega
theorem cmp_le {x y : Int} : Lib.compareInt x y ≤ 0 ↔ x ≤ y := by unfold Lib.compareInt; repeat' split
                                                                  all_goals omega

theorem lex_le {α : Type} {c d : α → α → Int} {a b : α} (h1 : c a b ≤ 0) (h2 : c a b = 0 → d a b ≤ 0) : lexC c d a b ≤ 0 := by
  unfold lexC; split
  · exact h2 ‹_›
  · exact h1

theorem kind_nn (p : List UInt8) : 0 ≤ kindT p := by unfold kindT; split <;> decide
theorem len_nn (p : List UInt8) : 0 ≤ lenT p := by unfold lenT; split <;> omega
theorem kind0 : kindT [48] = 0 := by decide
theorem len0 : lenT [48] = 0 := by decide
theorem body0 : bodyT [48] = [] := by decide

theorem part_zero (p : List UInt8) : partC [48] p ≤ 0 := by
  unfold partC
  refine lex_le ?_ fun h => lex_le ?_ fun h2 => ?_
  · show Lib.compareInt (kindT [48]) (kindT p) ≤ 0
    rw [cmp_le, kind0]; exact kind_nn p
  · show Lib.compareInt (lenT [48]) (lenT p) ≤ 0
    rw [cmp_le, len0]; exact len_nn p
  · show Lib.compareBytes (bodyT [48]) (bodyT p) ≤ 0
    rw [body0]
    cases bodyT p <;> simp [Lib.compareBytes]

theorem pre_zero (l : List UInt8) : preC [48] l ≤ 0 := by
  unfold preC
  refine lex_le ?_ fun h => ?_
  · show Lib.compareInt 0 _ ≤ 0
    rw [cmp_le]; split <;> decide
  · show listC partC (splitD [48]) (splitD l) ≤ 0
    have e : splitD [48] = [[48]] := by decide
    rw [e]
    cases h : splitD l with
    | nil => exact absurd h (splitD_ne l)
    | cons q qs =>
      unfold listC; split
      · cases qs <;> simp [listC]
      · exact part_zero q

theorem listC_app {α : Type} {c : α → α → Int} (h : Good c) (x : α) (r : List α) : ∀ l, listC c l (l ++ x :: r) = -1
  | [] => rfl
  | a :: l => by rw [List.cons_append]; unfold listC; rw [if_pos (h.self a)]; exact listC_app h x r l

theorem list_between : ∀ (L K : List (List UInt8)), listC partC L K < 0 → listC partC K (L ++ [[48]]) < 0 → False
  | [], [], h, _ => by simp [listC] at h
  | [], k :: ks, _, h => by
    have h1 := good_part.anti [48] k
    have h2 := part_zero k
    rw [List.nil_append] at h
    unfold listC at h
    split at h
    · cases ks <;> simp [listC] at h
    · omega
  | a :: L, [], h, _ => by simp [listC] at h
  | a :: L, k :: K, h, h' => by
    have h1 := good_part.anti a k
    rw [List.cons_append] at h'
    unfold listC at h h'
    by_cases e : partC a k = 0
    · rw [if_pos e] at h
      rw [if_pos (by omega)] at h'
      exact list_between L K h h'
    · rw [if_neg e] at h
      rw [if_neg (by omega)] at h'
      omega

def nextV (v : V) : V := if v.pre = [] then ⟨v.major, v.minor, if v.patch < 4611686018427387904 then v.patch + 1 else v.patch, [48]⟩ else ⟨v.major, v.minor, v.patch, v.pre ++ [46, 48]⟩

theorem verC_eq (a b : V) : verC a b = if Lib.compareInt a.major b.major = 0 then (if Lib.compareInt a.minor b.minor = 0 then (if Lib.compareInt a.patch b.patch = 0 then preC a.pre b.pre else Lib.compareInt a.patch b.patch) else Lib.compareInt a.minor b.minor) else Lib.compareInt a.major b.major := rfl
theorem preC_eq (a b : List UInt8) : preC a b = if Lib.compareInt (if a.isEmpty then 1 else 0) (if b.isEmpty then 1 else 0) = 0 then listC partC (splitD a) (splitD b) else Lib.compareInt (if a.isEmpty then 1 else 0) (if b.isEmpty then 1 else 0) := rfl

theorem next_behind (v : V) (h : v.patch < 4611686018427387904) : verC v (nextV v) = -1 := by
  unfold nextV
  by_cases e : v.pre = []
  · rw [if_pos e, if_pos h, verC_eq]
    simp only
    have h3 : Lib.compareInt v.patch (v.patch + 1) = -1 := cmp_lt (by omega)
    rw [if_pos (cmp_eq _), if_pos (cmp_eq _), if_neg (by omega), h3]
  · rw [if_neg e, verC_eq]
    simp only
    rw [if_pos (cmp_eq _), if_pos (cmp_eq _), if_pos (cmp_eq _), preC_eq]
    have e1 : v.pre.isEmpty = false := by simpa using e
    have e2 : (v.pre ++ [46, 48]).isEmpty = false := by simp
    rw [e1, e2, if_pos (cmp_eq _), splitD_app]
    exact listC_app good_part [48] [] _

theorem pre_last (l : List UInt8) : 0 ≤ preC [] l := by
  rw [preC_eq]
  cases l with
  | nil => decide
  | cons c l => exact (by decide : (0:Int) ≤ Lib.compareInt 1 0)

theorem none_between (v w : V) (h : v.patch < 4611686018427387904) (hx : verC v w < 0) (hy : verC w (nextV v) < 0) : False := by
  unfold nextV at hy
  by_cases e : v.pre = []
  · rw [if_pos e, if_pos h, verC_eq] at hy
    rw [verC_eq] at hx
    simp only at hy
    have a1 := good_int.anti v.major w.major
    have a2 := good_int.anti v.minor w.minor
    by_cases c1 : Lib.compareInt v.major w.major = 0
    · rw [if_pos c1] at hx
      rw [if_pos (by omega)] at hy
      by_cases c2 : Lib.compareInt v.minor w.minor = 0
      · rw [if_pos c2] at hx
        rw [if_pos (by omega)] at hy
        have p0 := pre_last w.pre
        rw [e] at hx
        have p1 := pre_zero w.pre
        have p2 := good_pre.anti [48] w.pre
        by_cases c3 : Lib.compareInt v.patch w.patch = 0
        · rw [if_pos c3] at hx; omega
        · rw [if_neg c3] at hx
          have l1 : v.patch ≤ w.patch := cmp_le.1 (by omega)
          have l2 : v.patch ≠ w.patch := fun hh => c3 (cmp_zero.2 hh)
          by_cases c4 : Lib.compareInt w.patch (v.patch + 1) = 0
          · rw [if_pos c4] at hy; omega
          · rw [if_neg c4] at hy
            have l3 : w.patch ≤ v.patch + 1 := cmp_le.1 (by omega)
            have l4 : w.patch ≠ v.patch + 1 := fun hh => c4 (cmp_zero.2 hh)
            omega
      · rw [if_neg c2] at hx
        rw [if_neg (by omega)] at hy
        omega
    · rw [if_neg c1] at hx
      rw [if_neg (by omega)] at hy
      omega
  · rw [if_neg e, verC_eq] at hy
    rw [verC_eq] at hx
    simp only at hy
    have a1 := good_int.anti v.major w.major
    have a2 := good_int.anti v.minor w.minor
    have a3 := good_int.anti v.patch w.patch
    by_cases c1 : Lib.compareInt v.major w.major = 0
    · rw [if_pos c1] at hx
      rw [if_pos (by omega)] at hy
      by_cases c2 : Lib.compareInt v.minor w.minor = 0
      · rw [if_pos c2] at hx
        rw [if_pos (by omega)] at hy
        by_cases c3 : Lib.compareInt v.patch w.patch = 0
        · rw [if_pos c3] at hx
          rw [if_pos (by omega)] at hy
          have e1 : v.pre.isEmpty = false := by simpa using e
          have e2 : (v.pre ++ [46, 48]).isEmpty = false := by simp
          rw [preC_eq, e1] at hx
          rw [preC_eq, e2] at hy
          cases hw : w.pre.isEmpty with
          | true =>
            rw [hw] at hy
            have hc : Lib.compareInt (if true = true then 1 else 0) (if false = true then 1 else 0) = 1 := by decide
            rw [hc] at hy
            simp at hy
          | false =>
            rw [hw] at hx hy
            rw [if_pos (cmp_eq _)] at hx hy
            rw [splitD_app] at hy
            exact list_between _ _ hx hy
        · rw [if_neg c3] at hx
          rw [if_neg (by omega)] at hy
          omega
      · rw [if_neg c2] at hx
        rw [if_neg (by omega)] at hy
        omega
    · rw [if_neg c1] at hx
      rw [if_neg (by omega)] at hy
      omega

end Go.Proofs.YtegapdmbpkfpmaaGreatDoor
