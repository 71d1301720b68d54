import Derived.Test.YtkafaocbeankiaaGreatDoorM30
import Derived.Lib.Join
import Derived.Test.YtkafaocbeankiaaGreatDoorM13
import Derived.Test.YtkafaocbeankiaaGreatDoorM09
import Derived.Laws.BytesString
/-
  Spans as texts.
-/
namespace Go.Proofs.YtkafaocbeankiaaGreatDoor
open Go.RowKit
set_option linter.unusedVariables false

def leastV : V := ⟨0, 0, 0, [48]⟩
/-- does a span begin behind the least version? -/
def lowS (s : Sp) : Bool := decide (0 < verC (cFrom s) leastV)
def fromT (s : Sp) : List UInt8 := textV ⟨s.f1, s.f2, s.f3, s.f4.data.toList, s.f5.data.toList⟩
def toT (s : Sp) : List UInt8 := textV ⟨s.t1, s.t2, s.t3, s.t4.data.toList, s.t5.data.toList⟩
def tOf (s : Sp) : List UInt8 :=
  if lowS s = true then (if s.o = true then [62, 61] ++ fromT s else ([62, 61] ++ fromT s) ++ ([32] ++ ([60] ++ toT s))) else if s.o = true then [42] else [60] ++ toT s
def sepT : List UInt8 := [32, 124, 124, 32]
def noneT : List UInt8 := [60, 48, 46, 48, 46, 48, 45, 48]
def rText (N : List Sp) : List UInt8 := if N = [] then noneT else Lib.join (N.map tOf) sepT

theorem dec_len : ∀ (k u : Nat), u < 10 ^ (k + 1) → (Lib.decDigits u).length ≤ k + 1
  | 0, u, h => by
    rw [Lib.decDigits]
    split
    · simp
    · simp at h; omega
  | k + 1, u, h => by
    rw [Lib.decDigits]
    split
    · simp
    · have h2 : u < 10 ^ (k + 1) * 10 := by rw [← Nat.pow_succ]; exact h
      have := dec_len k (u / 10) (by omega)
      simp; omega
theorem itoa_small (n : Int) (h : bound n = true) : (Lib.itoa n).length ≤ 10 := by
  unfold bound at h
  simp only [Bool.and_eq_true, decide_eq_true_eq] at h
  rw [itoa_dec h.1]
  exact dec_len 9 n.toNat (by omega)
theorem text_len (t : V) (h : okT t = true) : (textV ⟨t.major, t.minor, t.patch, t.pre, []⟩).length ≤ t.pre.length + 33 := by
  unfold okT soundV at h
  simp only [Bool.and_eq_true] at h
  have h1 := itoa_small _ h.1
  have h2 := itoa_small _ h.2.1
  have h3 := itoa_small _ h.2.2.1
  have h4 : (optT 45 t.pre).length ≤ t.pre.length + 1 := by unfold optT; split <;> simp
  have h5 : (optT 43 ([] : List UInt8)).length = 0 := by simp [optT]
  unfold textV
  simp only [List.length_append, List.length_cons]
  omega
theorem text_zero : textV ⟨0, 0, 0, [48], []⟩ = [48, 46, 48, 46, 48, 45, 48] := by
  have h0 : Lib.itoa 0 = [48] := by
    rw [itoa_dec (Int.le_refl 0), Lib.decDigits]; rfl
  unfold textV
  simp only [h0]; rfl
theorem text_zero' : textV ⟨0, 0, 0, [], []⟩ = [48, 46, 48, 46, 48] := by
  have h0 : Lib.itoa 0 = [48] := by
    rw [itoa_dec (Int.le_refl 0), Lib.decDigits]; rfl
  unfold textV
  simp only [h0]; rfl
theorem okT_nums {t : V} (h : okT t = true) : 0 ≤ t.major ∧ t.major ≤ 1000000000 ∧ 0 ≤ t.minor ∧ t.minor ≤ 1000000000 ∧ 0 ≤ t.patch ∧ t.patch ≤ 1000000000 ∧ okParts true t.pre = true := by
  unfold okT soundV bound at h
  simp only [Bool.and_eq_true, decide_eq_true_eq] at h
  exact ⟨h.1.1, h.1.2, h.2.1.1, h.2.1.2, h.2.2.1.1, h.2.2.1.2, h.2.2.2.1⟩
/-- what a span of a normal list is -/
structure NSp (s : Sp) : Prop where
  b1 : 0 ≤ s.f1 ∧ s.f1 ≤ 1000000000
  b2 : 0 ≤ s.f2 ∧ s.f2 ≤ 1000000000
  b3 : 0 ≤ s.f3 ∧ s.f3 ≤ 1000000000
  b4 : s.f4.size ≤ 1048576
  b5 : s.f5 = ⟨#[]⟩
  c1 : 0 ≤ s.t1 ∧ s.t1 ≤ 1000000000
  c2 : 0 ≤ s.t2 ∧ s.t2 ≤ 1000000000
  c3 : 0 ≤ s.t3 ∧ s.t3 ≤ 1000000000
  c4 : s.t4.size ≤ 1048576
  c5 : s.t5 = ⟨#[]⟩
  lf : (fromT s).length ≤ 1048609
  lt : (toT s).length ≤ 1048609
  low : lowS s = false ↔ (s.f1 = 0 ∧ s.f2 = 0 ∧ s.f3 = 0 ∧ s.f4 = ⟨#[48]⟩)
theorem low_iff (x : V) (h : okT x = true) : decide (0 < verC x leastV) = false ↔ x = leastV := by
  obtain ⟨n1, _, n2, _, n3, _, hp⟩ := okT_nums h
  have hl := ver_least x n1 n2 n3
  have ha := v_anti x leastV
  rw [decide_eq_false_iff_not]
  constructor
  · intro hn
    have h0 : verC x leastV = 0 := by
      have : verC leastV x ≤ 0 := hl
      omega
    exact ver_one hp (by decide) h0
  · intro e; rw [e, v_self]; omega
theorem nsp_of (x y : V) (o : Bool) (hx : okT x = true) (hxs : x.pre.length ≤ 1048576) (hy : (y = zeroV0 ∨ okT y = true) ∧ y.pre.length ≤ 1048576) : NSp (spV x y o) := by
  obtain ⟨n1, n1', n2, n2', n3, n3', hp⟩ := okT_nums hx
  have hyn : 0 ≤ y.major ∧ y.major ≤ 1000000000 ∧ 0 ≤ y.minor ∧ y.minor ≤ 1000000000 ∧ 0 ≤ y.patch ∧ y.patch ≤ 1000000000 := by
    rcases hy.1 with rfl | h
    · decide
    · obtain ⟨m1, m1', m2, m2', m3, m3', _⟩ := okT_nums h
      exact ⟨m1, m1', m2, m2', m3, m3'⟩
  obtain ⟨m1, m1', m2, m2', m3, m3'⟩ := hyn
  refine ⟨⟨n1, n1'⟩, ⟨n2, n2'⟩, ⟨n3, n3'⟩, ?_, rfl, ⟨m1, m1'⟩, ⟨m2, m2'⟩, ⟨m3, m3'⟩, ?_, rfl, ?_, ?_, ?_⟩
  · show (⟨x.pre.toArray⟩ : ByteArray).size ≤ _
    simpa [ByteArray.size] using hxs
  · show (⟨y.pre.toArray⟩ : ByteArray).size ≤ _
    simpa [ByteArray.size] using hy.2
  · have := text_len x hx
    show (textV ⟨x.major, x.minor, x.patch, x.pre.toArray.toList, []⟩).length ≤ _
    simp only []
    omega
  · show (textV ⟨y.major, y.minor, y.patch, y.pre.toArray.toList, []⟩).length ≤ _
    rcases hy.1 with rfl | h
    · show (textV ⟨0, 0, 0, [], []⟩).length ≤ _
      rw [text_zero']; simp
    · have := text_len y h
      simp only []
      omega
  · unfold lowS
    rw [cFrom_spV, low_iff x hx]
    constructor
    · intro e; rw [e]; exact ⟨rfl, rfl, rfl, rfl⟩
    · rintro ⟨e1, e2, e3, e4⟩
      obtain ⟨a, b, c, p⟩ := x
      simp only [spV] at e1 e2 e3 e4
      subst e1 e2 e3
      have e5 : p.toArray = #[48] := by injection e4
      have e6 : p = [48] := by
        have := congrArg Array.toList e5
        simpa using this
      rw [e6]; rfl
theorem nsp_outs {T : List V} {k : Nat} (h : NT T k) : ∀ s ∈ outs T, NSp s := by
  intro s hs
  rcases outs_mem T s hs with ⟨x, hx, rfl⟩ | ⟨x, hx, y, hy, rfl⟩
  · exact nsp_of x zeroV0 true (h.sd x hx) (h.sm x hx) ⟨Or.inl rfl, by decide⟩
  · exact nsp_of x y false (h.sd x hx) (h.sm x hx) ⟨Or.inr (h.sd y hy), h.sm y hy⟩
theorem tOf_len {s : Sp} (h : NSp s) : (tOf s).length ≤ 2097222 := by
  have h1 := h.lf
  have h2 := h.lt
  unfold tOf
  split
  · split
    · simp; omega
    · simp; omega
  · split
    · simp
    · simp; omega
theorem join_snoc (sep x : List UInt8) : ∀ (l : List (List UInt8)), l ≠ [] → Lib.join (l ++ [x]) sep = Lib.join l sep ++ (sep ++ x)
  | [], h => absurd rfl h
  | [a], _ => by simp [Lib.join, List.intercalate]
  | a :: b :: r, _ => by
    have ih := join_snoc sep x (b :: r) (by simp)
    have e : ∀ (a b : List UInt8) (r : List (List UInt8)), Lib.join (a :: b :: r) sep = a ++ (sep ++ Lib.join (b :: r) sep) := fun a b r => by simp [Lib.join, List.intercalate]
    rw [List.cons_append, List.cons_append, e, e, ← List.cons_append, ih]
    simp only [List.append_assoc]
theorem join_le (sep : List UInt8) (m : Nat) : ∀ (l : List (List UInt8)), (∀ x ∈ l, x.length ≤ m) → (Lib.join l sep).length ≤ l.length * (m + sep.length)
  | [], _ => by simp [Lib.join, List.intercalate]
  | [a], h => by
    have := h a (by simp)
    rw [Lib.join_one]; simp; omega
  | a :: b :: r, h => by
    have ih := join_le sep m (b :: r) (fun x hx => h x (by simp [hx]))
    have e : Lib.join (a :: b :: r) sep = a ++ (sep ++ Lib.join (b :: r) sep) := by simp [Lib.join, List.intercalate]
    have ha := h a (by simp)
    rw [e, List.length_append, List.length_append, List.length_cons, Nat.add_mul]
    omega
theorem rt_step (N : List Sp) (i : Nat) (hi : i < N.length) : Lib.join ((N.take (i + 1)).map tOf) sepT = if i = 0 then tOf N[i] else Lib.join ((N.take i).map tOf) sepT ++ (sepT ++ tOf N[i]) := by
  rw [List.take_succ_eq_append_getElem hi, List.map_append]
  split
  · rename_i h; subst h; simp [Lib.join_one]
  · rename_i h
    have : (N.take i).map tOf ≠ [] := by
      intro e
      have := congrArg List.length e
      rw [List.length_map, List.length_take, List.length_nil] at this
      omega
    exact join_snoc sepT _ _ this
theorem rt_len (N : List Sp) (h : ∀ s ∈ N, NSp s) (i : Nat) : (Lib.join ((N.take i).map tOf) sepT).length ≤ i * 2097226 := by
  have h1 := join_le sepT 2097222 ((N.take i).map tOf) (fun x hx => by
    obtain ⟨s, hs, rfl⟩ := List.mem_map.1 hx
    exact tOf_len (h s (List.mem_of_mem_take hs)))
  have h2 : ((N.take i).map tOf).length ≤ i := by rw [List.length_map, List.length_take]; omega
  have h3 : sepT.length = 4 := rfl
  rw [h3] at h1
  have h4 := Nat.mul_le_mul_right 2097226 h2
  exact Nat.le_trans h1 h4
end Go.Proofs.YtkafaocbeankiaaGreatDoor

/-
  A number in base ten, written by the document; walked.
-/
namespace Go.Proofs.YtkafaocbeankiaaGreatDoor
open Go.RowKit
set_option linter.unusedVariables false

theorem conv_one (w : World) (c : Int) : (convert 54 9 (.slice (some ⟨w.heap.size, 0, none⟩) 1 1)).run Tryz.prog (w.alloc (.cells #[.int .u8 c] 5)) = .ok (.string ⟨#[UInt8.ofNat c.toNat]⟩) (w.alloc (.cells #[.int .u8 c] 5)) := by
  rw [run_convert_bytes_string _ 54 9 5 _ 1 1 Tryz.underlying54 Tryz.underlying5 Tryz.underlying9]
  rw [run_bytesToString _ _ 1 1 [c] (run_loadCells_list _ _ [.int .u8 c] (by
    intro j v hj
    match j, hj with
    | 0, hj => simp at hj; subst hj; simp [Addr.add]))]
  rfl
theorem add_lists (x y : List UInt8) (wx : World) (h : x.length + y.length ≤ 9223372036854775807) : (Op.stringOp .add ⟨x.toArray⟩ ⟨y.toArray⟩).run Tryz.prog wx = .ok (.string ⟨(x ++ y).toArray⟩) wx := by
  rw [run_string_add_sum wx _ _ (by
    show x.toArray.size + y.toArray.size ≤ _
    simpa using h), ByteArray.mk_append_mk]
theorem nd_len : ∀ (u : Nat), (Lib.decDigits u).length ≤ u / 10 + 1 := by
  intro u
  induction u using Nat.strongRecOn with
  | ind u ih =>
    rw [Lib.decDigits]
    split
    · simp
    · have := ih (u / 10) (by omega)
      simp; omega
theorem itoa_len (n : Int) (h0 : -9223372036854775808 ≤ n) (h1 : n ≤ 9223372036854775807) : (Lib.itoa n).length ≤ 922337203685477584 := by
  unfold Lib.itoa
  split
  · have := nd_len n.natAbs; simp; omega
  · have := nd_len n.toNat; omega
theorem itoa_s1 (n : Int) (h : n < 0) (h' : -10 < n) : Lib.itoa n = [45, UInt8.ofNat (48 - n).toNat] := by
  unfold Lib.itoa
  rw [if_pos h, Lib.decDigits_one (by omega), show (48 - n).toNat = 48 + n.natAbs by omega]
theorem itoa_s3 (n : Int) (h : ¬ n < 0) (h' : n < 10) : Lib.itoa n = [UInt8.ofNat (48 + n).toNat] := by
  unfold Lib.itoa
  rw [if_neg h, Lib.decDigits_one (by omega), show (48 + n).toNat = 48 + n.toNat by omega]
theorem itoa_s4 (n : Int) (h : 10 ≤ n) : Lib.itoa n = Lib.itoa (n / 10) ++ [UInt8.ofNat (48 + n % 10).toNat] := by
  unfold Lib.itoa
  rw [if_neg (by omega), if_neg (by omega), Lib.decDigits, dif_neg (by omega), show (n / 10).toNat = n.toNat / 10 by omega, show (48 + n % 10).toNat = 48 + n.toNat % 10 by omega]
theorem tdiv_neg (n : Int) (h : n < 0) : n.tdiv 10 = -((-n) / 10) := by
  have : n = -(-n) := by omega
  rw [this, Int.neg_tdiv, Int.tdiv_eq_ediv_of_nonneg (by omega)]; simp
theorem tmod_neg (n : Int) (h : n < 0) : n.tmod 10 = -((-n) % 10) := by
  have : n = -(-n) := by omega
  rw [this, Int.neg_tmod, Int.tmod_eq_emod_of_nonneg (by omega)]; simp
theorem itoa_s2 (n : Int) (h : n ≤ -10) : Lib.itoa n = Lib.itoa (n.tdiv 10) ++ [UInt8.ofNat (48 - n.tmod 10).toNat] := by
  rw [tdiv_neg n (by omega), tmod_neg n (by omega)]
  unfold Lib.itoa
  rw [if_pos (by omega), if_pos (by omega), Lib.decDigits, dif_neg (by omega), show (-(-n / 10)).natAbs = n.natAbs / 10 by omega, show (48 - -(-n % 10)).toNat = 48 + n.natAbs % 10 by omega]
  rfl

set_option maxHeartbeats 800000 in
theorem decimal_at : ∀ (m : Nat) (n : Int), n.natAbs = m → -9223372036854775808 ≤ n → n ≤ 9223372036854775807 → ∀ (w : World),
    Calls Tryz.prog 32 #[.int .i64 n] w fun e w' => e = .returned (.string ⟨(Lib.itoa n).toArray⟩) ∧ Below w.heap.size w w' := by
  intro m
  induction m using Nat.strongRecOn with
  | ind m ih =>
    intro n hm h0 h1 w
    have IH : Hid (∀ n' : Int, n'.natAbs < m → -9223372036854775808 ≤ n' → n' ≤ 9223372036854775807 → ∀ (w : World), Calls Tryz.prog 32 #[.int .i64 n'] w fun e w' => e = .returned (.string ⟨(Lib.itoa n').toArray⟩) ∧ Below w.heap.size w w') := fun n' h => ih _ h n' rfl
    have HM : Hid (n.natAbs = m) := hm
    clear ih hm
    obtain ⟨T, hT⟩ : ∃ T, T = Lib.itoa n := ⟨_, rfl⟩
    rw [← hT]
    have HT : Hid (T = Lib.itoa n) := hT
    clear hT
    by_cases hneg : n < 0
    · by_cases h10 : -10 < n
      · have w1 : IntKind.i64.wrap (48 - n) = 48 - n := by rw [IntKind.wrap_i64]; omega
        have w2 : IntKind.u8.wrap (48 - n) = 48 - n := by rw [IntKind.wrap_u8]; omega
        have hcv := conv_one w (48 - n)
        have HE : Hid (T = [45, UInt8.ofNat (48 - n).toNat]) := by show T = _; rw [HT.out, itoa_s1 n hneg h10]
        go_enter Tryz.func32, Tryz.ntmps32
        go_wp2
        go_ret
        refine ⟨?_, gb_below (gb_alloc (gb_refl w none) _)⟩
        rw [HE.out]
        rfl
      · have hn10 : n ≤ -10 := by omega
        have hr : n.tmod 10 = -((-n) % 10) := tmod_neg n hneg
        have hq : n.tdiv 10 = -((-n) / 10) := tdiv_neg n hneg
        have w1 : IntKind.i64.wrap (48 - n.tmod 10) = 48 - n.tmod 10 := by rw [IntKind.wrap_i64]; omega
        have w2 : IntKind.u8.wrap (48 - n.tmod 10) = 48 - n.tmod 10 := by rw [IntKind.wrap_u8]; omega
        have HC : Hid (∀ w : World, Calls Tryz.prog 32 #[.int .i64 (n.tdiv 10)] w fun e w' => e = .returned (.string ⟨(Lib.itoa (n.tdiv 10)).toArray⟩) ∧ Below w.heap.size w w') := IH.out (n.tdiv 10) (by have := HM.out; omega) (by omega) (by omega)
        have hl := itoa_len (n.tdiv 10) (by omega) (by omega)
        have HE : Hid (T = Lib.itoa (n.tdiv 10) ++ [UInt8.ofNat (48 - n.tmod 10).toNat]) := by show T = _; rw [HT.out, itoa_s2 n hn10]
        have ad := fun wx => add_lists (Lib.itoa (n.tdiv 10)) [UInt8.ofNat (48 - n.tmod 10).toNat] wx (by simp; omega)
        have hcv := fun w => conv_one w (48 - n.tmod 10)
        rw [← HE.out] at ad
        clear hr hq hl
        generalize Lib.itoa (n.tdiv 10) = T1 at HC ad HE
        generalize UInt8.ofNat (48 - n.tmod 10).toNat = d at ad hcv HE
        have ad' : ∀ wx, (Op.stringOp .add ⟨T1.toArray⟩ ⟨#[d]⟩).run Tryz.prog wx = .ok (.string ⟨T.toArray⟩) wx := ad
        clear ad h10
        go_enter Tryz.func32, Tryz.ntmps32
        go_wp2_with (go_at_call 32; refine (HC.out _).mono ?_)
        rintro e w1' ⟨rfl, hb⟩
        have HB : Hid (Below w.heap.size w w1') := hb
        clear hb
        have hcv1 := hcv w1'
        clear hcv
        go_wp2
        go_ret
        exact ⟨rfl, HB.out.alloc HB.out.size _⟩
    · by_cases h10 : n < 10
      · have w1 : IntKind.i64.wrap (48 + n) = 48 + n := by rw [IntKind.wrap_i64]; omega
        have w2 : IntKind.u8.wrap (48 + n) = 48 + n := by rw [IntKind.wrap_u8]; omega
        have hcv := conv_one w (48 + n)
        have HE : Hid (T = [UInt8.ofNat (48 + n).toNat]) := by show T = _; rw [HT.out, itoa_s3 n hneg h10]
        go_enter Tryz.func32, Tryz.ntmps32
        go_wp2
        go_ret
        refine ⟨?_, gb_below (gb_alloc (gb_refl w none) _)⟩
        rw [HE.out]
        rfl
      · have hn10 : 10 ≤ n := by omega
        have w1 : IntKind.i64.wrap (48 + n % 10) = 48 + n % 10 := by rw [IntKind.wrap_i64]; omega
        have w2 : IntKind.u8.wrap (48 + n % 10) = 48 + n % 10 := by rw [IntKind.wrap_u8]; omega
        have HC : Hid (∀ w : World, Calls Tryz.prog 32 #[.int .i64 (n / 10)] w fun e w' => e = .returned (.string ⟨(Lib.itoa (n / 10)).toArray⟩) ∧ Below w.heap.size w w') := IH.out (n / 10) (by have := HM.out; omega) (by omega) (by omega)
        have hl := itoa_len (n / 10) (by omega) (by omega)
        have HE : Hid (T = Lib.itoa (n / 10) ++ [UInt8.ofNat (48 + n % 10).toNat]) := by show T = _; rw [HT.out, itoa_s4 n hn10]
        have ad := fun wx => add_lists (Lib.itoa (n / 10)) [UInt8.ofNat (48 + n % 10).toNat] wx (by simp; omega)
        have hcv := fun w => conv_one w (48 + n % 10)
        rw [← HE.out] at ad
        clear hl
        generalize Lib.itoa (n / 10) = T1 at HC ad HE
        generalize UInt8.ofNat (48 + n % 10).toNat = d at ad hcv HE
        have ad' : ∀ wx, (Op.stringOp .add ⟨T1.toArray⟩ ⟨#[d]⟩).run Tryz.prog wx = .ok (.string ⟨T.toArray⟩) wx := ad
        clear ad h10
        go_enter Tryz.func32, Tryz.ntmps32
        go_wp2_with (go_at_call 32; refine (HC.out _).mono ?_)
        rintro e w1' rfl hb
        have HB : Hid (Below w.heap.size w w1') := hb
        clear hb
        have hcv1 := hcv w1'
        clear hcv
        go_wp2
        go_ret
        exact ⟨rfl, HB.out.alloc HB.out.size _⟩
theorem decimal_any (n : Int) (w : World) (h0 : -9223372036854775808 ≤ n) (h1 : n ≤ 9223372036854775807) :
    Calls Tryz.prog 32 #[.int .i64 n] w fun e w' => e = .returned (.string ⟨(Lib.itoa n).toArray⟩) ∧ Below w.heap.size w w' := decimal_at _ n rfl h0 h1 w
end Go.Proofs.YtkafaocbeankiaaGreatDoor
