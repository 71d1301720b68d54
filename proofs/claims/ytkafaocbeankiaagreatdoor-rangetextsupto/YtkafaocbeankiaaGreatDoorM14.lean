import Derived.Test.YtkafaocbeankiaaGreatDoorM13
import Derived.Test.YtkafaocbeankiaaGreatDoorM12
/-
  Lists of spans; the document's SoundSpans, walked.
-/
namespace Go.Proofs.YtkafaocbeankiaaGreatDoor
open Go.RowKit
set_option linter.unusedVariables false

/-- a span -/
structure Sp where
  f1 : Int
  f2 : Int
  f3 : Int
  f4 : ByteArray
  f5 : ByteArray
  t1 : Int
  t2 : Int
  t3 : Int
  t4 : ByteArray
  t5 : ByteArray
  o : Bool
/-- its cells -/
def spC (s : Sp) : List Value := [.int .i64 s.f1, .int .i64 s.f2, .int .i64 s.f3, .string s.f4, .string s.f5, .int .i64 s.t1, .int .i64 s.t2, .int .i64 s.t3, .string s.t4, .string s.t5, .bool s.o]
def vFrom (s : Sp) : Vv := ⟨s.f1, s.f2, s.f3, s.f4.data.toList, s.f5.data.toList⟩
def vTo (s : Sp) : Vv := ⟨s.t1, s.t2, s.t3, s.t4.data.toList, s.t5.data.toList⟩
def soundS (s : Sp) : Bool := soundV (vFrom s) && (s.o || soundV (vTo s))
def smallS (s : Sp) : Prop := s.f4.size ≤ 1048576 ∧ s.f5.size ≤ 1048576 ∧ s.t4.size ≤ 1048576 ∧ s.t5.size ≤ 1048576

/-- the span lies at p -/
def EltAt (w : World) (p : Addr) (s : Sp) : Prop := w.cell? p = some (.int .i64 s.f1) ∧ w.cell? ⟨p.block, p.off + 1, none⟩ = some (.int .i64 s.f2) ∧ w.cell? ⟨p.block, p.off + 2, none⟩ = some (.int .i64 s.f3) ∧ w.cell? ⟨p.block, p.off + 3, none⟩ = some (.string s.f4) ∧ w.cell? ⟨p.block, p.off + 4, none⟩ = some (.string s.f5) ∧ w.cell? ⟨p.block, p.off + 5, none⟩ = some (.int .i64 s.t1) ∧ w.cell? ⟨p.block, p.off + 6, none⟩ = some (.int .i64 s.t2) ∧ w.cell? ⟨p.block, p.off + 7, none⟩ = some (.int .i64 s.t3) ∧ w.cell? ⟨p.block, p.off + 8, none⟩ = some (.string s.t4) ∧ w.cell? ⟨p.block, p.off + 9, none⟩ = some (.string s.t5) ∧ w.cell? ⟨p.block, p.off + 10, none⟩ = some (.bool s.o)
theorem EltAt.grow {w w' : World} {p : Addr} {s : Sp} (h : EltAt w p s) (hg : w.grownBy w' none) : EltAt w' p s := by
  obtain ⟨h0, h1, h2, h3, h4, h5, h6, h7, h8, h9, h10⟩ := h
  exact ⟨hg.cell h0 (by simp), hg.cell h1 (by simp), hg.cell h2 (by simp), hg.cell h3 (by simp), hg.cell h4 (by simp), hg.cell h5 (by simp), hg.cell h6 (by simp), hg.cell h7 (by simp), hg.cell h8 (by simp), hg.cell h9 (by simp), hg.cell h10 (by simp)⟩
/-- the spans lie from address a on -/
def SpAt (w : World) (a : Addr) (L : List Sp) : Prop := ∀ i (hi : i < L.length), EltAt w (a.add (i * 11)) L[i]
theorem SpAt.grow {w w' : World} {a : Addr} {L : List Sp} (h : SpAt w a L) (hg : w.grownBy w' none) : SpAt w' a L := fun i hi => (h i hi).grow hg
theorem add_off (a : Addr) (n k : Nat) (hk : 0 < k) : a.add (n + k) = ⟨(a.add n).block, (a.add n).off + k, none⟩ := by
  unfold Addr.add
  rw [if_neg (by omega)]
  by_cases h : n = 0
  · rw [if_pos h, h]; simp
  · rw [if_neg h]; simp [Nat.add_assoc]
theorem elt_of_cells {w : World} {a : Addr} {n : Nat} {s : Sp} (h : ∀ k v, (spC s)[k]? = some v → w.cell? (a.add (n + k)) = some v) : EltAt w (a.add n) s :=
  ⟨by have := h 0 _ rfl; simpa using this, by have := h 1 _ rfl; rw [add_off a n 1 (by omega)] at this; exact this, by have := h 2 _ rfl; rw [add_off a n 2 (by omega)] at this; exact this, by have := h 3 _ rfl; rw [add_off a n 3 (by omega)] at this; exact this, by have := h 4 _ rfl; rw [add_off a n 4 (by omega)] at this; exact this, by have := h 5 _ rfl; rw [add_off a n 5 (by omega)] at this; exact this, by have := h 6 _ rfl; rw [add_off a n 6 (by omega)] at this; exact this, by have := h 7 _ rfl; rw [add_off a n 7 (by omega)] at this; exact this, by have := h 8 _ rfl; rw [add_off a n 8 (by omega)] at this; exact this, by have := h 9 _ rfl; rw [add_off a n 9 (by omega)] at this; exact this, by have := h 10 _ rfl; rw [add_off a n 10 (by omega)] at this; exact this⟩

set_option maxRecDepth 100000 in
set_option maxHeartbeats 1600000 in
theorem soundSpans_at (a : Addr) (cap : Nat) (L : List Sp) (w : World) (hL : L.length < 2 ^ 62) (hcap : L.length ≤ cap) (h : SpAt w a L) (hsz : ∀ s ∈ L, smallS s) :
    Calls Tryz.prog 6 #[.slice (some a) L.length cap] w fun e w' => e = .returned (.bool (L.all soundS)) ∧ w.grownBy w' none := by
  have HA : Hid (SpAt w a L) := h
  have HS : Hid (∀ s ∈ L, smallS s) := hsz
  clear h hsz
  obtain ⟨R, hR⟩ : ∃ R, L.all soundS = R := ⟨_, rfl⟩
  have HR : Hid (L.all soundS = R) := hR
  rw [hR]
  clear hR
  go_enter Tryz.func6, Tryz.ntmps6
  go_wp2
  go_loopw [3] (fun vi wr => ∃ i : Nat, vi = .int .i64 i ∧ i ≤ L.length ∧ (∀ j (hj : j < L.length), j < i → soundS L[j] = true) ∧ w.grownBy wr none) (fun vi _ => L.length - (intOf vi).toNat)
  case atStart => exact ⟨0, rfl, Nat.zero_le _, fun j hj h => absurd h (by omega), gb_refl _ _⟩
  case round =>
    obtain ⟨i, rfl, hi, hp, hg⟩ := hrel
    have HP : Hid (∀ j (hj : j < L.length), j < i → soundS L[j] = true) := hp
    have HG : Hid (w.grownBy wr none) := hg
    clear hp hg
    by_cases hlt : i < L.length
    · obtain ⟨s, hs⟩ : ∃ s, L[i] = s := ⟨_, rfl⟩
      have HE : Hid (EltAt wr (a.add (i * 11)) s) := by show EltAt wr _ s; rw [← hs]; exact (HA.out i hlt).grow HG.out
      have hm : smallS s := by rw [← hs]; exact HS.out _ (List.getElem_mem hlt)
      have HSS : Hid (L[i] = s) := hs
      have CF : Hid (∀ w, Calls Tryz.prog 15 #[.agg #[.int .i64 s.f1, .int .i64 s.f2, .int .i64 s.f3, .string s.f4, .string s.f5]] w fun e w' => e = .returned (.bool (soundV (vFrom s))) ∧ w.grownBy w' none) := fun w => sound_any s.f1 s.f2 s.f3 s.f4 s.f5 w hm.1 hm.2.1
      have CT : Hid (∀ w, Calls Tryz.prog 15 #[.agg #[.int .i64 s.t1, .int .i64 s.t2, .int .i64 s.t3, .string s.t4, .string s.t5]] w fun e w' => e = .returned (.bool (soundV (vTo s))) ∧ w.grownBy w' none) := fun w => sound_any s.t1 s.t2 s.t3 s.t4 s.t5 w hm.2.2.1 hm.2.2.2
      obtain ⟨x, hx⟩ : ∃ x, soundV (vFrom s) = x := ⟨_, rfl⟩
      obtain ⟨y, hy⟩ : ∃ y, soundV (vTo s) = y := ⟨_, rfl⟩
      rw [hx] at CF
      rw [hy] at CT
      have HXY : Hid (soundS s = (x && (s.o || y))) := by show soundS s = _; unfold soundS; rw [hx, hy]
      clear hx hy hm hs
      obtain ⟨e0, e1, e2, e3, e4, e5, e6, e7, e8, e9, e10⟩ := HE.out
      go_wp2_with (first | (go_at_call 15; refine (CF.out _).mono ?_))
      rintro e w1 ⟨rfl, hg⟩
      replace HE : Hid (EltAt w1 (a.add (i * 11)) s) := HE.out.grow hg
      replace HG : Hid (w.grownBy w1 none) := gb_trans HG.out hg
      clear hg e0 e1 e2 e3 e4 e5 e6 e7 e8 e9 e10
      obtain ⟨e0, e1, e2, e3, e4, e5, e6, e7, e8, e9, e10⟩ := HE.out
      go_wp2_with (first | (go_at_call 15; refine (CT.out _).mono ?_))
      rintro e w2 ⟨rfl, hg⟩
      replace HE : Hid (EltAt w2 (a.add (i * 11)) s) := HE.out.grow hg
      replace HG : Hid (w.grownBy w2 none) := gb_trans HG.out hg
      clear hg e0 e1 e2 e3 e4 e5 e6 e7 e8 e9 e10
      obtain ⟨e0, e1, e2, e3, e4, e5, e6, e7, e8, e9, e10⟩ := HE.out
      obtain ⟨ob, hob⟩ : ∃ b, s.o = b := ⟨_, rfl⟩
      rw [hob] at e10 HXY
      clear hob
      cases x with
      | false =>
        cases ob with
        | false =>
          cases y with
          | false =>
            have HT : Hid (soundS s = false) := HXY.out
            have HRF : Hid (R = false) := by
              show R = false
              rw [← HR.out, List.all_eq_false]
              exact ⟨L[i], List.getElem_mem hlt, by rw [HSS.out, HT.out]; decide⟩
            clear HXY
            go_wp2
            go_ret
            exact ⟨ret_bool HRF.out.symm, HG.out⟩
          | true =>
            have HT : Hid (soundS s = false) := HXY.out
            have HRF : Hid (R = false) := by
              show R = false
              rw [← HR.out, List.all_eq_false]
              exact ⟨L[i], List.getElem_mem hlt, by rw [HSS.out, HT.out]; decide⟩
            clear HXY
            go_wp2
            go_ret
            exact ⟨ret_bool HRF.out.symm, HG.out⟩
        | true =>
          cases y with
          | false =>
            have HT : Hid (soundS s = false) := HXY.out
            have HRF : Hid (R = false) := by
              show R = false
              rw [← HR.out, List.all_eq_false]
              exact ⟨L[i], List.getElem_mem hlt, by rw [HSS.out, HT.out]; decide⟩
            clear HXY
            go_wp2
            go_ret
            exact ⟨ret_bool HRF.out.symm, HG.out⟩
          | true =>
            have HT : Hid (soundS s = false) := HXY.out
            have HRF : Hid (R = false) := by
              show R = false
              rw [← HR.out, List.all_eq_false]
              exact ⟨L[i], List.getElem_mem hlt, by rw [HSS.out, HT.out]; decide⟩
            clear HXY
            go_wp2
            go_ret
            exact ⟨ret_bool HRF.out.symm, HG.out⟩
      | true =>
        cases ob with
        | false =>
          cases y with
          | false =>
            have HT : Hid (soundS s = false) := HXY.out
            have HRF : Hid (R = false) := by
              show R = false
              rw [← HR.out, List.all_eq_false]
              exact ⟨L[i], List.getElem_mem hlt, by rw [HSS.out, HT.out]; decide⟩
            clear HXY
            go_wp2
            go_ret
            exact ⟨ret_bool HRF.out.symm, HG.out⟩
          | true =>
            have HT : Hid (soundS s = true) := HXY.out
            clear HXY
            go_wp2
            go_roundw
            case rel =>
              refine ⟨i + 1, by go_num, by omega, fun j hj hji => ?_, HG.out⟩
              by_cases hji' : j < i
              · exact HP.out j hj hji'
              · have e : j = i := by omega
                subst e
                rw [HSS.out]; exact HT.out
            case measure => simp [intOf]; omega
        | true =>
          cases y with
          | false =>
            have HT : Hid (soundS s = true) := HXY.out
            clear HXY
            go_wp2
            go_roundw
            case rel =>
              refine ⟨i + 1, by go_num, by omega, fun j hj hji => ?_, HG.out⟩
              by_cases hji' : j < i
              · exact HP.out j hj hji'
              · have e : j = i := by omega
                subst e
                rw [HSS.out]; exact HT.out
            case measure => simp [intOf]; omega
          | true =>
            have HT : Hid (soundS s = true) := HXY.out
            clear HXY
            go_wp2
            go_roundw
            case rel =>
              refine ⟨i + 1, by go_num, by omega, fun j hj hji => ?_, HG.out⟩
              by_cases hji' : j < i
              · exact HP.out j hj hji'
              · have e : j = i := by omega
                subst e
                rw [HSS.out]; exact HT.out
            case measure => simp [intOf]; omega
    · have HRT : Hid (R = true) := by
        show R = true
        rw [← HR.out, List.all_eq_true]
        intro t ht
        obtain ⟨j, hj, rfl⟩ := List.getElem_of_mem ht
        exact HP.out j hj (by omega)
      clear hi
      go_wp2
      go_ret
      exact ⟨ret_bool HRT.out.symm, HG.out⟩

set_option maxHeartbeats 400000 in
theorem soundSpans_nil (w : World) : Calls Tryz.prog 6 #[.slice none 0 0] w fun e w' => e = .returned (.bool true) ∧ w.grownBy w' none := by
  go_enter Tryz.func6, Tryz.ntmps6
  go_wp2
  go_loopw [3] (fun vi wr => vi = .int .i64 0 ∧ w.grownBy wr none) (fun vi _ => 0)
  case atStart => exact ⟨rfl, gb_refl _ _⟩
  case round =>
    obtain ⟨rfl, hg⟩ := hrel
    have HG : Hid (w.grownBy wr none) := hg
    clear hg
    go_wp2
    go_ret
    exact ⟨rfl, HG.out⟩
end Go.Proofs.YtkafaocbeankiaaGreatDoor

/-
  bounds of the document, walked.
-/
namespace Go.Proofs.YtkafaocbeankiaaGreatDoor
open Go.RowKit
set_option linter.unusedVariables false

def qFrom (s : Sp) : V := ⟨s.f1, s.f2, s.f3, s.f4.data.toList⟩
def qTo (s : Sp) : V := ⟨s.t1, s.t2, s.t3, s.t4.data.toList⟩
def bndS (out : List V) (s : Sp) : List V := if s.o = true then insV (qFrom s) out else insV (qTo s) (insV (qFrom s) out)
def bnd (l : List Sp) : List V := l.foldl bndS []
/-- the slice holds the versions -/
def VsS (w : World) (sl : Value) (l : List V) : Prop := (sl = .slice none 0 0 ∧ l = []) ∨ ∃ a cap, sl = .slice (some a) l.length cap ∧ l.length ≤ cap ∧ VsAt w a l
theorem VsS.grow {w w' : World} {sl : Value} {l : List V} (h : VsS w sl l) (hg : w.grownBy w' none) : VsS w' sl l := by
  rcases h with h | ⟨a, cap, h1, h2, h3⟩
  · exact Or.inl h
  · exact Or.inr ⟨a, cap, h1, h2, h3.grow hg⟩
theorem v_get (l : List V) : ∀ (i : Nat) (hi : i < l.length) (k : Nat) (u : Value), (vC l[i])[k]? = some u → (l.flatMap vC)[i * 5 + k]? = some u := by
  induction l with
  | nil => intro i hi; simp at hi
  | cons t l ih =>
    intro i hi k u h
    rw [List.flatMap_cons]
    have hl : (vC t).length = 5 := rfl
    cases i with
    | zero =>
      simp only [List.getElem_cons_zero] at h
      have hk : k < (vC t).length := (List.getElem?_eq_some_iff.1 h).1
      rw [Nat.zero_mul, Nat.zero_add, List.getElem?_append_left hk]
      exact h
    | succ i =>
      simp only [List.getElem_cons_succ] at h
      rw [List.getElem?_append_right (by rw [hl]; omega), hl, show (i + 1) * 5 + k - 5 = i * 5 + k by omega]
      exact ih i (by simpa using hi) k u h
theorem vs_own {w : World} {base : Nat} {v : Value} {l : List V} (h : w.ownsRow base 43 5 v l.length (l.flatMap vC)) : VsS w v l := by
  rcases h.2 with ⟨h1, h2⟩ | ⟨g, cap, cur, h1, hb, hg, hn, hm, hs, ht⟩
  · exact Or.inl ⟨h1, List.length_eq_zero_iff.1 h2⟩
  · refine Or.inr ⟨⟨g, 0, none⟩, cap, h1, hn, fun i hi => ?_⟩
    have key : ∀ k u, (vC l[i])[k]? = some u → w.cell? ((⟨g, 0, none⟩ : Addr).add (i * 5 + k)) = some u := fun k u hu => h.cells (g := g) (by rw [h1]; rfl) (i * 5 + k) u (v_get l i hi k u hu)
    have hadd : ∀ k, (⟨g, 0, none⟩ : Addr).add k = ⟨g, k, none⟩ := fun k => by
      unfold Addr.add
      split
      · rename_i h; rw [h]
      · simp
    refine ⟨?_, ?_, ?_, ?_, ?_⟩
    · have := key 0 _ rfl; rw [hadd] at this ⊢; exact this
    · have := key 1 _ rfl; rw [hadd] at this; rw [hadd]; exact this
    · have := key 2 _ rfl; rw [hadd] at this; rw [hadd]; exact this
    · have := key 3 _ rfl; rw [hadd] at this; rw [hadd]; exact this
    · have := key 4 _ rfl; rw [hadd] at this; rw [hadd]; exact this
theorem cWith (sl : Value) (l : List V) (v : V) (w : World) (h : VsS w sl l) (hl : l.length ≤ 4194304) (hs : ∀ t ∈ l, t.pre.length ≤ 1048576) (hv : v.pre.length ≤ 1048576) :
    Calls Tryz.prog 44 #[sl, .agg #[.int .i64 v.major, .int .i64 v.minor, .int .i64 v.patch, .string ⟨v.pre.toArray⟩, .string ⟨#[]⟩]] w fun e w' => ∃ vo, e = .returned vo ∧ VsS w' vo (insV v l) ∧ w.grownBy w' none := by
  rcases h with ⟨rfl, rfl⟩ | ⟨a, cap, rfl, h2, h3⟩
  · refine (with_nil v w).mono ?_
    rintro e w' ⟨vo, rfl, ho, hb⟩
    exact ⟨vo, rfl, vs_own ho, ⟨hb.os, hb.tape, hb.output, hb.size, fun k hk _ => hb.block k hk⟩⟩
  · refine (with_at a cap l v w hl h2 h3 hs hv).mono ?_
    rintro e w' ⟨vo, rfl, ho, hb⟩
    exact ⟨vo, rfl, vs_own ho, ⟨hb.os, hb.tape, hb.output, hb.size, fun k hk _ => hb.block k hk⟩⟩
end Go.Proofs.YtkafaocbeankiaaGreatDoor
