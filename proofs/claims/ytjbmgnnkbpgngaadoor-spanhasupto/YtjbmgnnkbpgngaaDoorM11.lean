import Derived.Test.YtjbmgnnkbpgngaaDoorM10
import Derived.Test.YtjbmgnnkbpgngaaDoorM06
import Derived.Test.YtjbmgnnkbpgngaaDoorM09
import Derived.Test.YtjbmgnnkbpgngaaDoorM05
import Derived.Deep.RegionHeld3
import Derived.Shelf.Strings.Prefix
import Derived.Test.YtjbmgnnkbpgngaaDoorProg
/-
  Lists of spans; the document's SoundSpans, walked.
-/
namespace Go.Proofs.YtjbmgnnkbpgngaaDoor
open Go.RowKit
set_option linter.unusedVariables false

/-- a span -/
structure Sp where
  f1 : Int
  f2 : Int
  f3 : Int
  f4 : ByteArray
  f5 : ByteArray
  t1 : Int
  t2 : Int
  t3 : Int
  t4 : ByteArray
  t5 : ByteArray
  o : Bool
/-- its cells -/
def spC (s : Sp) : List Value := [.int .i64 s.f1, .int .i64 s.f2, .int .i64 s.f3, .string s.f4, .string s.f5, .int .i64 s.t1, .int .i64 s.t2, .int .i64 s.t3, .string s.t4, .string s.t5, .bool s.o]
def vFrom (s : Sp) : Vv := ⟨s.f1, s.f2, s.f3, s.f4.data.toList, s.f5.data.toList⟩
def vTo (s : Sp) : Vv := ⟨s.t1, s.t2, s.t3, s.t4.data.toList, s.t5.data.toList⟩
def soundS (s : Sp) : Bool := soundV (vFrom s) && (s.o || soundV (vTo s))
def smallS (s : Sp) : Prop := s.f4.size ≤ 1048576 ∧ s.f5.size ≤ 1048576 ∧ s.t4.size ≤ 1048576 ∧ s.t5.size ≤ 1048576

/-- the span lies at p -/
def EltAt (w : World) (p : Addr) (s : Sp) : Prop := w.cell? p = some (.int .i64 s.f1) ∧ w.cell? ⟨p.block, p.off + 1, none⟩ = some (.int .i64 s.f2) ∧ w.cell? ⟨p.block, p.off + 2, none⟩ = some (.int .i64 s.f3) ∧ w.cell? ⟨p.block, p.off + 3, none⟩ = some (.string s.f4) ∧ w.cell? ⟨p.block, p.off + 4, none⟩ = some (.string s.f5) ∧ w.cell? ⟨p.block, p.off + 5, none⟩ = some (.int .i64 s.t1) ∧ w.cell? ⟨p.block, p.off + 6, none⟩ = some (.int .i64 s.t2) ∧ w.cell? ⟨p.block, p.off + 7, none⟩ = some (.int .i64 s.t3) ∧ w.cell? ⟨p.block, p.off + 8, none⟩ = some (.string s.t4) ∧ w.cell? ⟨p.block, p.off + 9, none⟩ = some (.string s.t5) ∧ w.cell? ⟨p.block, p.off + 10, none⟩ = some (.bool s.o)
theorem EltAt.grow {w w' : World} {p : Addr} {s : Sp} (h : EltAt w p s) (hg : w.grownBy w' none) : EltAt w' p s := by
  obtain ⟨h0, h1, h2, h3, h4, h5, h6, h7, h8, h9, h10⟩ := h
  exact ⟨hg.cell h0 (by simp), hg.cell h1 (by simp), hg.cell h2 (by simp), hg.cell h3 (by simp), hg.cell h4 (by simp), hg.cell h5 (by simp), hg.cell h6 (by simp), hg.cell h7 (by simp), hg.cell h8 (by simp), hg.cell h9 (by simp), hg.cell h10 (by simp)⟩
/-- the spans lie from address a on -/
def SpAt (w : World) (a : Addr) (L : List Sp) : Prop := ∀ i (hi : i < L.length), EltAt w (a.add (i * 11)) L[i]
theorem SpAt.grow {w w' : World} {a : Addr} {L : List Sp} (h : SpAt w a L) (hg : w.grownBy w' none) : SpAt w' a L := fun i hi => (h i hi).grow hg
theorem add_off (a : Addr) (n k : Nat) (hk : 0 < k) : a.add (n + k) = ⟨(a.add n).block, (a.add n).off + k, none⟩ := by
  unfold Addr.add
  rw [if_neg (by omega)]
  by_cases h : n = 0
  · rw [if_pos h, h]; simp
  · rw [if_neg h]; simp [Nat.add_assoc]
theorem elt_of_cells {w : World} {a : Addr} {n : Nat} {s : Sp} (h : ∀ k v, (spC s)[k]? = some v → w.cell? (a.add (n + k)) = some v) : EltAt w (a.add n) s :=
  ⟨by have := h 0 _ rfl; simpa using this, by have := h 1 _ rfl; rw [add_off a n 1 (by omega)] at this; exact this, by have := h 2 _ rfl; rw [add_off a n 2 (by omega)] at this; exact this, by have := h 3 _ rfl; rw [add_off a n 3 (by omega)] at this; exact this, by have := h 4 _ rfl; rw [add_off a n 4 (by omega)] at this; exact this, by have := h 5 _ rfl; rw [add_off a n 5 (by omega)] at this; exact this, by have := h 6 _ rfl; rw [add_off a n 6 (by omega)] at this; exact this, by have := h 7 _ rfl; rw [add_off a n 7 (by omega)] at this; exact this, by have := h 8 _ rfl; rw [add_off a n 8 (by omega)] at this; exact this, by have := h 9 _ rfl; rw [add_off a n 9 (by omega)] at this; exact this, by have := h 10 _ rfl; rw [add_off a n 10 (by omega)] at this; exact this⟩

set_option maxRecDepth 100000 in
set_option maxHeartbeats 1600000 in
theorem soundSpans_at (a : Addr) (cap : Nat) (L : List Sp) (w : World) (hL : L.length < 2 ^ 62) (hcap : L.length ≤ cap) (h : SpAt w a L) (hsz : ∀ s ∈ L, smallS s) :
    Calls Tryd.prog 5 #[.slice (some a) L.length cap] w fun e w' => e = .returned (.bool (L.all soundS)) ∧ w.grownBy w' none := by
  have HA : Hid (SpAt w a L) := h
  have HS : Hid (∀ s ∈ L, smallS s) := hsz
  clear h hsz
  obtain ⟨R, hR⟩ : ∃ R, L.all soundS = R := ⟨_, rfl⟩
  have HR : Hid (L.all soundS = R) := hR
  rw [hR]
  clear hR
  go_enter Tryd.func5, Tryd.ntmps5
  go_wp2
  go_loopw [3] (fun vi wr => ∃ i : Nat, vi = .int .i64 i ∧ i ≤ L.length ∧ (∀ j (hj : j < L.length), j < i → soundS L[j] = true) ∧ w.grownBy wr none) (fun vi _ => L.length - (intOf vi).toNat)
  case atStart => exact ⟨0, rfl, Nat.zero_le _, fun j hj h => absurd h (by omega), gb_refl _ _⟩
  case round =>
    obtain ⟨i, rfl, hi, hp, hg⟩ := hrel
    have HP : Hid (∀ j (hj : j < L.length), j < i → soundS L[j] = true) := hp
    have HG : Hid (w.grownBy wr none) := hg
    clear hp hg
    by_cases hlt : i < L.length
    · obtain ⟨s, hs⟩ : ∃ s, L[i] = s := ⟨_, rfl⟩
      have HE : Hid (EltAt wr (a.add (i * 11)) s) := by show EltAt wr _ s; rw [← hs]; exact (HA.out i hlt).grow HG.out
      have hm : smallS s := by rw [← hs]; exact HS.out _ (List.getElem_mem hlt)
      have HSS : Hid (L[i] = s) := hs
      have CF : Hid (∀ w, Calls Tryd.prog 16 #[.agg #[.int .i64 s.f1, .int .i64 s.f2, .int .i64 s.f3, .string s.f4, .string s.f5]] w fun e w' => e = .returned (.bool (soundV (vFrom s))) ∧ w.grownBy w' none) := fun w => sound_any s.f1 s.f2 s.f3 s.f4 s.f5 w hm.1 hm.2.1
      have CT : Hid (∀ w, Calls Tryd.prog 16 #[.agg #[.int .i64 s.t1, .int .i64 s.t2, .int .i64 s.t3, .string s.t4, .string s.t5]] w fun e w' => e = .returned (.bool (soundV (vTo s))) ∧ w.grownBy w' none) := fun w => sound_any s.t1 s.t2 s.t3 s.t4 s.t5 w hm.2.2.1 hm.2.2.2
      obtain ⟨x, hx⟩ : ∃ x, soundV (vFrom s) = x := ⟨_, rfl⟩
      obtain ⟨y, hy⟩ : ∃ y, soundV (vTo s) = y := ⟨_, rfl⟩
      rw [hx] at CF
      rw [hy] at CT
      have HXY : Hid (soundS s = (x && (s.o || y))) := by show soundS s = _; unfold soundS; rw [hx, hy]
      clear hx hy hm hs
      obtain ⟨e0, e1, e2, e3, e4, e5, e6, e7, e8, e9, e10⟩ := HE.out
      go_wp2_with (first | (go_at_call 16; refine (CF.out _).mono ?_))
      rintro e w1 ⟨rfl, hg⟩
      replace HE : Hid (EltAt w1 (a.add (i * 11)) s) := HE.out.grow hg
      replace HG : Hid (w.grownBy w1 none) := gb_trans HG.out hg
      clear hg e0 e1 e2 e3 e4 e5 e6 e7 e8 e9 e10
      obtain ⟨e0, e1, e2, e3, e4, e5, e6, e7, e8, e9, e10⟩ := HE.out
      go_wp2_with (first | (go_at_call 16; refine (CT.out _).mono ?_))
      rintro e w2 ⟨rfl, hg⟩
      replace HE : Hid (EltAt w2 (a.add (i * 11)) s) := HE.out.grow hg
      replace HG : Hid (w.grownBy w2 none) := gb_trans HG.out hg
      clear hg e0 e1 e2 e3 e4 e5 e6 e7 e8 e9 e10
      obtain ⟨e0, e1, e2, e3, e4, e5, e6, e7, e8, e9, e10⟩ := HE.out
      obtain ⟨ob, hob⟩ : ∃ b, s.o = b := ⟨_, rfl⟩
      rw [hob] at e10 HXY
      clear hob
      cases x with
      | false =>
        cases ob with
        | false =>
          cases y with
          | false =>
            have HT : Hid (soundS s = false) := HXY.out
            have HRF : Hid (R = false) := by
              show R = false
              rw [← HR.out, List.all_eq_false]
              exact ⟨L[i], List.getElem_mem hlt, by rw [HSS.out, HT.out]; decide⟩
            clear HXY
            go_wp2
            go_ret
            exact ⟨ret_bool HRF.out.symm, HG.out⟩
          | true =>
            have HT : Hid (soundS s = false) := HXY.out
            have HRF : Hid (R = false) := by
              show R = false
              rw [← HR.out, List.all_eq_false]
              exact ⟨L[i], List.getElem_mem hlt, by rw [HSS.out, HT.out]; decide⟩
            clear HXY
            go_wp2
            go_ret
            exact ⟨ret_bool HRF.out.symm, HG.out⟩
        | true =>
          cases y with
          | false =>
            have HT : Hid (soundS s = false) := HXY.out
            have HRF : Hid (R = false) := by
              show R = false
              rw [← HR.out, List.all_eq_false]
              exact ⟨L[i], List.getElem_mem hlt, by rw [HSS.out, HT.out]; decide⟩
            clear HXY
            go_wp2
            go_ret
            exact ⟨ret_bool HRF.out.symm, HG.out⟩
          | true =>
            have HT : Hid (soundS s = false) := HXY.out
            have HRF : Hid (R = false) := by
              show R = false
              rw [← HR.out, List.all_eq_false]
              exact ⟨L[i], List.getElem_mem hlt, by rw [HSS.out, HT.out]; decide⟩
            clear HXY
            go_wp2
            go_ret
            exact ⟨ret_bool HRF.out.symm, HG.out⟩
      | true =>
        cases ob with
        | false =>
          cases y with
          | false =>
            have HT : Hid (soundS s = false) := HXY.out
            have HRF : Hid (R = false) := by
              show R = false
              rw [← HR.out, List.all_eq_false]
              exact ⟨L[i], List.getElem_mem hlt, by rw [HSS.out, HT.out]; decide⟩
            clear HXY
            go_wp2
            go_ret
            exact ⟨ret_bool HRF.out.symm, HG.out⟩
          | true =>
            have HT : Hid (soundS s = true) := HXY.out
            clear HXY
            go_wp2
            go_roundw
            case rel =>
              refine ⟨i + 1, by go_num, by omega, fun j hj hji => ?_, HG.out⟩
              by_cases hji' : j < i
              · exact HP.out j hj hji'
              · have e : j = i := by omega
                subst e
                rw [HSS.out]; exact HT.out
            case measure => simp [intOf]; omega
        | true =>
          cases y with
          | false =>
            have HT : Hid (soundS s = true) := HXY.out
            clear HXY
            go_wp2
            go_roundw
            case rel =>
              refine ⟨i + 1, by go_num, by omega, fun j hj hji => ?_, HG.out⟩
              by_cases hji' : j < i
              · exact HP.out j hj hji'
              · have e : j = i := by omega
                subst e
                rw [HSS.out]; exact HT.out
            case measure => simp [intOf]; omega
          | true =>
            have HT : Hid (soundS s = true) := HXY.out
            clear HXY
            go_wp2
            go_roundw
            case rel =>
              refine ⟨i + 1, by go_num, by omega, fun j hj hji => ?_, HG.out⟩
              by_cases hji' : j < i
              · exact HP.out j hj hji'
              · have e : j = i := by omega
                subst e
                rw [HSS.out]; exact HT.out
            case measure => simp [intOf]; omega
    · have HRT : Hid (R = true) := by
        show R = true
        rw [← HR.out, List.all_eq_true]
        intro t ht
        obtain ⟨j, hj, rfl⟩ := List.getElem_of_mem ht
        exact HP.out j hj (by omega)
      clear hi
      go_wp2
      go_ret
      exact ⟨ret_bool HRT.out.symm, HG.out⟩

set_option maxHeartbeats 400000 in
theorem soundSpans_nil (w : World) : Calls Tryd.prog 5 #[.slice none 0 0] w fun e w' => e = .returned (.bool true) ∧ w.grownBy w' none := by
  go_enter Tryd.func5, Tryd.ntmps5
  go_wp2
  go_loopw [3] (fun vi wr => vi = .int .i64 0 ∧ w.grownBy wr none) (fun vi _ => 0)
  case atStart => exact ⟨rfl, gb_refl _ _⟩
  case round =>
    obtain ⟨rfl, hg⟩ := hrel
    have HG : Hid (w.grownBy wr none) := hg
    clear hg
    go_wp2
    go_ret
    exact ⟨rfl, HG.out⟩
end Go.Proofs.YtjbmgnnkbpgngaaDoor

/-
  The document's order of texts and numbers, walked.
-/
namespace Go.Proofs.YtjbmgnnkbpgngaaDoor
open Go.RowKit
set_option linter.unusedVariables false

theorem bareR_stop (l : List UInt8) (h : l.length ≤ 1 ∨ l[0]? ≠ some 48) : bareR l = l := by
  match l with
  | [] => rfl
  | [c] => rfl
  | c :: d :: r =>
    have : c ≠ 48 := by
      rcases h with h | h
      · simp at h
      · simpa using h
    unfold bareR; rw [if_neg this]
theorem bareR_step (l : List UInt8) (h1 : 1 < l.length) (h : l[0]? = some 48) : bareR l = bareR (l.drop 1) := by
  match l with
  | [] => simp at h1
  | [c] => simp at h1
  | c :: d :: r =>
    have : c = 48 := by simpa using h
    conv => lhs; unfold bareR
    rw [if_pos this]; rfl
theorem mk_data (x : ByteArray) : (⟨x.data.toList.toArray⟩ : ByteArray) = x := by cases x; simp

end Go.Proofs.YtjbmgnnkbpgngaaDoor

/-
  The document's order of versions, walked.
-/
namespace Go.Proofs.YtjbmgnnkbpgngaaDoor
open Go.RowKit
set_option linter.unusedVariables false

theorem numT_of {a : ByteArray} (e : Bool) (d : Bool) (he : a.toList.isEmpty = e) (hd : a.data.toList.all isD = d) : numT a.data.toList = (!e && d) := by
  unfold numT; rw [hd]; rw [Lib.toList_data] at he; rw [he]

end Go.Proofs.YtjbmgnnkbpgngaaDoor

/-
  The document's Compare, walked.
-/
namespace Go.Proofs.YtjbmgnnkbpgngaaDoor
open Go.RowKit
set_option linter.unusedVariables false

end Go.Proofs.YtjbmgnnkbpgngaaDoor

/-
  The document's Has and Holds, walked.
-/
namespace Go.Proofs.YtjbmgnnkbpgngaaDoor
open Go.RowKit
set_option linter.unusedVariables false

def cFrom (s : Sp) : V := ⟨s.f1, s.f2, s.f3, s.f4.data.toList⟩
def cTo (s : Sp) : V := ⟨s.t1, s.t2, s.t3, s.t4.data.toList⟩
def hasS (s : Sp) (v : V) : Bool := decide (verC (cFrom s) v ≤ 0) && (s.o || decide (verC v (cTo s) < 0))

/-- has one of them the version? -/
def holdsL (L : List Sp) (v : V) : Bool := L.any fun s => hasS s v

end Go.Proofs.YtjbmgnnkbpgngaaDoor

namespace Go.Proofs
open Go.Shelf
def Tryd.lays99_ren : Go.Shelf.Ren := ⟨fun | 99 => 88 | 206 => 91 | n => n, fun | 22 => 131 | 23 => 86 | 27 => 64 | 28 => 53 | 31 => 65 | 37 => 104 | 40 => 136 | 41 => 67 | 43 => 63 | 46 => 84 | 47 => 83 | 51 => 101 | 52 => 100 | 53 => 103 | 54 => 102 | 55 => 120 | 59 => 73 | 60 => 74 | 63 => 124 | 64 => 130 | 68 => 66 | 69 => 72 | 80 => 137 | 81 => 143 | 104 => 68 | 105 => 122 | 106 => 123 | 111 => 49 | 112 => 45 | 114 => 121 | 115 => 107 | 116 => 108 | 117 => 109 | 118 => 110 | 119 => 132 | 122 => 106 | 123 => 111 | 124 => 112 | 127 => 105 | 131 => 98 | 137 => 133 | 138 => 134 | 139 => 135 | 146 => 128 | 151 => 129 | 164 => 157 | 182 => 93 | 183 => 94 | 218 => 115 | 219 => 116 | 220 => 117 | 222 => 59 | 228 => 125 | 229 => 126 | 238 => 138 | 239 => 139 | 240 => 140 | 241 => 141 | 242 => 142 | 243 => 144 | 244 => 145 | 245 => 146 | 246 => 147 | 247 => 148 | 248 => 149 | 249 => 150 | n => n, fun | 1 => 0 | 3 => 1 | 4 => 2 | n => n⟩
set_option maxRecDepth 100000 in
theorem Tryd.lays99 : Go.Proofs.Lays.n99 Tryd.prog Tryd.lays99_ren := {
  mixed := by kernel_rfl
  f99 := Tryd.func88.trans (congrArg some (by kernel_rfl))
  f206 := Tryd.func91.trans (congrArg some (by kernel_rfl))
  t3 := Tryd.underlying3
  a3 := Tryd.isAgg3
  z3 := Tryd.sizeOf3
  v3 := Tryd.zeroValue3
  t4 := Tryd.underlying4
  a4 := Tryd.isAgg4
  z4 := Tryd.sizeOf4
  v4 := Tryd.zeroValue4
  t9 := Tryd.underlying9
  a9 := Tryd.isAgg9
  z9 := Tryd.sizeOf9
  v9 := Tryd.zeroValue9 }
end Go.Proofs
