import Derived.Test.YtkafaocbeankiaaGreatDoorM14
import Derived.Test.YtkafaocbeankiaaGreatDoorM10
import Derived.Deep.RegionHeld3
import Derived.Shelf.Strings.Prefix
import Derived.Test.YtkafaocbeankiaaGreatDoorProg
/-
  The document's Has and Holds, walked.
-/
namespace Go.Proofs.YtkafaocbeankiaaGreatDoor
open Go.RowKit
set_option linter.unusedVariables false

def cFrom (s : Sp) : V := ⟨s.f1, s.f2, s.f3, s.f4.data.toList⟩
def cTo (s : Sp) : V := ⟨s.t1, s.t2, s.t3, s.t4.data.toList⟩
def hasS (s : Sp) (v : V) : Bool := decide (verC (cFrom s) v ≤ 0) && (s.o || decide (verC v (cTo s) < 0))

set_option maxRecDepth 100000 in
set_option maxHeartbeats 1600000 in
theorem has_any (s : Sp) (v1 v2 v3 : Int) (v4 v5 : ByteArray) (w : World) (hs : smallS s) (hv : v4.size ≤ 1048576) :
    Calls Tryz.prog 46 #[.agg #[.int .i64 s.f1, .int .i64 s.f2, .int .i64 s.f3, .string s.f4, .string s.f5, .int .i64 s.t1, .int .i64 s.t2, .int .i64 s.t3, .string s.t4, .string s.t5, .bool s.o], .agg #[.int .i64 v1, .int .i64 v2, .int .i64 v3, .string v4, .string v5]] w fun e w' => e = .returned (.bool (hasS s ⟨v1, v2, v3, v4.data.toList⟩)) ∧ w.grownBy w' none := by
  obtain ⟨x, hx⟩ : ∃ x, verC (cFrom s) ⟨v1, v2, v3, v4.data.toList⟩ = x := ⟨_, rfl⟩
  obtain ⟨y, hy⟩ : ∃ y, verC ⟨v1, v2, v3, v4.data.toList⟩ (cTo s) = y := ⟨_, rfl⟩
  have CF : Hid (∀ w, Calls Tryz.prog 17 #[.agg #[.int .i64 s.f1, .int .i64 s.f2, .int .i64 s.f3, .string s.f4, .string s.f5], .agg #[.int .i64 v1, .int .i64 v2, .int .i64 v3, .string v4, .string v5]] w fun e w' => e = .returned (.int .i64 x) ∧ w.grownBy w' none) := fun w => by
    rw [← hx]
    refine (rcompare_any s.f1 s.f2 s.f3 v1 v2 v3 s.f4 s.f5 v4 v5 w hs.1 hv).mono ?_
    rintro e w' ⟨rfl, h⟩
    exact ⟨rfl, below_gb' h⟩
  have CT : Hid (∀ w, Calls Tryz.prog 17 #[.agg #[.int .i64 v1, .int .i64 v2, .int .i64 v3, .string v4, .string v5], .agg #[.int .i64 s.t1, .int .i64 s.t2, .int .i64 s.t3, .string s.t4, .string s.t5]] w fun e w' => e = .returned (.int .i64 y) ∧ w.grownBy w' none) := fun w => by
    rw [← hy]
    refine (rcompare_any v1 v2 v3 s.t1 s.t2 s.t3 v4 v5 s.t4 s.t5 w hv hs.2.2.1).mono ?_
    rintro e w' ⟨rfl, h⟩
    exact ⟨rfl, below_gb' h⟩
  have HR : Hid (hasS s ⟨v1, v2, v3, v4.data.toList⟩ = (decide (x ≤ 0) && (s.o || decide (y < 0)))) := by show hasS _ _ = _; unfold hasS; rw [hx, hy]
  obtain ⟨R, hR⟩ : ∃ R, hasS s ⟨v1, v2, v3, v4.data.toList⟩ = R := ⟨_, rfl⟩
  rw [hR] at HR
  rw [hR]
  clear hx hy hs hv hR
  go_enter Tryz.func46, Tryz.ntmps46
  go_wp2_with (first | (go_at_call 17; refine (CF.out _).mono ?_))
  rintro e w1 ⟨rfl, hg⟩
  obtain ⟨A, hA⟩ : ∃ A, w.heap.size = A := ⟨_, rfl⟩
  have HE : Hid (EltAt w1 ⟨A, 0, none⟩ s) := by
    refine EltAt.grow ?_ hg
    have hrow : ((w.alloc (.cells #[.int .i64 s.f1, .int .i64 s.f2, .int .i64 s.f3, .string s.f4, .string s.f5, .int .i64 s.t1, .int .i64 s.t2, .int .i64 s.t3, .string s.t4, .string s.t5, .bool s.o] 45)).alloc (.cells #[.int .i64 v1, .int .i64 v2, .int .i64 v3, .string v4, .string v5] 43)).heap[A]? = some (.cells #[.int .i64 s.f1, .int .i64 s.f2, .int .i64 s.f3, .string s.f4, .string s.f5, .int .i64 s.t1, .int .i64 s.t2, .int .i64 s.t3, .string s.t4, .string s.t5, .bool s.o] 45 (0, 0)) := by
      rw [← hA, Lib.alloc_old _ _ _ (by simp)]
      exact heap_alloc_new w _
    exact ⟨by rw [Lib.cell_of_heap hrow]; rfl, by rw [Lib.cell_of_heap hrow]; rfl, by rw [Lib.cell_of_heap hrow]; rfl, by rw [Lib.cell_of_heap hrow]; rfl, by rw [Lib.cell_of_heap hrow]; rfl, by rw [Lib.cell_of_heap hrow]; rfl, by rw [Lib.cell_of_heap hrow]; rfl, by rw [Lib.cell_of_heap hrow]; rfl, by rw [Lib.cell_of_heap hrow]; rfl, by rw [Lib.cell_of_heap hrow]; rfl, by rw [Lib.cell_of_heap hrow]; rfl⟩
  have STv : Hid (St (A + 1) v1 v2 v3 v4 v5 w1) := by
    refine St.grow ?_ hg
    refine st_row (t := 43) ?_
    have := heap_alloc_new (w.alloc (.cells #[.int .i64 s.f1, .int .i64 s.f2, .int .i64 s.f3, .string s.f4, .string s.f5, .int .i64 s.t1, .int .i64 s.t2, .int .i64 s.t3, .string s.t4, .string s.t5, .bool s.o] 45)) (.cells #[.int .i64 v1, .int .i64 v2, .int .i64 v3, .string v4, .string v5] 43)
    rw [← hA]
    simpa using this
  have HG : Hid (w.grownBy w1 none) := gb_trans (gb_alloc (gb_alloc (gb_refl w none) _) _) hg
  rw [hA]
  clear hA hg
  obtain ⟨e0, e1, e2, e3, e4, e5, e6, e7, e8, e9, e10⟩ := HE.out
  simp only [Nat.zero_add] at e1 e2 e3 e4 e5 e6 e7 e8 e9 e10
  obtain ⟨s1, s2, s3, s4, s5⟩ := STv.out
  by_cases hx : x ≤ 0
  · cases ho : s.o with
    | true =>
      rw [ho] at e10
      have HV : Hid (R = true) := by show R = true; rw [HR.out, decide_eq_true hx, ho]; rfl
      clear HR
      go_wp2
      go_ret
      exact ⟨ret_bool HV.out.symm, HG.out⟩
    | false =>
      rw [ho] at e10
      have HV : Hid (R = decide (y < 0)) := by show R = _; rw [HR.out, decide_eq_true hx, ho, Bool.true_and, Bool.false_or]
      clear HR
      go_wp2_with (first | (go_at_call 17; refine (CT.out _).mono ?_))
      rintro e w2 ⟨rfl, hg⟩
      have HG2 : Hid (w.grownBy w2 none) := gb_trans HG.out hg
      clear hg
      go_wp2
      go_ret
      exact ⟨ret_bool HV.out.symm, HG2.out⟩
  · have HV : Hid (R = false) := by show R = false; rw [HR.out, decide_eq_false hx]; rfl
    clear HR
    go_wp2
    go_ret
    exact ⟨ret_bool HV.out.symm, HG.out⟩

/-- has one of them the version? -/
def holdsL (L : List Sp) (v : V) : Bool := L.any fun s => hasS s v

set_option maxRecDepth 100000 in
set_option maxHeartbeats 1600000 in
theorem rholds_at (a : Addr) (cap : Nat) (L : List Sp) (v1 v2 v3 : Int) (v4 v5 : ByteArray) (w : World) (hL : L.length < 2 ^ 62) (hcap : L.length ≤ cap) (h : SpAt w a L) (hsz : ∀ s ∈ L, smallS s) (hv : v4.size ≤ 1048576) :
    Calls Tryz.prog 28 #[.slice (some a) L.length cap, .agg #[.int .i64 v1, .int .i64 v2, .int .i64 v3, .string v4, .string v5]] w fun e w' => e = .returned (.bool (holdsL L ⟨v1, v2, v3, v4.data.toList⟩)) ∧ w.grownBy w' none := by
  have HA : Hid (SpAt w a L) := h
  have HS : Hid (∀ s ∈ L, smallS s) := hsz
  have HV4 : Hid (v4.size ≤ 1048576) := hv
  clear h hsz hv
  obtain ⟨v, hv⟩ : ∃ v : V, v = ⟨v1, v2, v3, v4.data.toList⟩ := ⟨_, rfl⟩
  have HV : Hid (v = ⟨v1, v2, v3, v4.data.toList⟩) := hv
  rw [← hv]
  obtain ⟨R, hR⟩ : ∃ R, holdsL L v = R := ⟨_, rfl⟩
  have HR : Hid (holdsL L v = R) := hR
  rw [hR]
  clear hR hv
  go_enter Tryz.func28, Tryz.ntmps28
  go_wp2
  obtain ⟨A, hA⟩ : ∃ A, w.heap.size = A := ⟨_, rfl⟩
  obtain ⟨W, hW⟩ : ∃ W, w.alloc (.cells #[.int .i64 v1, .int .i64 v2, .int .i64 v3, .string v4, .string v5] 43) = W := ⟨_, rfl⟩
  have HG0 : Hid (w.grownBy W none) := by show w.grownBy W none; rw [← hW]; exact gb_alloc (gb_refl w none) _
  have STv : Hid (St A v1 v2 v3 v4 v5 W) := by show St _ _ _ _ _ _ W; rw [← hW, ← hA]; exact st_row (t := 43) (heap_alloc_new w _)
  try rw [hW]
  try rw [hA]
  clear hW hA
  go_loopw [5] (fun vi wr => ∃ i : Nat, vi = .int .i64 i ∧ i ≤ L.length ∧ (∀ j (hj : j < L.length), j < i → hasS L[j] v = false) ∧ W.grownBy wr none) (fun vi _ => L.length - (intOf vi).toNat)
  case atStart => exact ⟨0, rfl, Nat.zero_le _, fun j hj h => absurd h (by omega), gb_refl _ _⟩
  case round =>
    obtain ⟨i, rfl, hi, hp, hg⟩ := hrel
    have HP : Hid (∀ j (hj : j < L.length), j < i → hasS L[j] v = false) := hp
    have HG : Hid (W.grownBy wr none) := hg
    have STr : Hid (St A v1 v2 v3 v4 v5 wr) := STv.out.grow hg
    clear hp hg
    by_cases hlt : i < L.length
    · obtain ⟨s, hs⟩ : ∃ s, L[i] = s := ⟨_, rfl⟩
      have HE : Hid (EltAt wr (a.add (i * 11)) s) := by show EltAt wr _ s; rw [← hs]; exact ((HA.out i hlt).grow HG0.out).grow HG.out
      have hm : smallS s := by rw [← hs]; exact HS.out _ (List.getElem_mem hlt)
      have HSS : Hid (L[i] = s) := hs
      obtain ⟨b, hb⟩ : ∃ b, hasS s v = b := ⟨_, rfl⟩
      have CH : Hid (∀ w, Calls Tryz.prog 46 #[.agg #[.int .i64 s.f1, .int .i64 s.f2, .int .i64 s.f3, .string s.f4, .string s.f5, .int .i64 s.t1, .int .i64 s.t2, .int .i64 s.t3, .string s.t4, .string s.t5, .bool s.o], .agg #[.int .i64 v1, .int .i64 v2, .int .i64 v3, .string v4, .string v5]] w fun e w' => e = .returned (.bool b) ∧ w.grownBy w' none) := fun w => by
        rw [← hb, HV.out]; exact has_any s v1 v2 v3 v4 v5 w hm HV4.out
      have HB : Hid (hasS s v = b) := hb
      clear hm hs hb
      obtain ⟨e0, e1, e2, e3, e4, e5, e6, e7, e8, e9, e10⟩ := HE.out
      obtain ⟨s1, s2, s3, s4, s5⟩ := STr.out
      go_wp2
      go_region_held3 (fun w' => w'.cell? (a.add (i * 11)) = some (.int .i64 s.f1) ∧ w'.cell? ⟨(a.add (i * 11)).block, (a.add (i * 11)).off + 1, none⟩ = some (.int .i64 s.f2) ∧ w'.cell? ⟨(a.add (i * 11)).block, (a.add (i * 11)).off + 2, none⟩ = some (.int .i64 s.f3) ∧ w'.cell? ⟨(a.add (i * 11)).block, (a.add (i * 11)).off + 3, none⟩ = some (.string s.f4) ∧ w'.cell? ⟨(a.add (i * 11)).block, (a.add (i * 11)).off + 4, none⟩ = some (.string s.f5) ∧ w'.cell? ⟨(a.add (i * 11)).block, (a.add (i * 11)).off + 5, none⟩ = some (.int .i64 s.t1) ∧ w'.cell? ⟨(a.add (i * 11)).block, (a.add (i * 11)).off + 6, none⟩ = some (.int .i64 s.t2) ∧ w'.cell? ⟨(a.add (i * 11)).block, (a.add (i * 11)).off + 7, none⟩ = some (.int .i64 s.t3) ∧ w'.cell? ⟨(a.add (i * 11)).block, (a.add (i * 11)).off + 8, none⟩ = some (.string s.t4) ∧ w'.cell? ⟨(a.add (i * 11)).block, (a.add (i * 11)).off + 9, none⟩ = some (.string s.t5) ∧ w'.cell? ⟨(a.add (i * 11)).block, (a.add (i * 11)).off + 10, none⟩ = some (.bool s.o) ∧ w'.cell? ⟨A, 0, none⟩ = some (.int .i64 v1) ∧ w'.cell? ⟨A, 1, none⟩ = some (.int .i64 v2) ∧ w'.cell? ⟨A, 2, none⟩ = some (.int .i64 v3) ∧ w'.cell? ⟨A, 3, none⟩ = some (.string v4) ∧ w'.cell? ⟨A, 4, none⟩ = some (.string v5)) ((first | go_keep | (refine ⟨?_, ?_, ?_, ?_, ?_, ?_, ?_, ?_, ?_, ?_, ?_, ?_, ?_, ?_, ?_, ?_⟩ <;> (refine World.grownBy.cell (by assumption) ?_ (by simp); assumption)))) (first | (go_at_call 46; refine (CH.out _).mono ?_; rintro e w1 ⟨rfl, hg⟩))
      replace HG : Hid (W.grownBy w1 none) := gb_trans HG.out (gb_undrew hg)
      clear hg e0 e1 e2 e3 e4 e5 e6 e7 e8 e9 e10 s1 s2 s3 s4 s5
      cases b with
      | true =>
        have HRT : Hid (R = true) := by
          show R = true
          rw [← HR.out]; unfold holdsL
          rw [List.any_eq_true]
          exact ⟨L[i], List.getElem_mem hlt, by rw [HSS.out]; exact HB.out⟩
        go_wp2
        go_ret
        exact ⟨ret_bool HRT.out.symm, gb_trans HG0.out HG.out⟩
      | false =>
        go_wp2
        go_roundw
        case rel =>
          refine ⟨i + 1, by go_num, by omega, fun j hj hji => ?_, HG.out⟩
          by_cases hji' : j < i
          · exact HP.out j hj hji'
          · have e : j = i := by omega
            subst e
            rw [HSS.out]; exact HB.out
        case measure => simp [intOf]; omega
    · have HRF : Hid (R = false) := by
        show R = false
        rw [← HR.out]; unfold holdsL
        rw [List.any_eq_false]
        intro t ht
        obtain ⟨j, hj, rfl⟩ := List.getElem_of_mem ht
        rw [HP.out j hj (by omega)]; decide
      clear hi
      go_wp2
      go_ret
      exact ⟨ret_bool HRF.out.symm, gb_trans HG0.out HG.out⟩

set_option maxHeartbeats 400000 in
theorem rholds_nil (v1 v2 v3 : Int) (v4 v5 : ByteArray) (w : World) : Calls Tryz.prog 28 #[.slice none 0 0, .agg #[.int .i64 v1, .int .i64 v2, .int .i64 v3, .string v4, .string v5]] w fun e w' => e = .returned (.bool false) ∧ w.grownBy w' none := by
  go_enter Tryz.func28, Tryz.ntmps28
  go_wp2
  go_loopw [5] (fun vi wr => vi = .int .i64 0 ∧ w.grownBy wr none) (fun vi _ => 0)
  case atStart => exact ⟨rfl, gb_alloc (gb_refl _ _) _⟩
  case round =>
    obtain ⟨rfl, hg⟩ := hrel
    have HG : Hid (w.grownBy wr none) := hg
    clear hg
    go_wp2
    go_ret
    exact ⟨rfl, HG.out⟩
end Go.Proofs.YtkafaocbeankiaaGreatDoor

namespace Go.Proofs
open Go.Shelf
def Tryz.lays99_ren : Go.Shelf.Ren := ⟨fun | 99 => 117 | 206 => 122 | n => n, fun | 22 => 163 | 23 => 134 | 27 => 71 | 28 => 75 | 31 => 37 | 37 => 54 | 40 => 171 | 41 => 87 | 43 => 70 | 46 => 106 | 47 => 105 | 51 => 132 | 52 => 131 | 53 => 114 | 54 => 115 | 55 => 157 | 59 => 107 | 60 => 108 | 63 => 160 | 64 => 166 | 67 => 41 | 68 => 86 | 69 => 96 | 70 => 53 | 71 => 55 | 72 => 56 | 73 => 57 | 74 => 58 | 75 => 59 | 76 => 60 | 77 => 61 | 80 => 62 | 81 => 177 | 83 => 52 | 84 => 97 | 104 => 88 | 105 => 158 | 106 => 159 | 111 => 63 | 112 => 51 | 114 => 136 | 115 => 148 | 116 => 149 | 117 => 150 | 118 => 151 | 119 => 167 | 122 => 147 | 123 => 152 | 124 => 153 | 127 => 85 | 131 => 129 | 137 => 168 | 138 => 169 | 139 => 170 | 146 => 164 | 151 => 165 | 164 => 98 | 165 => 99 | 166 => 100 | 171 => 113 | 172 => 116 | 173 => 117 | 174 => 118 | 182 => 124 | 183 => 125 | 211 => 137 | 212 => 138 | 213 => 139 | 218 => 142 | 219 => 143 | 220 => 144 | 222 => 81 | 228 => 154 | 229 => 155 | 232 => 161 | 233 => 162 | 238 => 172 | 239 => 173 | 240 => 174 | 241 => 175 | 242 => 176 | 243 => 178 | 244 => 179 | 245 => 180 | 246 => 181 | 247 => 182 | 248 => 183 | 249 => 184 | n => n, fun | 1 => 0 | 3 => 4 | 4 => 5 | 17 => 1 | 18 => 2 | 19 => 3 | n => n⟩
set_option maxRecDepth 100000 in
theorem Tryz.lays99 : Go.Proofs.Lays.n99 Tryz.prog Tryz.lays99_ren := {
  mixed := by kernel_rfl
  f99 := Tryz.func117.trans (congrArg some (by kernel_rfl))
  f206 := Tryz.func122.trans (congrArg some (by kernel_rfl))
  t3 := Tryz.underlying3
  a3 := Tryz.isAgg3
  z3 := Tryz.sizeOf3
  v3 := Tryz.zeroValue3
  t4 := Tryz.underlying4
  a4 := Tryz.isAgg4
  z4 := Tryz.sizeOf4
  v4 := Tryz.zeroValue4
  t9 := Tryz.underlying9
  a9 := Tryz.isAgg9
  z9 := Tryz.sizeOf9
  v9 := Tryz.zeroValue9 }
end Go.Proofs
