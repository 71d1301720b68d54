import Derived.Test.YtkafaocbeankiaaGreatDoorM14
import Derived.Shelf.Strconv.Clone
import Derived.Test.YtkafaocbeankiaaGreatDoorProg
import Derived.Test.YtkafaocbeankiaaGreatDoorM04
import Derived.Test.YtkafaocbeankiaaGreatDoorM09
/-
  bounds of the document, walked.
-/
namespace Go.Proofs.YtkafaocbeankiaaGreatDoor
open Go.RowKit
set_option linter.unusedVariables false

theorem bndS_len (out : List V) (s : Sp) : (bndS out s).length ≤ out.length + 2 := by
  unfold bndS
  split
  · have := ins_len (qFrom s) out; omega
  · have h1 := ins_len (qFrom s) out; have h2 := ins_len (qTo s) (insV (qFrom s) out); omega
theorem bnd_len : ∀ (l : List Sp) (acc : List V), (l.foldl bndS acc).length ≤ acc.length + 2 * l.length
  | [], acc => by simp
  | s :: l, acc => by
    have h1 := bnd_len l (bndS acc s)
    have h2 := bndS_len acc s
    rw [List.foldl_cons, List.length_cons]
    omega
theorem bnd_small : ∀ (l : List Sp) (acc : List V), (∀ s ∈ l, smallS s) → (∀ t ∈ acc, t.pre.length ≤ 1048576) → ∀ t ∈ l.foldl bndS acc, t.pre.length ≤ 1048576
  | [], acc, _, h => h
  | s :: l, acc, hs, h => by
    rw [List.foldl_cons]
    refine bnd_small l (bndS acc s) (fun s' h' => hs s' (by simp [h'])) ?_
    have hm := hs s (by simp)
    intro t ht
    have hf : (qFrom s).pre.length ≤ 1048576 := by show s.f4.data.toList.length ≤ _; rw [Array.length_toList]; exact hm.1
    have hq : (qTo s).pre.length ≤ 1048576 := by show s.t4.data.toList.length ≤ _; rw [Array.length_toList]; exact hm.2.2.1
    unfold bndS at ht
    split at ht
    · rcases ins_mem _ _ _ ht with rfl | ht
      · exact hf
      · exact h t ht
    · rcases ins_mem _ _ _ ht with rfl | ht
      · exact hq
      · rcases ins_mem _ _ _ ht with rfl | ht
        · exact hf
        · exact h t ht

set_option maxRecDepth 100000 in
set_option maxHeartbeats 1600000 in
theorem bounds_at (a : Addr) (cap : Nat) (L : List Sp) (w : World) (hL : L.length ≤ 2097152) (hcap : L.length ≤ cap) (h : SpAt w a L) (hsz : ∀ s ∈ L, smallS s) :
    Calls Tryz.prog 27 #[.slice (some a) L.length cap] w fun e w' => ∃ vo, e = .returned vo ∧ VsS w' vo (bnd L) ∧ w.grownBy w' none := by
  have HA : Hid (SpAt w a L) := h
  have HS : Hid (∀ s ∈ L, smallS s) := hsz
  clear h hsz
  go_enter Tryz.func27, Tryz.ntmps27
  go_wp2
  go_loopw [3, 4] (fun vo vi wr => ∃ i : Nat, vi = .int .i64 i ∧ i ≤ L.length ∧ VsS wr vo (bnd (L.take i)) ∧ w.grownBy wr none) (fun _ vi _ => L.length - (intOf vi).toNat)
  case atStart => exact ⟨0, rfl, Nat.zero_le _, Or.inl ⟨rfl, by simp [bnd]⟩, gb_refl _ _⟩
  case round =>
    obtain ⟨i, rfl, hi, hvs, hg⟩ := hrel
    have HV : Hid (VsS wr u3 (bnd (L.take i))) := hvs
    have HG : Hid (w.grownBy wr none) := hg
    clear hvs hg
    by_cases hlt : i < L.length
    · obtain ⟨s, hs⟩ : ∃ s, L[i] = s := ⟨_, rfl⟩
      have HE : Hid (EltAt wr (a.add (i * 11)) s) := by show EltAt wr _ s; rw [← hs]; exact (HA.out i hlt).grow HG.out
      have hm : smallS s := by rw [← hs]; exact HS.out _ (List.getElem_mem hlt)
      have HN : Hid (bnd (L.take (i + 1)) = bndS (bnd (L.take i)) s) := by
        show _ = _
        unfold bnd
        rw [List.take_succ_eq_append_getElem hlt, List.foldl_append, hs]; rfl
      have hlen := bnd_len (L.take i) []
      have hsm := bnd_small (L.take i) [] (fun s hs => HS.out s (List.mem_of_mem_take hs)) (fun t ht => by simp at ht)
      have hln : (bnd (L.take i)).length ≤ 2 * i := by
        have : (L.take i).length = i := by rw [List.length_take]; omega
        unfold bnd; rw [this] at hlen; simpa using hlen
      have hf : (qFrom s).pre.length ≤ 1048576 := by show s.f4.data.toList.length ≤ _; rw [Array.length_toList]; exact hm.1
      have hq : (qTo s).pre.length ≤ 1048576 := by show s.t4.data.toList.length ≤ _; rw [Array.length_toList]; exact hm.2.2.1
      have PF : Hid (∀ w, Calls Tryz.prog 45 #[.agg #[.int .i64 s.f1, .int .i64 s.f2, .int .i64 s.f3, .string s.f4, .string s.f5]] w fun e w' => e = .returned (.agg #[.int .i64 s.f1, .int .i64 s.f2, .int .i64 s.f3, .string s.f4, .string ⟨#[]⟩]) ∧ w.grownBy w' none) := fun w => plain_any _ _ _ _ _ w
      have PT : Hid (∀ w, Calls Tryz.prog 45 #[.agg #[.int .i64 s.t1, .int .i64 s.t2, .int .i64 s.t3, .string s.t4, .string s.t5]] w fun e w' => e = .returned (.agg #[.int .i64 s.t1, .int .i64 s.t2, .int .i64 s.t3, .string s.t4, .string ⟨#[]⟩]) ∧ w.grownBy w' none) := fun w => plain_any _ _ _ _ _ w
      have WF : Hid (∀ sl w, VsS w sl (bnd (L.take i)) → Calls Tryz.prog 44 #[sl, .agg #[.int .i64 s.f1, .int .i64 s.f2, .int .i64 s.f3, .string s.f4, .string ⟨#[]⟩]] w fun e w' => ∃ vo, e = .returned vo ∧ VsS w' vo (insV (qFrom s) (bnd (L.take i))) ∧ w.grownBy w' none) := fun sl w h => by
        have := cWith sl (bnd (L.take i)) (qFrom s) w h (by omega) hsm hf
        simpa only [qFrom, Array.toArray_toList] using this
      have WT : Hid (∀ sl w, VsS w sl (insV (qFrom s) (bnd (L.take i))) → Calls Tryz.prog 44 #[sl, .agg #[.int .i64 s.t1, .int .i64 s.t2, .int .i64 s.t3, .string s.t4, .string ⟨#[]⟩]] w fun e w' => ∃ vo, e = .returned vo ∧ VsS w' vo (insV (qTo s) (insV (qFrom s) (bnd (L.take i)))) ∧ w.grownBy w' none) := fun sl w h => by
        have := cWith sl (insV (qFrom s) (bnd (L.take i))) (qTo s) w h (by have := ins_len (qFrom s) (bnd (L.take i)); omega) (fun t ht => by
          rcases ins_mem _ _ _ ht with rfl | ht
          · exact hf
          · exact hsm t ht) hq
        simpa only [qTo, Array.toArray_toList] using this
      clear hlen hsm hln hf hq hm hs
      obtain ⟨e0, e1, e2, e3, e4, e5, e6, e7, e8, e9, e10⟩ := HE.out
      go_wp2_with (first | (go_at_call 45; refine (PF.out _).mono ?_))
      rintro e w1 ⟨rfl, hg⟩
      replace HV : Hid (VsS w1 u3 (bnd (L.take i))) := HV.out.grow hg
      replace HG : Hid (w.grownBy w1 none) := gb_trans HG.out hg
      replace HE : Hid (EltAt w1 (a.add (i * 11)) s) := HE.out.grow hg
      clear hg e0 e1 e2 e3 e4 e5 e6 e7 e8 e9 e10
      go_wp2_with (first | (go_at_call 44; refine (WF.out _ _ HV.out).mono ?_))
      rintro e w2 ⟨v2, rfl, hv2, hg⟩
      have HV2 : Hid (VsS w2 v2 (insV (qFrom s) (bnd (L.take i)))) := hv2
      replace HG : Hid (w.grownBy w2 none) := gb_trans HG.out hg
      replace HE : Hid (EltAt w2 (a.add (i * 11)) s) := HE.out.grow hg
      clear hg hv2 HV
      obtain ⟨e0, e1, e2, e3, e4, e5, e6, e7, e8, e9, e10⟩ := HE.out
      obtain ⟨ob, hob⟩ : ∃ b, s.o = b := ⟨_, rfl⟩
      have HOB : Hid (s.o = ob) := hob
      rw [hob] at e10
      clear hob
      cases ob with
      | true =>
        have HW : Hid (VsS w2 v2 (bnd (L.take (i + 1)))) := by show VsS _ _ _; rw [HN.out, bndS, if_pos HOB.out]; exact HV2.out
        clear HN HV2 HOB
        go_wp2
        go_roundw
        case rel => exact ⟨i + 1, by go_num, by omega, HW.out, HG.out⟩
        case measure => simp [intOf]; omega
      | false =>
        go_wp2_with (first | (go_at_call 45; refine (PT.out _).mono ?_))
        rintro e w3 ⟨rfl, hg⟩
        replace HV2 : Hid (VsS w3 v2 (insV (qFrom s) (bnd (L.take i)))) := HV2.out.grow hg
        replace HG : Hid (w.grownBy w3 none) := gb_trans HG.out hg
        clear hg e0 e1 e2 e3 e4 e5 e6 e7 e8 e9 e10 HE
        go_wp2_with (first | (go_at_call 44; refine (WT.out _ _ HV2.out).mono ?_))
        rintro e w4 ⟨v4, rfl, hv4, hg⟩
        have HW : Hid (VsS w4 v4 (bnd (L.take (i + 1)))) := by show VsS _ _ _; rw [HN.out, bndS, if_neg (by rw [HOB.out]; decide)]; exact hv4
        replace HG : Hid (w.grownBy w4 none) := gb_trans HG.out hg
        clear hg hv4 HN HV2 HOB
        go_wp2
        go_roundw
        case rel => exact ⟨i + 1, by go_num, by omega, HW.out, HG.out⟩
        case measure => simp [intOf]; omega
    · have hil : i = L.length := by omega
      have HP : Hid (VsS wr u3 (bnd L)) := by have := HV.out; rw [hil, List.take_length] at this; exact this
      clear hil hi HV
      go_wp2
      exact bodyPost_ret (results_tmp (t := 2) rfl _ _ _) rfl ⟨u3, rfl, HP.out, HG.out⟩

set_option maxHeartbeats 400000 in
theorem bounds_nil (w : World) : Calls Tryz.prog 27 #[.slice none 0 0] w fun e w' => ∃ vo, e = .returned vo ∧ VsS w' vo (bnd []) ∧ w.grownBy w' none := by
  go_enter Tryz.func27, Tryz.ntmps27
  go_wp2
  go_loopw [3, 4] (fun vo vi wr => vi = .int .i64 0 ∧ vo = .slice none 0 0 ∧ w.grownBy wr none) (fun _ vi _ => 0)
  case atStart => exact ⟨rfl, rfl, gb_refl _ _⟩
  case round =>
    obtain ⟨rfl, rfl, hg⟩ := hrel
    have HG : Hid (w.grownBy wr none) := hg
    clear hg
    go_wp2
    exact bodyPost_ret (results_tmp (t := 2) rfl _ _ _) rfl ⟨_, rfl, Or.inl ⟨rfl, rfl⟩, HG.out⟩
end Go.Proofs.YtkafaocbeankiaaGreatDoor

namespace Go.Proofs
open Go.Shelf
def Tryz.lays316_ren : Go.Shelf.Ren := ⟨fun | 316 => 67 | n => n, fun | 22 => 163 | 23 => 134 | 27 => 71 | 28 => 75 | 31 => 37 | 37 => 54 | 40 => 171 | 41 => 87 | 43 => 70 | 46 => 106 | 47 => 105 | 51 => 132 | 52 => 131 | 53 => 114 | 54 => 115 | 55 => 157 | 59 => 107 | 60 => 108 | 63 => 160 | 64 => 166 | 67 => 41 | 68 => 86 | 69 => 96 | 70 => 53 | 71 => 55 | 72 => 56 | 73 => 57 | 74 => 58 | 75 => 59 | 76 => 60 | 77 => 61 | 80 => 62 | 81 => 177 | 83 => 52 | 84 => 97 | 104 => 88 | 105 => 158 | 106 => 159 | 111 => 63 | 112 => 51 | 114 => 136 | 115 => 148 | 116 => 149 | 117 => 150 | 118 => 151 | 119 => 167 | 122 => 147 | 123 => 152 | 124 => 153 | 127 => 85 | 131 => 129 | 137 => 168 | 138 => 169 | 139 => 170 | 146 => 164 | 151 => 165 | 164 => 98 | 165 => 99 | 166 => 100 | 171 => 113 | 172 => 116 | 173 => 117 | 174 => 118 | 182 => 124 | 183 => 125 | 211 => 137 | 212 => 138 | 213 => 139 | 218 => 142 | 219 => 143 | 220 => 144 | 222 => 81 | 228 => 154 | 229 => 155 | 232 => 161 | 233 => 162 | 238 => 172 | 239 => 173 | 240 => 174 | 241 => 175 | 242 => 176 | 243 => 178 | 244 => 179 | 245 => 180 | 246 => 181 | 247 => 182 | 248 => 183 | 249 => 184 | n => n, fun | 1 => 0 | 3 => 4 | 4 => 5 | 17 => 1 | 18 => 2 | 19 => 3 | n => n⟩
set_option maxRecDepth 100000 in
theorem Tryz.lays316 : Go.Proofs.LaysM.n316 Tryz.prog Tryz.lays316_ren := {
  mixed := by kernel_rfl
  f316 := Tryz.func67.trans (congrArg some (by kernel_rfl))
  t0 := Tryz.underlying0
  a0 := Tryz.isAgg0
  z0 := Tryz.sizeOf0
  v0 := Tryz.zeroValue0
  t3 := Tryz.underlying3
  a3 := Tryz.isAgg3
  z3 := Tryz.sizeOf3
  v3 := Tryz.zeroValue3
  t4 := Tryz.underlying4
  a4 := Tryz.isAgg4
  z4 := Tryz.sizeOf4
  v4 := Tryz.zeroValue4
  t9 := Tryz.underlying9
  a9 := Tryz.isAgg9
  z9 := Tryz.sizeOf9
  v9 := Tryz.zeroValue9
  t37 := Tryz.underlying54
  a37 := Tryz.isAgg54
  z37 := Tryz.sizeOf54
  v37 := Tryz.zeroValue54
  t127 := Tryz.underlying85
  a127 := Tryz.isAgg85
  z127 := Tryz.sizeOf85
  v127 := Tryz.zeroValue85
  t5 := Tryz.underlying5
  a5 := Tryz.isAgg5
  z5 := Tryz.sizeOf5
  v5 := Tryz.zeroValue5
  i0 := by kernel_rfl
  i3 := by kernel_rfl
  i4 := by kernel_rfl
  i5 := by kernel_rfl
  i9 := by kernel_rfl
  i37 := by kernel_rfl
  i127 := by kernel_rfl }
end Go.Proofs

/-
  strings.Clone, by its contract.
-/
namespace Go.Proofs.YtkafaocbeankiaaGreatDoor
open Go.RowKit Go.Shelf
set_option linter.unusedVariables false

theorem cloneL_any (s : ByteArray) (w : World) (hlim : s.size ≤ 281474976710656) :
    Calls Tryz.prog 67 #[.string s] w fun e w' => e = .returned (.string s) ∧ Below w.heap.size w w' := Any.stringslite_Clone Tryz.lays316 s w hlim
set_option maxHeartbeats 400000 in
theorem clone_any (s : ByteArray) (w : World) (hlim : s.size ≤ 281474976710656) :
    Calls Tryz.prog 54 #[.string s] w fun e w' => e = .returned (.string s) ∧ w.grownBy w' none := by
  have C : Hid (∀ w, Calls Tryz.prog 67 #[.string s] w fun e w' => e = .returned (.string s) ∧ Below w.heap.size w w') := fun w => cloneL_any s w hlim
  clear hlim
  go_enter Tryz.func54, Tryz.ntmps54
  go_wp2_with (first | (go_at_call 67; refine (C.out _).mono ?_; rintro e w1 ⟨rfl, hb⟩))
  go_ret
  exact ⟨rfl, ⟨hb.os, hb.tape, hb.output, hb.size, fun k hk _ => hb.block k hk⟩⟩

end Go.Proofs.YtkafaocbeankiaaGreatDoor

/-
  A version's block, written and read.
-/
namespace Go.Proofs.YtkafaocbeankiaaGreatDoor
open Go.RowKit
set_option linter.unusedVariables false

def VX (v : Nat) (y1 y2 y3 : Int) (x4 x5 : ByteArray) (w : World) : Prop := w.heap[v]? = some (.cells #[.int .i64 y1, .int .i64 y2, .int .i64 y3, .string x4, .string x5] 35 (0, 0))
theorem VX.cells {v : Nat} {y1 y2 y3 : Int} {x4 x5 : ByteArray} {w : World} (h : VX v y1 y2 y3 x4 x5 w) : w.cell? ⟨v, 0, none⟩ = some (.int .i64 y1) ∧ w.cell? ⟨v, 1, none⟩ = some (.int .i64 y2) ∧ w.cell? ⟨v, 2, none⟩ = some (.int .i64 y3) ∧ w.cell? ⟨v, 3, none⟩ = some (.string x4) ∧ w.cell? ⟨v, 4, none⟩ = some (.string x5) :=
  ⟨by rw [Lib.cell_of_heap h]; rfl, by rw [Lib.cell_of_heap h]; rfl, by rw [Lib.cell_of_heap h]; rfl, by rw [Lib.cell_of_heap h]; rfl, by rw [Lib.cell_of_heap h]; rfl⟩
theorem VX.f {v : Nat} {y1 y2 y3 : Int} {x4 x5 : ByteArray} {w : World} (h : VX v y1 y2 y3 x4 x5 w) (o : Nat) : w.frozen? ⟨v, o, none⟩ = false := Lib.frozen_of_heap h o
theorem VX.grow {b v : Nat} {y1 y2 y3 : Int} {x4 x5 : ByteArray} {w w' : World} (h : VX v y1 y2 y3 x4 x5 w) (hg : w.grownBy w' (some b)) (hn : v ≠ b) : VX v y1 y2 y3 x4 x5 w' := by
  unfold VX at h ⊢
  rw [hg.block v ((Array.getElem?_eq_some_iff.1 h).1) (by simpa using hn)]; exact h
theorem VX.set3 {v : Nat} {y1 y2 y3 : Int} {x4 x5 : ByteArray} {w : World} (h : VX v y1 y2 y3 x4 x5 w) (z : ByteArray) : VX v y1 y2 y3 z x5 (w.setCell ⟨v, 3, none⟩ (.string z)) := by
  unfold VX at h ⊢; simp [World.setCell, Array.getElem?_modify, h]
theorem VX.set4 {v : Nat} {y1 y2 y3 : Int} {x4 x5 : ByteArray} {w : World} (h : VX v y1 y2 y3 x4 x5 w) (z : ByteArray) : VX v y1 y2 y3 x4 z (w.setCell ⟨v, 4, none⟩ (.string z)) := by
  unfold VX at h ⊢; simp [World.setCell, Array.getElem?_modify, h]
theorem VX.other {v u : Nat} {y1 y2 y3 : Int} {x4 x5 : ByteArray} {w : World} (h : VX v y1 y2 y3 x4 x5 w) (hn : v ≠ u) (o : Nat) (x : Value) : VX v y1 y2 y3 x4 x5 (w.setCell ⟨u, o, none⟩ x) := by
  unfold VX at h ⊢; rw [← h]; exact heap_setCell_other w _ v x hn
/-- the result's block written -/
def put5 (w : World) (A : Nat) (y1 y2 y3 : Int) (x4 x5 : ByteArray) : World := ((((w.setCell ⟨A, 0, none⟩ (.int .i64 y1)).setCell ⟨A, 1, none⟩ (.int .i64 y2)).setCell ⟨A, 2, none⟩ (.int .i64 y3)).setCell ⟨A, 3, none⟩ (.string x4)).setCell ⟨A, 4, none⟩ (.string x5)
theorem put5_row {w : World} {A : Nat} {z1 z2 z3 : Int} {z4 z5 : ByteArray} (h : VX A z1 z2 z3 z4 z5 w) (y1 y2 y3 : Int) (x4 x5 : ByteArray) : VX A y1 y2 y3 x4 x5 (put5 w A y1 y2 y3 x4 x5) := by
  unfold VX at h ⊢; unfold put5; simp [World.setCell, Array.getElem?_modify, h]
theorem gb_new {b A : Nat} {w W : World} (h : w.grownBy W (some b)) (hA : w.heap.size ≤ A) (o : Nat) (x : Value) : w.grownBy (W.setCell ⟨A, o, none⟩ x) (some b) :=
  ⟨h.os, h.tape, h.output, by simpa [World.setCell] using h.size, fun k hk hn => by rw [← h.block k hk hn]; exact heap_setCell_other W _ k x (by simp; omega)⟩
theorem put5_gb {b A : Nat} {w W : World} (h : w.grownBy W (some b)) (hA : w.heap.size ≤ A) (y1 y2 y3 : Int) (x4 x5 : ByteArray) : w.grownBy (put5 W A y1 y2 y3 x4 x5) (some b) := gb_new (gb_new (gb_new (gb_new (gb_new h hA _ _) hA _ _) hA _ _) hA _ _) hA _ _
theorem res_row_tmp {P : Program} {fn : Func} {p u : Tmp} {ty : TypeId} (h : fn.results = #[.cell p ty, .tmp u]) (tmps : Array Value) (w : World) (g : Nat) (t : TypeId) (cs : Array Value) (fr : Nat × Nat) (d : TypeDesc)
    (hp : tmps.getD p undef = .pointer (some ⟨g, 0, none⟩)) (hg : w.heap[g]? = some (.cells cs t fr)) (hu : P.underlying ty = some d) (hd : (match d with | .struct _ | .array _ _ => true | _ => false) = true) (hi : (P.info? ty).map (·.size) = some cs.size) :
    (results fn tmps).run P w = .ok (.tuple #[.agg cs, tmps.getD u undef]) w := by
  rw [results_cell_tmp h, hp]
  simp [asAddr, run_loadVar_row w g t ty cs fr d hg hu hd hi, Result.andThen]

set_option linter.unusedVariables false

theorem res_row_tmp2 {P : Program} {fn : Func} {p u r : Tmp} {ty : TypeId} (h : fn.results = #[.cell p ty, .tmp u, .tmp r]) (tmps : Array Value) (w : World) (g : Nat) (t : TypeId) (cs : Array Value) (fr : Nat × Nat) (d : TypeDesc)
    (hp : tmps.getD p undef = .pointer (some ⟨g, 0, none⟩)) (hg : w.heap[g]? = some (.cells cs t fr)) (hu : P.underlying ty = some d) (hd : (match d with | .struct _ | .array _ _ => true | _ => false) = true) (hi : (P.info? ty).map (·.size) = some cs.size) :
    (results fn tmps).run P w = .ok (.tuple #[.agg cs, tmps.getD u undef, tmps.getD r undef]) w := by
  have hp' : tmps[p]?.getD undef = .pointer (some ⟨g, 0, none⟩) := by simpa using hp
  simp [results, h, Result.andThen, hp', asAddr, run_loadVar_row w g t ty cs fr d hg hu hd hi]

theorem gb_new0 {A : Nat} {w W : World} (h : w.grownBy W none) (hA : w.heap.size ≤ A) (o : Nat) (x : Value) : w.grownBy (W.setCell ⟨A, o, none⟩ x) none :=
  ⟨h.os, h.tape, h.output, by simpa [World.setCell] using h.size, fun k hk hn => by rw [← h.block k hk hn]; exact heap_setCell_other W _ k x (by simp; omega)⟩
theorem put5_gb0 {A : Nat} {w W : World} (h : w.grownBy W none) (hA : w.heap.size ≤ A) (y1 y2 y3 : Int) (x4 x5 : ByteArray) : w.grownBy (put5 W A y1 y2 y3 x4 x5) none := gb_new0 (gb_new0 (gb_new0 (gb_new0 (gb_new0 h hA _ _) hA _ _) hA _ _) hA _ _) hA _ _
end Go.Proofs.YtkafaocbeankiaaGreatDoor
