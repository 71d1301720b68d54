import Derived.Test.YtkafaocbeankiaaGreatDoorM34
import Derived.Test.YtkafaocbeankiaaGreatDoorM28
import Derived.Test.YtkafaocbeankiaaGreatDoorM32
/-
  Text of the program, walked.
-/
namespace Go.Proofs.YtkafaocbeankiaaGreatDoor
open Go.RowKit
set_option linter.unusedVariables false

/-- what Normal answers, the list named, its spans sound -/
def YPost (σ : Bool) (N : List Sp) (w : World) (e : Ending) (w' : World) : Prop := w.grownBy w' none ∧ ((σ = false ∧ e = .returned (.tuple #[.slice none 0 0, .int .i64 2])) ∨ (σ = true ∧ ∃ o n c, e = .returned (.tuple #[.slice o n c, .int .i64 0]) ∧ SpS w' (.slice o n c) N ∧ ∀ s ∈ N, NSp s))
theorem yNormal (sl : Value) (L : List Sp) (w : World) (h : SpS w sl L) (hL : L.length ≤ 1048576) (hsz : ∀ s ∈ L, smallS s) : Calls Tryz.prog 9 #[sl] w (YPost (L.all soundS) (outs (tog (holdsL L) false (bnd L))) w) := by
  refine (normal_any sl L w h hL hsz).mono ?_
  intro e w' hp
  refine ⟨hp.1, ?_⟩
  rcases hp.2 with ⟨h1, h2⟩ | ⟨h1, E, vs, h2, h3, h4, h5, h6⟩
  · refine Or.inl ⟨?_, h2⟩
    simpa using h1
  · obtain ⟨o, n, c, rfl⟩ := sps_slice h5
    have hnt := sweep_nt (fun x => decide (0 < x)) [L] (by intro l hl; simp at hl; subst hl; exact ⟨hL, hsz⟩) h1 E h2 h3
    have he := sweep_bnd (fun x => decide (0 < x)) (by decide) [L] h1 E h2 h3
    have hff : (fun x => (fun x => decide (0 < x)) (haveN ([L].map (·.map toSg)) x)) = holdsL L := funext fun x => have_one L x
    have hfl : [L].flatten = L := by simp
    rw [hff, hfl] at he
    rw [he] at h5 hnt
    exact Or.inr ⟨by simpa using h1, o, n, c, h4, h5, nsp_outs hnt⟩
theorem made_str (n : Nat) : madeCells #[Value.string ⟨#[]⟩] n = ((List.range n).map fun _ => Value.string ⟨#[]⟩).toArray := by
  apply Array.ext'
  simp [madeCells]
  intro a ha
  rw [Nat.mod_one]; rfl
/-- the texts so far, the rest empty -/
def TxAt (w : World) (B : Nat) (N : List Sp) (i : Nat) : Prop := w.heap[B]? = some (.cells (((N.take i).map fun s => Value.string ⟨(tOf s).toArray⟩) ++ List.replicate (N.length - i) (Value.string ⟨#[]⟩)).toArray 9 (0, 0))

theorem TxAt.cell {w : World} {B : Nat} {N : List Sp} {i : Nat} (h : TxAt w B N i) (hi : i < N.length) : w.cell? ⟨B, i, none⟩ = some (.string ⟨#[]⟩) := by
  rw [Lib.cell_of_heap h]
  have h1 : ((N.take i).map fun s => Value.string ⟨(tOf s).toArray⟩).length = i := by rw [List.length_map, List.length_take]; omega
  simp only [List.getElem?_toArray]
  rw [List.getElem?_append_right (by omega), h1, Nat.sub_self, List.getElem?_replicate, if_pos (by omega)]
theorem TxAt.f {w : World} {B : Nat} {N : List Sp} {i : Nat} (h : TxAt w B N i) (j : Nat) : w.frozen? ⟨B, j, none⟩ = false := Lib.frozen_of_heap h j
theorem TxAt.grow {w w' : World} {B : Nat} {N : List Sp} {i : Nat} (h : TxAt w B N i) (hg : w.grownBy w' none) : TxAt w' B N i := by
  unfold TxAt at h ⊢
  rw [hg.block B ((Array.getElem?_eq_some_iff.1 h).1) (by simp)]; exact h
theorem TxAt.set {w : World} {B : Nat} {N : List Sp} {i : Nat} (h : TxAt w B N i) (hi : i < N.length) {s : Sp} (hs : N[i] = s) : TxAt (w.setCell ⟨B, i, none⟩ (.string ⟨(tOf s).toArray⟩)) B N (i + 1) := by
  unfold TxAt at h ⊢
  simp only [World.setCell, Array.getElem?_modify, h, if_true, Option.map_some]
  congr 2
  apply Array.ext'
  simp only [Option.isSome_none, Bool.false_eq_true, if_false]
  rw [Array.toList_setIfInBounds]
  have h1 : ((N.take i).map fun s => Value.string ⟨(tOf s).toArray⟩).length = i := by rw [List.length_map, List.length_take]; omega
  have h2 : N.length - i = (N.length - (i + 1)) + 1 := by omega
  simp only []
  rw [List.set_append_right _ _ (by omega), h1, Nat.sub_self, h2, List.replicate_succ, List.set_cons_zero, List.take_succ_eq_append_getElem hi, List.map_append, List.append_assoc, hs]
  rfl
theorem join_tx (w : World) (B : Nat) (N : List Sp) (h : TxAt w B N N.length) (hN : N ≠ []) (hns : ∀ s ∈ N, NSp s) (hl : N.length ≤ 1048576) :
    Calls Tryz.prog 13 #[.slice (some ⟨B, 0, none⟩) N.length N.length, .string ⟨#[32, 124, 124, 32]⟩] w fun e w' => e = .returned (.string ⟨(Lib.join (N.map tOf) sepT).toArray⟩) ∧ w.grownBy w' none := by
  have e1 : ((N.map fun s => (⟨(tOf s).toArray⟩ : ByteArray)).map (·.data.toList)) = N.map tOf := by rw [List.map_map]; rfl
  have e2 : (⟨#[32, 124, 124, 32]⟩ : ByteArray).data.toList = sepT := rfl
  have e3 : (N.map fun s => (⟨(tOf s).toArray⟩ : ByteArray)).length = N.length := by rw [List.length_map]
  have hr := rt_len N hns N.length
  rw [List.take_length] at hr
  have hb : B < w.heap.size := (Array.getElem?_eq_some_iff.1 h).1
  have key := Any.strings_Join Tryz.lays156 Tryz.Builder_Extra_156 B 0 N.length (N.map fun s => (⟨(tOf s).toArray⟩ : ByteArray)) ⟨#[32, 124, 124, 32]⟩ w (fun j x hj => by
    rw [Nat.zero_add, Lib.cell_of_heap h]
    simp only [List.getElem?_toArray, List.take_length, Nat.sub_self, List.replicate_zero, List.append_nil]
    rw [List.getElem?_map] at hj ⊢
    cases hq : N[j]? with
    | none => rw [hq] at hj; cases hj
    | some s =>
      rw [hq] at hj
      simp only [Option.map_some, Option.some.injEq] at hj ⊢
      rw [hj]) hb (by rw [e3]; omega) (by rw [e3]; exact Nat.le_refl _) (by rw [e1, e2]; omega)
  rw [e1, e2, e3] at key
  refine key.mono ?_
  rintro e w' ⟨rfl, hB⟩
  exact ⟨rfl, below_gb' hB⟩
/-- what Text answers -/
def PPost (σ : Bool) (N : List Sp) (w : World) (e : Ending) (w' : World) : Prop := w.grownBy w' none ∧ ((σ = false ∧ e = .returned (.tuple #[.string ⟨#[]⟩, .int .i64 2])) ∨ (σ = true ∧ e = .returned (.tuple #[.string ⟨(rText N).toArray⟩, .int .i64 0]) ∧ ∀ s ∈ N, NSp s))

set_option maxRecDepth 100000 in
set_option maxHeartbeats 1600000 in
theorem textP_any (sl : Value) (L : List Sp) (N : List Sp) (w : World) (h : SpS w sl L) (ht : Tab w) (hN : outs (tog (holdsL L) false (bnd L)) = N) (hL : L.length ≤ 1048576) (hNl : N.length ≤ 1048576) (hsz : ∀ s ∈ L, smallS s) :
    Calls Tryz.prog 4 #[sl] w (PPost (L.all soundS) N w) := by
  have HA : Hid (SpS w sl L) := h
  have HTB : Hid (Tab w) := ht
  have HNL : Hid (N.length ≤ 1048576) := hNl
  have CN : Hid (∀ w a, SpS w a L → Calls Tryz.prog 9 #[a] w (YPost (L.all soundS) N w)) := fun w a h => by rw [← hN]; exact yNormal a L w h hL hsz
  have CL : Hid (∀ w, Calls Tryz.prog 11 #[] w fun e w' => e = .returned (.agg #[.int .i64 0, .int .i64 0, .int .i64 0, .string ⟨#[48]⟩, .string ⟨#[]⟩]) ∧ w.grownBy w' none) := lowest_any
  have CV : Hid (∀ w, Tab w → Calls Tryz.prog 10 #[.agg #[.int .i64 0, .int .i64 0, .int .i64 0, .string ⟨#[48]⟩, .string ⟨#[]⟩]] w fun e w' => e = .returned (.string ⟨#[48, 46, 48, 46, 48, 45, 48]⟩) ∧ w.grownBy w' none) := fun w h => by
    have := vtext_any 0 0 0 ⟨#[48]⟩ ⟨#[]⟩ w h (by decide) (by decide) (by decide) (by decide) (by decide)
    have e : textV ⟨0, 0, 0, (⟨#[48]⟩ : ByteArray).data.toList, (⟨#[]⟩ : ByteArray).data.toList⟩ = [48, 46, 48, 46, 48, 45, 48] := text_zero
    rw [e] at this; exact this
  have aZ : ∀ wx, (Op.stringOp .add ⟨#[60]⟩ ⟨#[48, 46, 48, 46, 48, 45, 48]⟩).run Tryz.prog wx = .ok (.string ⟨#[60, 48, 46, 48, 46, 48, 45, 48]⟩) wx := fun wx => add_lists [60] [48, 46, 48, 46, 48, 45, 48] wx (by decide)
  have CX : Hid (∀ (s : Sp) w, NSp s → Tab w → Calls Tryz.prog 12 #[.agg #[.int .i64 s.f1, .int .i64 s.f2, .int .i64 s.f3, .string s.f4, .string s.f5, .int .i64 s.t1, .int .i64 s.t2, .int .i64 s.t3, .string s.t4, .string s.t5, .bool s.o]] w fun e w' => e = .returned (.string ⟨(tOf s).toArray⟩) ∧ w.grownBy w' none) := fun s w h1 h2 => textOf_any s w h1 h2
  obtain ⟨σ, hσ⟩ : ∃ σ, L.all soundS = σ := ⟨_, rfl⟩
  rw [hσ] at CN ⊢
  obtain ⟨o0, n0, c0, rfl⟩ := sps_slice h
  clear h ht hN hL hNl hsz hσ
  go_enter Tryz.func4, Tryz.ntmps4
  go_wp2_with (first | (go_at_call 9; refine (CN.out _ _ HA.out).mono ?_))
  rintro e w1 ⟨hg, hn⟩
  have HG1 : Hid (w.grownBy w1 none) := hg
  have HT1 : Hid (Tab w1) := tab_grow HTB.out hg
  clear hg HA HTB
  rcases hn with ⟨rfl, rfl⟩ | ⟨rfl, o1, n1, c1, rfl, hs1, hns⟩
  · go_wp2
    exact bodyPost_ret (results_tmp2 (t := 2) (u := 3) rfl _ _ _) rfl ⟨HG1.out, Or.inl ⟨rfl, rfl⟩⟩
  have HNS : Hid (∀ s ∈ N, NSp s) := hns
  clear hns
  by_cases hz : N = []
  · have HR : Hid (rText N = noneT) := by show _ = _; rw [hz]; rfl
    have hn0 : n1 = 0 := by
      rcases hs1 with ⟨h, _⟩ | ⟨a, cap, h, _⟩
      · cases h; rfl
      · cases h; rw [hz]; rfl
    subst hn0
    clear hs1
    go_wp2_with (first | (go_at_call 11; refine (CL.out _).mono ?_; rintro e w2 ⟨rfl, hg2⟩) | (go_at_call 10; refine (CV.out _ (tab_grow HT1.out hg2)).mono ?_; rintro e w3 ⟨rfl, hg3⟩))
    refine bodyPost_ret (results_tmp2 (t := 2) (u := 3) rfl _ _ _) rfl ⟨gb_trans HG1.out (gb_trans hg2 hg3), Or.inr ⟨rfl, ?_, HNS.out⟩⟩
    rw [HR.out]; rfl
  · rcases hs1 with ⟨_, h⟩ | ⟨a, cap, heq, hcap, hat⟩
    · exact absurd h hz
    cases heq
    have hpos : 0 < N.length := List.length_pos_iff.2 hz
    have HR : Hid (rText N = Lib.join (N.map tOf) sepT) := if_neg hz
    have HAT : Hid (SpAt w1 a N) := hat
    have hmk := run_make_row' (P := Tryz.prog) 37 9 (.string ⟨#[]⟩) 16 Tryz.underlying37 infoStr rfl .i64 .i64 N.length (by have := HNL.out; omega) (by have := HNL.out; omega)
    have hnz : ((N.length : Int) == 0) = false := by rw [beq_eq_false_iff_ne]; omega
    clear hat
    have HZ : Hid (N ≠ []) := hz
    clear hz
    go_wp2
    obtain ⟨B, hB⟩ : ∃ B, w1.heap.size = B := ⟨_, rfl⟩
    obtain ⟨W1, hW1⟩ : ∃ W, w1.alloc (.cells (madeCells #[.string ⟨#[]⟩] N.length) 9) = W := ⟨_, rfl⟩
    have HX0 : Hid (TxAt W1 B N 0) := by
      show W1.heap[B]? = _
      rw [← hW1, ← hB, heap_alloc_new w1, made_str]
      congr 2
      apply Array.ext'
      simp [List.map_const']
    have HGW : Hid (w1.grownBy W1 none) := by show w1.grownBy W1 none; rw [← hW1]; exact gb_alloc (gb_refl w1 none) _
    have HB : Hid (w1.heap.size ≤ B) := by show _ ≤ _; omega
    try rw [hW1]
    try rw [hB]
    clear hW1 hB hmk
    go_loopw [28] (fun vi wk => ∃ i : Nat, vi = .int .i64 i ∧ i ≤ N.length ∧ TxAt wk B N i ∧ w1.grownBy wk none) (fun vi _ => N.length - (intOf vi).toNat)
    case atStart => exact ⟨0, rfl, Nat.zero_le _, HX0.out, HGW.out⟩
    case round =>
      obtain ⟨i, rfl, hi, htx, hgk⟩ := hrel
      have HX : Hid (TxAt wr B N i) := htx
      have HG : Hid (w1.grownBy wr none) := hgk
      clear htx hgk
      by_cases hlt : i < N.length
      · obtain ⟨s, hs⟩ : ∃ s, N[i] = s := ⟨_, rfl⟩
        have hns : NSp s := by rw [← hs]; exact HNS.out _ (List.getElem_mem hlt)
        have HEL : Hid (EltAt wr (a.add (i * 11)) s) := by show EltAt wr _ s; rw [← hs]; exact (HAT.out i hlt).grow HG.out
        have HS : Hid (N[i] = s) := hs
        have hTb : Tab wr := tab_grow HT1.out HG.out
        have CXs : Hid (∀ w, Tab w → Calls Tryz.prog 12 #[.agg #[.int .i64 s.f1, .int .i64 s.f2, .int .i64 s.f3, .string s.f4, .string s.f5, .int .i64 s.t1, .int .i64 s.t2, .int .i64 s.t3, .string s.t4, .string s.t5, .bool s.o]] w fun e w' => e = .returned (.string ⟨(tOf s).toArray⟩) ∧ w.grownBy w' none) := fun w h => CX.out s w hns h
        have HTB : Hid (Tab wr) := hTb
        clear hs hns hTb
        obtain ⟨e0, e1, e2, e3, e4, e5, e6, e7, e8, e9, e10⟩ := HEL.out
        have hnl := HNL.out
        go_wp2_with (first | (go_at_call 12; refine (CXs.out _ (tab_grow HTB.out (gb_alloc (gb_refl wr none) _))).mono ?_))
        rintro e w2 ⟨rfl, hg2⟩
        have hgx : wr.grownBy w2 none := gb_trans (gb_alloc (gb_refl wr none) _) hg2
        have HX2 : Hid (TxAt w2 B N i) := HX.out.grow hgx
        have HGF : Hid (w1.grownBy w2 none) := gb_trans HG.out hgx
        have hc := HX2.out.cell hlt
        have hf := HX2.out.f i
        clear hg2 hgx e0 e1 e2 e3 e4 e5 e6 e7 e8 e9 e10
        go_wp2
        exact ⟨⟨i + 1, by go_num, by omega, HX2.out.set hlt HS.out, gb_row0 HGF.out (gb_set (gb_refl w2 (some B)) _ _) (fun q hq => by injection hq with hq; have := HB.out; omega)⟩, by simp [intOf]; omega⟩
      · have hil : i = N.length := by omega
        have HJ : Hid (Calls Tryz.prog 13 #[.slice (some ⟨B, 0, none⟩) N.length N.length, .string ⟨#[32, 124, 124, 32]⟩] wr fun e w' => e = .returned (.string ⟨(Lib.join (N.map tOf) sepT).toArray⟩) ∧ wr.grownBy w' none) := by
          have h1 := HX.out
          rw [hil] at h1
          exact join_tx wr B N h1 HZ.out HNS.out HNL.out
        have HGF : Hid (w.grownBy wr none) := gb_trans HG1.out HG.out
        clear hil hi
        go_wp2_with (first | (go_at_call 13; refine HJ.out.mono ?_; rintro e w9 ⟨rfl, hg9⟩))
        refine bodyPost_ret (results_tmp2 (t := 2) (u := 3) rfl _ _ _) rfl ⟨gb_trans HGF.out hg9, Or.inr ⟨rfl, ?_, HNS.out⟩⟩
        rw [HR.out]; rfl
end Go.Proofs.YtkafaocbeankiaaGreatDoor

/-
  Versions written by the document; walked.
-/
namespace Go.Proofs.YtkafaocbeankiaaGreatDoor
open Go.RowKit
set_option linter.unusedVariables false

theorem opt_step2 (c : UInt8) (X : List UInt8) (a : ByteArray) (h : X.length + a.size + 1 ≤ 9223372036854775807) :
    ∃ (Z Y : List UInt8), (∀ wx, (Op.stringOp .add ⟨X.toArray⟩ ⟨#[c]⟩).run Tryz.prog wx = .ok (.string ⟨Z.toArray⟩) wx) ∧ (∀ wx, (Op.stringOp .add ⟨Z.toArray⟩ a).run Tryz.prog wx = .ok (.string ⟨Y.toArray⟩) wx) ∧ Y = X ++ c :: a.data.toList ∧ Y.length = X.length + a.size + 1 := by
  have ea : a = ⟨a.data.toList.toArray⟩ := by cases a; simp
  have la : a.data.toList.length = a.size := by simp
  refine ⟨X ++ [c], X ++ [c] ++ a.data.toList, fun wx => add_lists X [c] wx (by simp only [List.length_cons, List.length_nil]; omega), fun wx => ?_, by simp, by simp only [List.length_append, List.length_cons, List.length_nil, la]; omega⟩
  conv => lhs; rw [ea]
  exact add_lists (X ++ [c]) a.data.toList wx (by simp only [List.length_append, List.length_cons, List.length_nil, la]; omega)

set_option maxHeartbeats 1600000 in
theorem rtext_any (a1 a2 a3 : Int) (a4 a5 : ByteArray) (w : World) (b1 : -9223372036854775808 ≤ a1 ∧ a1 ≤ 9223372036854775807) (b2 : -9223372036854775808 ≤ a2 ∧ a2 ≤ 9223372036854775807) (b3 : -9223372036854775808 ≤ a3 ∧ a3 ≤ 9223372036854775807) (h4 : a4.size < 2 ^ 60) (h5 : a5.size < 2 ^ 60) :
    Calls Tryz.prog 18 #[.agg #[.int .i64 a1, .int .i64 a2, .int .i64 a3, .string a4, .string a5]] w fun e w' => e = .returned (.string ⟨(textV ⟨a1, a2, a3, a4.data.toList, a5.data.toList⟩).toArray⟩) ∧ w.grownBy w' none := by
  obtain ⟨T1, T2, T3, X1, X2, X3, X4, e1, e2, e3, d1, d2, d3, d4, hl, hx⟩ := text_steps a1 a2 a3 a4.data.toList a5.data.toList b1 b2 b3 (by simpa using h4) (by simpa using h5)
  have I1 : Hid (∀ w, Calls Tryz.prog 32 #[.int .i64 a1] w fun e w' => e = .returned (.string ⟨T1.toArray⟩) ∧ Below w.heap.size w w') := fun w => by rw [e1]; exact decimal_any a1 w b1.1 b1.2
  have I2 : Hid (∀ w, Calls Tryz.prog 32 #[.int .i64 a2] w fun e w' => e = .returned (.string ⟨T2.toArray⟩) ∧ Below w.heap.size w w') := fun w => by rw [e2]; exact decimal_any a2 w b2.1 b2.2
  have I3 : Hid (∀ w, Calls Tryz.prog 32 #[.int .i64 a3] w fun e w' => e = .returned (.string ⟨T3.toArray⟩) ∧ Below w.heap.size w w') := fun w => by rw [e3]; exact decimal_any a3 w b3.1 b3.2
  obtain ⟨R, hR⟩ : ∃ R, R = textV ⟨a1, a2, a3, a4.data.toList, a5.data.toList⟩ := ⟨_, rfl⟩
  rw [← hR]
  have HR : Hid (R = X4 ++ (optT 45 a4.data.toList ++ optT 43 a5.data.toList)) := by show R = _; rw [hR, hx]
  have GB : Hid (∀ {u v : World}, Below u.heap.size u v → u.grownBy v none) := fun h => ⟨h.os, h.tape, h.output, h.size, fun k hk _ => h.block k hk⟩
  clear e1 e2 e3 hx b1 b2 b3 hR
  go_enter Tryz.func18, Tryz.ntmps18
  go_wp2_with (go_at_call 32; refine (I1.out _).mono ?_)
  rintro e w1 ⟨rfl, hb⟩
  obtain ⟨A, hA⟩ : ∃ A, w.heap.size = A := ⟨_, rfl⟩
  have STa : Hid (St A a1 a2 a3 a4 a5 w1) := by
    show St A a1 a2 a3 a4 a5 w1
    rw [← hA]; exact (st_row (t := 43) (heap_alloc_new w _)).grow (GB.out hb)
  have HG : Hid (w.grownBy w1 none) := gb_trans (gb_alloc (gb_refl w none) _) (GB.out hb)
  rw [hA]
  clear hA hb
  obtain ⟨s1, s2, s3, s4, s5⟩ := STa.out
  go_wp2_with (go_at_call 32; refine (I2.out _).mono ?_)
  rintro e w2 ⟨rfl, hb⟩
  replace STa : Hid (St A a1 a2 a3 a4 a5 w2) := STa.out.grow (GB.out hb)
  replace HG : Hid (w.grownBy w2 none) := gb_trans HG.out (GB.out hb)
  clear hb s1 s2 s3 s4 s5
  obtain ⟨s1, s2, s3, s4, s5⟩ := STa.out
  go_wp2_with (go_at_call 32; refine (I3.out _).mono ?_)
  rintro e w3 ⟨rfl, hb⟩
  replace STa : Hid (St A a1 a2 a3 a4 a5 w3) := STa.out.grow (GB.out hb)
  replace HG : Hid (w.grownBy w3 none) := gb_trans HG.out (GB.out hb)
  clear hb s1 s2 s3 s4 s5
  obtain ⟨-, -, -, s4, s5⟩ := STa.out
  obtain ⟨Z4, Y4, p4, y4, hY4, hY4l⟩ := opt_step2 45 X4 a4 (by omega)
  by_cases z4 : a4.size = 0
  · have e4 := emp_t2 z4
    have o4 : optT 45 a4.data.toList = [] := by rw [List.length_eq_zero_iff.1 (show a4.data.toList.length = 0 by simpa using z4)]; rfl
    have HR4 : Hid (R = X4 ++ optT 43 a5.data.toList) := by show R = _; rw [HR.out, o4, List.nil_append]
    obtain ⟨Z5, Y5, p5, y5, hY5, hY5l⟩ := opt_step2 43 X4 a5 (by omega)
    clear p4 y4 hY4 hY4l o4 z4
    by_cases z5 : a5.size = 0
    · have e5 := emp_t2 z5
      have o5 : optT 43 a5.data.toList = [] := by rw [List.length_eq_zero_iff.1 (show a5.data.toList.length = 0 by simpa using z5)]; rfl
      have HZ : Hid (R = X4) := by show R = _; rw [HR4.out, o5, List.append_nil]
      clear o5 z5 p5 y5 hY5 hY5l
      go_wp2
      go_ret
      exact ⟨ret_str HZ.out.symm, HG.out⟩
    · have e5 := emp_f2 z5
      have o5 : X4 ++ optT 43 a5.data.toList = Y5 := by unfold optT; rw [if_neg (fun e => z5 (by show a5.data.size = 0; rw [← Array.length_toList, e]; rfl)), hY5]
      have HZ : Hid (R = Y5) := by show R = _; rw [HR4.out, o5]
      clear o5 z5 hY5 hY5l
      go_wp2
      go_ret
      exact ⟨ret_str HZ.out.symm, HG.out⟩
  · have e4 := emp_f2 z4
    have o4 : X4 ++ (optT 45 a4.data.toList ++ optT 43 a5.data.toList) = Y4 ++ optT 43 a5.data.toList := by
      rw [← List.append_assoc, hY4]; congr 1; unfold optT; rw [if_neg (fun e => z4 (by show a4.data.size = 0; rw [← Array.length_toList, e]; rfl))]
    have HR4 : Hid (R = Y4 ++ optT 43 a5.data.toList) := by show R = _; rw [HR.out, o4]
    obtain ⟨Z5, Y5, p5, y5, hY5, hY5l⟩ := opt_step2 43 Y4 a5 (by omega)
    clear hY4 hY4l o4 z4
    by_cases z5 : a5.size = 0
    · have e5 := emp_t2 z5
      have o5 : optT 43 a5.data.toList = [] := by rw [List.length_eq_zero_iff.1 (show a5.data.toList.length = 0 by simpa using z5)]; rfl
      have HZ : Hid (R = Y4) := by show R = _; rw [HR4.out, o5, List.append_nil]
      clear o5 z5 p5 y5 hY5 hY5l
      go_wp2
      go_ret
      exact ⟨ret_str HZ.out.symm, HG.out⟩
    · have e5 := emp_f2 z5
      have o5 : Y4 ++ optT 43 a5.data.toList = Y5 := by unfold optT; rw [if_neg (fun e => z5 (by show a5.data.size = 0; rw [← Array.length_toList, e]; rfl)), hY5]
      have HZ : Hid (R = Y5) := by show R = _; rw [HR4.out, o5]
      clear o5 z5 hY5 hY5l
      go_wp2
      go_ret
      exact ⟨ret_str HZ.out.symm, HG.out⟩

end Go.Proofs.YtkafaocbeankiaaGreatDoor
