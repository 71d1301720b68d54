import Derived.Test.YtegapdmbpkfpmaaGreatDoorM08
import Derived.Test.YtegapdmbpkfpmaaGreatDoorM05
import Derived.Test.YtegapdmbpkfpmaaGreatDoorM07
import Derived.Deep.RegionHeld3
/-
  The document's order of versions, walked.
-/
namespace Go.Proofs.YtegapdmbpkfpmaaGreatDoor
open Go.RowKit
set_option linter.unusedVariables false

theorem numT_of {a : ByteArray} (e : Bool) (d : Bool) (he : a.toList.isEmpty = e) (hd : a.data.toList.all isD = d) : numT a.data.toList = (!e && d) := by
  unfold numT; rw [hd]; rw [Lib.toList_data] at he; rw [he]

set_option maxHeartbeats 1600000 in
theorem rorderPart_any (a b : ByteArray) (w : World) (ha : a.size < 2 ^ 62) (hb : b.size < 2 ^ 62) :
    Calls Tryz.prog 110 #[.string a, .string b] w fun e w' => e = .returned (.int .i64 (partC a.data.toList b.data.toList)) ∧ w' = w := by
  obtain ⟨R, hR⟩ : ∃ R, R = partC a.data.toList b.data.toList := ⟨_, rfl⟩
  have HR : Hid (R = partC a.data.toList b.data.toList) := hR
  rw [← hR]
  clear hR
  obtain ⟨da, hda⟩ : ∃ d, a.data.toList.all isD = d := ⟨_, rfl⟩
  obtain ⟨db, hdb⟩ : ∃ d, b.data.toList.all isD = d := ⟨_, rfl⟩
  have DA : Hid (∀ w, Calls Tryz.prog 70 #[.string a] w fun e w' => e = .returned (.bool da) ∧ w' = w) := fun w => by rw [← hda]; exact rdigits_any a w ha
  have DB : Hid (∀ w, Calls Tryz.prog 70 #[.string b] w fun e w' => e = .returned (.bool db) ∧ w' = w) := fun w => by rw [← hdb]; exact rdigits_any b w hb
  obtain ⟨T, hT⟩ : ∃ T, T = Lib.compareBytes a.data.toList b.data.toList := ⟨_, rfl⟩
  have OT : Hid (∀ w, Calls Tryz.prog 136 #[.string a, .string b] w fun e w' => e = .returned (.int .i64 T) ∧ w' = w) := fun w => by rw [hT]; exact rorderText_any a b w
  obtain ⟨X, hX⟩ : ∃ X : ByteArray, X = ⟨(bareR a.data.toList).toArray⟩ := ⟨_, rfl⟩
  obtain ⟨Y, hY⟩ : ∃ Y : ByteArray, Y = ⟨(bareR b.data.toList).toArray⟩ := ⟨_, rfl⟩
  have BA : Hid (∀ w, Calls Tryz.prog 137 #[.string a] w fun e w' => e = .returned (.string X) ∧ w' = w) := fun w => by rw [hX]; exact rbare_any a w ha
  have BB : Hid (∀ w, Calls Tryz.prog 137 #[.string b] w fun e w' => e = .returned (.string Y) ∧ w' = w) := fun w => by rw [hY]; exact rbare_any b w hb
  have OX : Hid (∀ w, Calls Tryz.prog 136 #[.string X, .string Y] w fun e w' => e = .returned (.int .i64 (Lib.compareBytes X.data.toList Y.data.toList)) ∧ w' = w) := fun w => rorderText_any X Y w
  have OL : Hid (∀ w, Calls Tryz.prog 93 #[.int .i64 X.size, .int .i64 Y.size] w fun e w' => e = .returned (.int .i64 (Lib.compareInt X.size Y.size)) ∧ w' = w) := fun w => rorder_any _ _ w
  have HT : Hid (T = Lib.compareBytes a.data.toList b.data.toList) := hT
  have HXY : Hid (X.data.toList = bareR a.data.toList ∧ Y.data.toList = bareR b.data.toList ∧ (X.size : Int) = (bareR a.data.toList).length ∧ (Y.size : Int) = (bareR b.data.toList).length) := by
    rw [hX, hY]; refine ⟨rfl, rfl, ?_, ?_⟩
    · show (((bareR a.data.toList).toArray.size : Nat) : Int) = _; simp
    · show (((bareR b.data.toList).toArray.size : Nat) : Int) = _; simp
  have HDA : Hid (a.data.toList.all isD = da ∧ b.data.toList.all isD = db) := ⟨hda, hdb⟩
  clear hda hdb hT hX hY ha hb
  have key : ∀ ea eb, a.toList.isEmpty = ea → b.toList.isEmpty = eb → Hid (numT a.data.toList = (!ea && da) ∧ numT b.data.toList = (!eb && db)) := fun ea eb h1 h2 => ⟨numT_of ea da h1 HDA.out.1, numT_of eb db h2 HDA.out.2⟩
  cases hea : a.toList.isEmpty <;> cases heb : b.toList.isEmpty <;> cases da <;> cases db
  all_goals
    have HK := key _ _ hea heb
    clear key
    first
    | (have HZ : Hid (R = -1) := by show R = -1; rw [HR.out]; exact partC_nw HK.out.1 HK.out.2
       go_enter Tryz.func110, Tryz.ntmps110
       go_wp2_with (first | (go_at_call_of 70 a; refine (DA.out _).mono ?_; rintro e w' ⟨rfl, rfl⟩) | (go_at_call_of 70 b; refine (DB.out _).mono ?_; rintro e w' ⟨rfl, rfl⟩))
       go_ret
       exact ⟨ret_int HZ.out.symm, rfl⟩)
    | (have HZ : Hid (R = 1) := by show R = 1; rw [HR.out]; exact partC_wn HK.out.1 HK.out.2
       go_enter Tryz.func110, Tryz.ntmps110
       go_wp2_with (first | (go_at_call_of 70 a; refine (DA.out _).mono ?_; rintro e w' ⟨rfl, rfl⟩) | (go_at_call_of 70 b; refine (DB.out _).mono ?_; rintro e w' ⟨rfl, rfl⟩))
       go_ret
       exact ⟨ret_int HZ.out.symm, rfl⟩)
    | (have HZ : Hid (R = T) := by show R = T; rw [HR.out, HT.out]; exact partC_ww HK.out.1 HK.out.2
       go_enter Tryz.func110, Tryz.ntmps110
       go_wp2_with (first | (go_at_call_of 70 a; refine (DA.out _).mono ?_; rintro e w' ⟨rfl, rfl⟩) | (go_at_call_of 70 b; refine (DB.out _).mono ?_; rintro e w' ⟨rfl, rfl⟩) | (go_at_call 136; refine (OT.out _).mono ?_; rintro e w' ⟨rfl, rfl⟩))
       go_ret
       exact ⟨ret_int HZ.out.symm, rfl⟩)
    | skip
  cases hl : ((X.size : Int) == (Y.size : Int)) with
  | true =>
    have HZ : Hid (R = Lib.compareBytes X.data.toList Y.data.toList) := by
      show R = _
      have h := HXY.out
      rw [HR.out, partC_nnR HK.out.1 HK.out.2, ← h.2.2.1, ← h.2.2.2, if_pos (eq_of_beq hl), h.1, h.2.1]
    go_enter Tryz.func110, Tryz.ntmps110
    go_wp2_with (first | (go_at_call_of 70 a; refine (DA.out _).mono ?_; rintro e w' ⟨rfl, rfl⟩) | (go_at_call_of 70 b; refine (DB.out _).mono ?_; rintro e w' ⟨rfl, rfl⟩) | (go_at_call_of 137 a; refine (BA.out _).mono ?_; rintro e w' ⟨rfl, rfl⟩) | (go_at_call_of 137 b; refine (BB.out _).mono ?_; rintro e w' ⟨rfl, rfl⟩) | (go_at_call 136; refine (OX.out _).mono ?_; rintro e w' ⟨rfl, rfl⟩) | (go_at_call 93; refine (OL.out _).mono ?_; rintro e w' ⟨rfl, rfl⟩))
    go_ret
    exact ⟨ret_int HZ.out.symm, rfl⟩
  | false =>
    have HZ : Hid (R = Lib.compareInt X.size Y.size) := by
      show R = _
      have h := HXY.out
      rw [HR.out, partC_nnR HK.out.1 HK.out.2, ← h.2.2.1, ← h.2.2.2, if_neg (by simpa using hl)]
    go_enter Tryz.func110, Tryz.ntmps110
    go_wp2_with (first | (go_at_call_of 70 a; refine (DA.out _).mono ?_; rintro e w' ⟨rfl, rfl⟩) | (go_at_call_of 70 b; refine (DB.out _).mono ?_; rintro e w' ⟨rfl, rfl⟩) | (go_at_call_of 137 a; refine (BA.out _).mono ?_; rintro e w' ⟨rfl, rfl⟩) | (go_at_call_of 137 b; refine (BB.out _).mono ?_; rintro e w' ⟨rfl, rfl⟩) | (go_at_call 136; refine (OX.out _).mono ?_; rintro e w' ⟨rfl, rfl⟩) | (go_at_call 93; refine (OL.out _).mono ?_; rintro e w' ⟨rfl, rfl⟩))
    go_ret
    exact ⟨ret_int HZ.out.symm, rfl⟩

set_option maxHeartbeats 800000 in
theorem rorderPre_any (a b : ByteArray) (w : World) (ha : a.size ≤ 1048576) (hb : b.size ≤ 1048576) :
    Calls Tryz.prog 94 #[.string a, .string b] w fun e w' => e = .returned (.int .i64 (listC partC (splitD a.data.toList) (splitD b.data.toList))) ∧ Below w.heap.size w w' := by
  have SA := fun w => split_slice a w ha
  have SB := fun w => split_slice b w hb
  have PA : ∀ p ∈ splitD a.data.toList, p.length < 2 ^ 62 := fun p hp => by have := part_len _ p hp; simp at this; omega
  have PB : ∀ p ∈ splitD b.data.toList, p.length < 2 ^ 62 := fun p hp => by have := part_len _ p hp; simp at this; omega
  have LA : (splitD a.data.toList).length < 2 ^ 62 := by have := split_len a.data.toList; simp at this; omega
  generalize splitD a.data.toList = L at SA PA LA ⊢
  generalize splitD b.data.toList = M at SB PB ⊢
  obtain ⟨R, hR⟩ : ∃ R, R = listC partC L M := ⟨_, rfl⟩
  rw [← hR]
  have HR : Hid (R = listC partC L M) := hR
  have OP : Hid (∀ i, (h1 : i < L.length) → (h2 : i < M.length) → ∀ w, Calls Tryz.prog 110 #[.string ⟨L[i].toArray⟩, .string ⟨M[i].toArray⟩] w fun e w' => e = .returned (.int .i64 (partC L[i] M[i])) ∧ w' = w) := by
    intro i h1 h2 w
    have := rorderPart_any ⟨L[i].toArray⟩ ⟨M[i].toArray⟩ w (by have := PA L[i] (List.getElem_mem h1); show L[i].toArray.size < _; simpa using this) (by have := PB M[i] (List.getElem_mem h2); show M[i].toArray.size < _; simpa using this)
    exact this
  have OR : Hid (∀ w, Calls Tryz.prog 93 #[.int .i64 L.length, .int .i64 M.length] w fun e w' => e = .returned (.int .i64 (Lib.compareInt L.length M.length)) ∧ w' = w) := fun w => rorder_any _ _ w
  have HLM : Hid (True) := trivial
  clear hR PA PB ha hb
  go_enter Tryz.func94, Tryz.ntmps94
  go_wp2_with (go_at_call 68; refine (SA _).mono ?_)
  rintro e w1 ⟨g, cap, rfl, hg1, hg2, hc, hb1⟩
  have HC : Hid (∀ j, (hj : j < L.length) → w1.cell? ⟨g, j, none⟩ = some (.string ⟨L[j].toArray⟩)) := hc
  clear hc SA
  go_wp2_with (go_at_call 68; refine (SB _).mono ?_)
  rintro e w2 ⟨g', cap', rfl, hg1', hg2', hc, hb2⟩
  have HC' : Hid (∀ j, (hj : j < M.length) → w2.cell? ⟨g', j, none⟩ = some (.string ⟨M[j].toArray⟩)) := hc
  have HC2 : Hid (∀ j, (hj : j < L.length) → w2.cell? ⟨g, j, none⟩ = some (.string ⟨L[j].toArray⟩)) := fun j hj => (hb2.cell (p := ⟨g, j, none⟩) hg2).trans (HC.out j hj)
  have HB : Hid (Below w.heap.size w w2) := hb1.trans (hb2.mono hb1.size)
  clear hc HC hb1 hb2 hg1 hg2 hg1' hg2' SB
  go_wp2
  go_loopw [7] (fun vi wr => ∃ k : Nat, k ≤ L.length ∧ k ≤ M.length ∧ vi = .int .i64 k ∧ R = listC partC (L.drop k) (M.drop k) ∧ wr.heap = w2.heap ∧ Below w.heap.size w wr) (fun vi _ => L.length - (intOf vi).toNat)
  case atStart => exact ⟨0, Nat.zero_le _, Nat.zero_le _, rfl, HR.out, rfl, HB.out⟩
  case round =>
    obtain ⟨k, hk1, hk2, rfl, hr, hh, hbr⟩ := hrel
    have HH : Hid (wr.heap = w2.heap) := hh
    have HBR : Hid (Below w.heap.size w wr) := hbr
    clear hh hbr
    have HRK : Hid (R = listC partC (L.drop k) (M.drop k)) := hr
    clear hr
    by_cases h1 : k < L.length
    · by_cases h2 : k < M.length
      · have c1 := HC2.out k h1
        have c2 := HC'.out k h2
        obtain ⟨X, hX⟩ : ∃ X : ByteArray, X = ⟨L[k].toArray⟩ := ⟨_, rfl⟩
        obtain ⟨Y, hY⟩ : ∃ Y : ByteArray, Y = ⟨M[k].toArray⟩ := ⟨_, rfl⟩
        obtain ⟨O, hO⟩ : ∃ O, O = partC L[k] M[k] := ⟨_, rfl⟩
        have C0 : Hid (∀ w, Calls Tryz.prog 110 #[.string X, .string Y] w fun e w' => e = .returned (.int .i64 O) ∧ w' = w) := fun w => by rw [hX, hY, hO]; exact OP.out k h1 h2 w
        have HS : Hid (R = if O = 0 then listC partC (L.drop (k + 1)) (M.drop (k + 1)) else O) := by
          show R = _
          rw [HRK.out, List.drop_eq_getElem_cons h1, List.drop_eq_getElem_cons h2, hO]; rfl
        have c1 : wr.cell? ⟨g, k, none⟩ = some (.string X) := by rw [hX]; exact (World.cell?_of_block (w' := wr) (a := ⟨g, k, none⟩) (by rw [HH.out])).trans (HC2.out k h1)
        have c2 : wr.cell? ⟨g', k, none⟩ = some (.string Y) := by rw [hY]; exact (World.cell?_of_block (w' := wr) (a := ⟨g', k, none⟩) (by rw [HH.out])).trans (HC'.out k h2)
        have i1 : (k : Int) < (L.length : Int) := by omega
        have i2 : (k : Int) < (M.length : Int) := by omega
        clear hX hY hO
        go_wp2
        go_quiet (first | (go_at_call 110; exact Calls.quiet_of_same (C0.out _)))
        cases hz : (O == 0) with
        | true =>
          have HZ : Hid (R = listC partC (L.drop (k + 1)) (M.drop (k + 1))) := by show R = _; rw [HS.out, if_pos (by simpa using hz)]
          go_wp2
          go_roundw
          case rel => exact ⟨k + 1, by omega, by omega, by go_num, HZ.out, HH.out, below_drewN HBR.out _⟩
          case measure => simp [intOf]; omega
        | false =>
          have HZ : Hid (R = O) := by show R = O; rw [HS.out, if_neg (by simpa using hz)]
          go_wp2
          go_ret
          exact ⟨ret_int HZ.out.symm, below_drewN HBR.out _⟩
      · have HZ : Hid (R = Lib.compareInt L.length M.length) := by
          show R = _
          rw [HR.out]
          exact listC_end L M k (by omega) hk1 hk2 (by rw [← HR.out]; exact HRK.out)
        clear hk1 hk2
        go_wp2_with (first | (go_at_call 93; refine (OR.out _).mono ?_; rintro e w' ⟨rfl, rfl⟩))
        go_ret
        exact ⟨ret_int HZ.out.symm, HBR.out⟩
    · have HZ : Hid (R = Lib.compareInt L.length M.length) := by
        show R = _
        rw [HR.out]
        exact listC_end L M k (by omega) hk1 hk2 (by rw [← HR.out]; exact HRK.out)
      clear hk1 hk2
      go_wp2_with (first | (go_at_call 93; refine (OR.out _).mono ?_; rintro e w' ⟨rfl, rfl⟩))
      go_ret
      exact ⟨ret_int HZ.out.symm, HBR.out⟩
end Go.Proofs.YtegapdmbpkfpmaaGreatDoor

/-
  The document's Compare, walked.
-/
namespace Go.Proofs.YtegapdmbpkfpmaaGreatDoor
open Go.RowKit
set_option linter.unusedVariables false

set_option maxHeartbeats 1600000 in
theorem rcompare_any (a1 a2 a3 b1 b2 b3 : Int) (a4 a5 b4 b5 : ByteArray) (w : World) (hs : a4.size ≤ 1048576) (hs' : b4.size ≤ 1048576) :
    Calls Tryz.prog 64 #[.agg #[.int .i64 a1, .int .i64 a2, .int .i64 a3, .string a4, .string a5], .agg #[.int .i64 b1, .int .i64 b2, .int .i64 b3, .string b4, .string b5]] w fun e w' => e = .returned (.int .i64 (verC ⟨a1, a2, a3, a4.data.toList⟩ ⟨b1, b2, b3, b4.data.toList⟩)) ∧ Below w.heap.size w w' := by
  obtain ⟨R, hR⟩ : ∃ R, R = verC ⟨a1, a2, a3, a4.data.toList⟩ ⟨b1, b2, b3, b4.data.toList⟩ := ⟨_, rfl⟩
  have HR : Hid (R = verC ⟨a1, a2, a3, a4.data.toList⟩ ⟨b1, b2, b3, b4.data.toList⟩) := hR
  obtain ⟨p, hp⟩ : ∃ p, p = listC partC (splitD a4.data.toList) (splitD b4.data.toList) := ⟨_, rfl⟩
  have HP : Hid (p = listC partC (splitD a4.data.toList) (splitD b4.data.toList)) := hp
  have OP : Hid (∀ w, Calls Tryz.prog 94 #[.string a4, .string b4] w fun e w' => e = .returned (.int .i64 p) ∧ Below w.heap.size w w') := fun w => by rw [hp]; exact rorderPre_any a4 b4 w hs hs'
  have B2 : Hid (∀ o1 o2, Below w.heap.size w ((w.alloc o1).alloc o2)) := fun o1 o2 => gb_below (gb_alloc (gb_alloc (gb_refl w none) _) _)
  rw [← hR]
  clear hR hp hs hs'
  cases h1 : (a1 == b1) with
  | false =>
    have HZ : Hid (R = Lib.compareInt a1 b1) := by
      show R = _
      rw [HR.out, verC_eq]
      simp only
      rw [if_neg (fun e => (by simpa using h1 : ¬ a1 = b1) (cmp_zero.1 e))]
    go_enter Tryz.func64, Tryz.ntmps64
    go_wp2_with (first | (go_at_call 93; refine (rorder_any _ _ _).mono ?_; rintro e w' ⟨rfl, rfl⟩) | (go_at_call 94; refine (OP.out _).mono ?_; rintro e w3 ⟨rfl, hb3⟩))
    go_ret
    exact ⟨ret_int HZ.out.symm, B2.out _ _⟩
  | true =>
    cases h2 : (a2 == b2) with
    | false =>
      have HZ : Hid (R = Lib.compareInt a2 b2) := by
        show R = _
        rw [HR.out, verC_eq]
        simp only
        rw [if_pos (cmp_zero.2 (eq_of_beq h1)), if_neg (fun e => (by simpa using h2 : ¬ a2 = b2) (cmp_zero.1 e))]
      go_enter Tryz.func64, Tryz.ntmps64
      go_wp2_with (first | (go_at_call 93; refine (rorder_any _ _ _).mono ?_; rintro e w' ⟨rfl, rfl⟩) | (go_at_call 94; refine (OP.out _).mono ?_; rintro e w3 ⟨rfl, hb3⟩))
      go_ret
      exact ⟨ret_int HZ.out.symm, B2.out _ _⟩
    | true =>
      cases h3 : (a3 == b3) with
      | false =>
        have HZ : Hid (R = Lib.compareInt a3 b3) := by
          show R = _
          rw [HR.out, verC_eq]
          simp only
          rw [if_pos (cmp_zero.2 (eq_of_beq h1)), if_pos (cmp_zero.2 (eq_of_beq h2)), if_neg (fun e => (by simpa using h3 : ¬ a3 = b3) (cmp_zero.1 e))]
        go_enter Tryz.func64, Tryz.ntmps64
        go_wp2_with (first | (go_at_call 93; refine (rorder_any _ _ _).mono ?_; rintro e w' ⟨rfl, rfl⟩) | (go_at_call 94; refine (OP.out _).mono ?_; rintro e w3 ⟨rfl, hb3⟩))
        go_ret
        exact ⟨ret_int HZ.out.symm, B2.out _ _⟩
      | true =>
        have HQ : Hid (R = preC a4.data.toList b4.data.toList) := by
          show R = _
          rw [HR.out, verC_eq]
          simp only
          rw [if_pos (cmp_zero.2 (eq_of_beq h1)), if_pos (cmp_zero.2 (eq_of_beq h2)), if_pos (cmp_zero.2 (eq_of_beq h3))]
        cases he : (a4.toList == b4.toList) with
        | true =>
          have HZ : Hid (R = 0) := by
            show R = 0
            have e : a4.data.toList = b4.data.toList := by rw [← Lib.toList_data, ← Lib.toList_data]; exact eq_of_beq he
            rw [HQ.out, e]; exact good_pre.self _
          go_enter Tryz.func64, Tryz.ntmps64
          go_wp2_with (first | (go_at_call 93; refine (rorder_any _ _ _).mono ?_; rintro e w' ⟨rfl, rfl⟩) | (go_at_call 94; refine (OP.out _).mono ?_; rintro e w3 ⟨rfl, hb3⟩))
          go_ret
          exact ⟨ret_int HZ.out.symm, B2.out _ _⟩
        | false =>
          by_cases ha : a4.size = 0
          · have c1 := emp_t ha
            have HZ : Hid (R = 1) := by
              show R = 1
              have e : a4.data.toList = [] := List.length_eq_zero_iff.1 (by simpa using ha)
              have hb : b4.data.toList ≠ [] := by
                intro hb
                rw [Lib.toList_data, Lib.toList_data, e, hb] at he
                exact absurd he (by decide)
              rw [HQ.out, pre_empty _ _ (Or.inl e), e]
              exact cmp_gt (by have := List.length_pos_iff.2 hb; simp only [List.length_nil]; omega)
            clear ha
            go_enter Tryz.func64, Tryz.ntmps64
            go_wp2_with (first | (go_at_call 93; refine (rorder_any _ _ _).mono ?_; rintro e w' ⟨rfl, rfl⟩) | (go_at_call 94; refine (OP.out _).mono ?_; rintro e w3 ⟨rfl, hb3⟩))
            go_ret
            exact ⟨ret_int HZ.out.symm, B2.out _ _⟩
          · have c1 := emp_f ha
            by_cases hb : b4.size = 0
            · have c2 := emp_t hb
              have HZ : Hid (R = -1) := by
                show R = -1
                have e : b4.data.toList = [] := List.length_eq_zero_iff.1 (by simpa using hb)
                have ha' : a4.data.toList ≠ [] := fun h => ha (by show a4.data.size = 0; rw [← Array.length_toList, h]; rfl)
                rw [HQ.out, pre_empty _ _ (Or.inr e), e]
                exact cmp_lt (by have := List.length_pos_iff.2 ha'; simp only [List.length_nil]; omega)
              clear ha hb
              go_enter Tryz.func64, Tryz.ntmps64
              go_wp2_with (first | (go_at_call 93; refine (rorder_any _ _ _).mono ?_; rintro e w' ⟨rfl, rfl⟩) | (go_at_call 94; refine (OP.out _).mono ?_; rintro e w3 ⟨rfl, hb3⟩))
              go_ret
              exact ⟨ret_int HZ.out.symm, B2.out _ _⟩
            · have c2 := emp_f hb
              have HZ : Hid (R = p) := by
                show R = p
                rw [HQ.out, HP.out]
                exact pre_full _ _ (fun h => ha (by show a4.data.size = 0; rw [← Array.length_toList, h]; rfl)) (fun h => hb (by show b4.data.size = 0; rw [← Array.length_toList, h]; rfl))
              clear ha hb
              go_enter Tryz.func64, Tryz.ntmps64
              go_wp2_with (first | (go_at_call 93; refine (rorder_any _ _ _).mono ?_; rintro e w' ⟨rfl, rfl⟩) | (go_at_call 94; refine (OP.out _).mono ?_; rintro e w3 ⟨rfl, hb3⟩))
              go_ret
              exact ⟨ret_int HZ.out.symm, (B2.out _ _).trans (hb3.mono (B2.out _ _).size)⟩
end Go.Proofs.YtegapdmbpkfpmaaGreatDoor

/-
  The document's Has and Holds, walked.
-/
namespace Go.Proofs.YtegapdmbpkfpmaaGreatDoor
open Go.RowKit
set_option linter.unusedVariables false

def cFrom (s : Sp) : V := ⟨s.f1, s.f2, s.f3, s.f4.data.toList⟩
def cTo (s : Sp) : V := ⟨s.t1, s.t2, s.t3, s.t4.data.toList⟩
def hasS (s : Sp) (v : V) : Bool := decide (verC (cFrom s) v ≤ 0) && (s.o || decide (verC v (cTo s) < 0))

/-- has one of them the version? -/
def holdsL (L : List Sp) (v : V) : Bool := L.any fun s => hasS s v

end Go.Proofs.YtegapdmbpkfpmaaGreatDoor
