/-
  The document's turn.
-/
import Derived.Test.YtfgjlfdiljlfnaaDoorR3
import Derived.Test.YtfgjlfdiljlfnaaDoorP9
import Derived.Deep.QuietTactic
import Derived.Laws.IdiomCopy
namespace Go.Proofs.YtfgjlfdiljlfnaaDoor
open Go.RowKit
set_option linter.unusedVariables false

def zz8 : List Int := [0, 0, 0, 0, 0, 0, 0, 0]
theorem make8 (w : World) : (Instr.makeSlice 46 (.int .i64 8) (.int .i64 8)).run Tryd.prog w = .ok (.slice (some ⟨w.heap.size, 0, none⟩) 8 8) (w.alloc (.cells (r64 zz8) 3)) := by kernel_rfl
theorem size3 : (Tryd.prog.info? 3).map (·.size) = some 1 := by kernel_rfl
theorem l64_list (q : S8) : l64 q.list = [.int .i64 q.a, .int .i64 q.b, .int .i64 q.c, .int .i64 q.d, .int .i64 q.e, .int .i64 q.f, .int .i64 q.g, .int .i64 q.h] := rfl
theorem list_len (q : S8) : q.list.length = 8 := rfl
/-- eight numbers copied into a block of eight. -/
theorem copy8 (W : World) (B gh : Nat) (q : S8) (hB : W.heap[B]? = some (.cells (r64 zz8) 3 (0, 0))) (hh : W.heap[gh]? = some (.cells (r64 q.list) 3 (0, 0))) :
    (Builtin.copy_ #[46, 46] 3 #[.slice (some ⟨B, 0, none⟩) 8 8, .slice (some ⟨gh, 0, none⟩) 8 8]).run Tryd.prog W = .ok (.int .i64 8) (W.setCells B 0 (l64 q.list)) := by
  refine run_copy_cells W 46 46 3 3 B 0 8 8 ⟨gh, 0, none⟩ 8 8 (l64 q.list) Tryd.underlying46 size3 rfl ?_ ?_ ?_ ?_
  · intro j v hj
    have hj8 : j < q.list.length := by
      have := (List.getElem?_eq_some_iff.1 hj).1
      simpa [l64] using this
    have := cell64 hh j hj8
    have e : (⟨gh, 0, none⟩ : Addr).add j = ⟨gh, j, none⟩ := by unfold Addr.add; split <;> simp_all
    rw [e, this, ← hj]
    have h2 := r64_get q.list j hj8
    unfold r64 at h2
    simpa [l64] using h2.symm
  · intro j hj
    have hj8 : j < zz8.length := by simpa [l64, S8.list, zz8] using hj
    rw [Nat.zero_add, cell64 hB j hj8]; rfl
  · intro j hj
    unfold World.frozen?
    simp [hB]
  · intro v hv
    simp only [l64, List.mem_map] at hv
    obtain ⟨x, _, rfl⟩ := hv
    rfl
theorem copied8 (W : World) (B : Nat) (q : S8) (hB : W.heap[B]? = some (.cells (r64 zz8) 3 (0, 0))) : (W.setCells B 0 (l64 q.list)).heap[B]? = some (.cells (r64 q.list) 3 (0, 0)) := by
  have h := set64 (set64 (set64 (set64 (set64 (set64 (set64 (set64 hB 0 q.a) 1 q.b) 2 q.c) 3 q.d) 4 q.e) 5 q.f) 6 q.g) 7 q.h
  exact h
theorem below8 (W : World) (B : Nat) (q : S8) {b : Nat} {a : World} (h : Below b a W) (hb : b ≤ B) : Below b a (W.setCells B 0 (l64 q.list)) :=
  (((((((h.setCell (p := ⟨B, 0, none⟩) hb _).setCell (p := ⟨B, 1, none⟩) hb _).setCell (p := ⟨B, 2, none⟩) hb _).setCell (p := ⟨B, 3, none⟩) hb _).setCell (p := ⟨B, 4, none⟩) hb _).setCell (p := ⟨B, 5, none⟩) hb _).setCell (p := ⟨B, 6, none⟩) hb _).setCell (p := ⟨B, 7, none⟩) hb _
theorem not64 (e : Int) (he : 0 ≤ e ∧ e < 4294967296) : bits BinOp.xor IntKind.i64 (if IntKind.i64.signed = true then -1 else IntKind.i64.max) e = -1 - e := by
  obtain ⟨E, rfl⟩ := Int.eq_ofNat_of_zero_le he.1
  show IntKind.i64.wrap ((BitVec.ofInt 64 (-1) ^^^ BitVec.ofInt 64 (E : Int)).toNat : Int) = _
  have e1 : BitVec.ofInt 64 (-1) = BitVec.allOnes 64 := by decide
  rw [e1, BitVec.allOnes_xor, BitVec.toNat_not, ofInt_u64 E (by omega), IntKind.wrap_i64]
  omega
theorem r64_at {W : World} {g : Nat} {q : S8} (h : W.heap[g]? = some (.cells (r64 q.list) 3 (0, 0))) :
    W.cell? ⟨g, 0, none⟩ = some (.int .i64 q.a) ∧ W.cell? ⟨g, 1, none⟩ = some (.int .i64 q.b) ∧ W.cell? ⟨g, 2, none⟩ = some (.int .i64 q.c) ∧ W.cell? ⟨g, 3, none⟩ = some (.int .i64 q.d) ∧ W.cell? ⟨g, 4, none⟩ = some (.int .i64 q.e) ∧ W.cell? ⟨g, 5, none⟩ = some (.int .i64 q.f) ∧ W.cell? ⟨g, 6, none⟩ = some (.int .i64 q.g) ∧ W.cell? ⟨g, 7, none⟩ = some (.int .i64 q.h) :=
  ⟨cell64 h 0 (by rw [list_len]; decide), cell64 h 1 (by rw [list_len]; decide), cell64 h 2 (by rw [list_len]; decide), cell64 h 3 (by rw [list_len]; decide), cell64 h 4 (by rw [list_len]; decide), cell64 h 5 (by rw [list_len]; decide), cell64 h 6 (by rw [list_len]; decide), cell64 h 7 (by rw [list_len]; decide)⟩
theorem pStir_ok (ks sc : List Int) (s : S8) (h : s.ok) : ∀ k, (pStir ks sc s k).ok
  | 0 => h
  | k + 1 => pStep_ok _ _ _ (pStir_ok ks sc s h k)
/-- the first n of eight sums laid. -/
def outL (l : List Int) (n : Nat) : List Int := l.take n ++ List.replicate (8 - n) 0
theorem outL_0 (l : List Int) : outL l 0 = zz8 := rfl
theorem outL_8 (q : S8) : outL q.list 8 = q.list := rfl
theorem outL_len (q : S8) (n : Nat) (h : n ≤ 8) : (outL q.list n).length = 8 := by
  unfold outL; simp [list_len]; omega
theorem outL_set (q r : S8) (n : Nat) (h : n < 8) : (outL (S8.add q r).list n).set n ((nth q.list n + nth r.list n) % 4294967296) = outL (S8.add q r).list (n + 1) := by
  match n, h with
  | 0, _ => rfl
  | 1, _ => rfl
  | 2, _ => rfl
  | 3, _ => rfl
  | 4, _ => rfl
  | 5, _ => rfl
  | 6, _ => rfl
  | 7, _ => rfl
theorem otherCell {W : World} {g n b m : Nat} {u v : Value} (h : W.cell? ⟨g, n, none⟩ = some v) (hne : g ≠ b) : (W.setCell ⟨b, m, none⟩ u).cell? ⟨g, n, none⟩ = some v := by
  rw [World.cell?_setCell_other W _ _ _ (by intro e; cases e; exact hne rfl)]
  exact h
theorem ks1_ok : ∀ x ∈ ks1, 0 ≤ x ∧ x < 4294967296 := by decide

set_option maxHeartbeats 4000000 in
set_option maxRecDepth 100000 in
theorem turned_any (q0 : S8) (hq : q0.ok) (c : List UInt8) (hc : c.length = 64) (gh : Nat) (w : World) (hh : w.heap[gh]? = some (.cells (r64 q0.list) 3 (0, 0))) :
    Calls Tryd.prog 23 #[.slice (some ⟨gh, 0, none⟩) 8 8, .string ⟨c.toArray⟩] w fun e w' => ∃ g, e = .returned (.slice (some ⟨g, 0, none⟩) 8 8) ∧ w'.heap[g]? = some (.cells (r64 (stepC ks1 q0 c).list) 3 (0, 0)) ∧ Below w.heap.size w w' := by
  obtain ⟨s, hs⟩ : ∃ s : ByteArray, s = ⟨c.toArray⟩ := ⟨_, rfl⟩
  obtain ⟨SC, hSC⟩ : ∃ SC, pSp (pWords c 16) 48 = SC := ⟨_, rfl⟩
  have hSl : SC.length = 64 := by rw [← hSC]; exact pSp_len _ (pWords_len _ _) _
  have hSo : ∀ x ∈ SC, 0 ≤ x ∧ x < 4294967296 := by rw [← hSC]; exact pSp_ok _ (pWords_ok _ _) _
  have HSl : Hid (SC.length = 64) := hSl
  have HSo : Hid (∀ x ∈ SC, 0 ≤ x ∧ x < 4294967296) := hSo
  have C34 : Hid (∀ wx, Calls Tryd.prog 34 #[.string s] wx fun e w' => ∃ g cap, e = .returned (.slice (some ⟨g, 0, none⟩) 64 cap) ∧ w'.ownsRow wx.heap.size 3 1 (.slice (some ⟨g, 0, none⟩) 64 cap) 64 (l64 SC) ∧ Below wx.heap.size wx w') := fun wx => by
    rw [hs, ← hSC]; exact schedule_any c hc wx
  have HR : Hid (stepC ks1 q0 c = S8.add q0 (pStir ks1 SC q0 64)) := by show stepC ks1 q0 c = _; unfold stepC; rw [hSC]
  have HH : Hid (w.heap[gh]? = some (.cells (r64 q0.list) 3 (0, 0))) := hh
  have hghw : gh < w.heap.size := (Array.getElem?_eq_some_iff.1 hh).1
  have HQ : Hid q0.ok := hq
  rw [← hs]
  clear hs hSC hSl hSo hh hq
  have hmk := make8
  go_enter Tryd.func23, Tryd.ntmps23
  go_wp2_with (first | (go_at_call 34; refine (C34.out _).mono ?_; rintro e w1 ⟨gs, cap, rfl, hrow, hb1⟩) | (go_at_call 35; refine (constants_any _).mono ?_; rintro e w2 ⟨rfl, rfl⟩))
  have hlt := hrow.lt gs rfl
  have hz1 := hb1.size
  have b1 : Below w1.heap.size w1 ((w1.alloc (.cells (r64 ks1) 3)).alloc (.cells (r64 zz8) 3)) := ((Below.refl _ _).alloc (Nat.le_refl _) _).alloc (by simp) _
  have b2 : Below (w1.heap.size + 1) (w1.alloc (.cells (r64 ks1) 3)) ((w1.alloc (.cells (r64 ks1) 3)).alloc (.cells (r64 zz8) 3)) := (Below.refl _ _).alloc (by simp) _
  have hB : ((w1.alloc (.cells (r64 ks1) 3)).alloc (.cells (r64 zz8) 3)).heap[w1.heap.size + 1]? = some (.cells (r64 zz8) 3 (0, 0)) := by
    have := heap_alloc_new (w1.alloc (.cells (r64 ks1) 3)) (.cells (r64 zz8) 3)
    rwa [World.size_alloc] at this
  have hH : ((w1.alloc (.cells (r64 ks1) 3)).alloc (.cells (r64 zz8) 3)).heap[gh]? = some (.cells (r64 q0.list) 3 (0, 0)) := by
    rw [b1.block gh (by omega), hb1.block gh hghw]; exact HH.out
  rw [copy8 _ _ gh q0 hB hH]
  obtain ⟨W3, hW3⟩ : ∃ W3, World.setCells ((w1.alloc (.cells (r64 ks1) 3)).alloc (.cells (r64 zz8) 3)) (w1.heap.size + 1) 0 (l64 q0.list) = W3 := ⟨_, rfl⟩
  have b3 : Below w1.heap.size w1 W3 := by rw [← hW3]; exact below8 _ _ _ b1 (by omega)
  have b4 : Below (w1.heap.size + 1) (w1.alloc (.cells (r64 ks1) 3)) W3 := by rw [← hW3]; exact below8 _ _ _ b2 (by omega)
  have HV : Hid (W3.heap[w1.heap.size + 1]? = some (.cells (r64 q0.list) 3 (0, 0))) := by show W3.heap[w1.heap.size + 1]? = _; rw [← hW3]; exact copied8 _ _ _ hB
  have HS : Hid (∀ j, j < 64 → W3.cell? ⟨gs, j, none⟩ = some (.int .i64 (nth SC j))) := fun j hj => by
    rw [b3.cell (p := ⟨gs, j, none⟩) hlt.2, hrow.cellAt j (by omega)]
    unfold l64 nth
    have hjl : j < SC.length := by have := HSl.out; omega
    simp [hjl]
  have HKK : Hid (∀ j, j < 64 → W3.cell? ⟨w1.heap.size, j, none⟩ = some (.int .i64 (nth ks1 j))) := fun j hj => by
    rw [b4.cell (p := ⟨w1.heap.size, j, none⟩) (by simp)]
    exact cell64 (heap_alloc_new w1 _) j hj
  have HHW : Hid (W3.heap[gh]? = some (.cells (r64 q0.list) 3 (0, 0))) := by
    show W3.heap[gh]? = _
    rw [b3.block gh (by omega), hb1.block gh hghw]; exact HH.out
  have hbw : Below w.heap.size w W3 := hb1.trans (b3.mono hz1)
  rw [hW3]
  obtain ⟨gk, hgk⟩ : ∃ gk, w1.heap.size = gk := ⟨_, rfl⟩
  rw [hgk] at hlt hz1 b3 b4 HV HKK
  obtain ⟨B, hBB⟩ : ∃ B, gk + 1 = B := ⟨_, rfl⟩
  rw [hBB] at HV b4
  have hz3 : B ≤ W3.heap.size := by have := b4.size; simp at this; omega
  rw [hgk, hBB]
  have hgB : gs < B ∧ gk < B ∧ gh < B ∧ w.heap.size ≤ B := by omega
  clear hW3 b1 b2 hB hH b3 b4 hgk hBB hrow hb1 hlt hz1 hghw hmk
  go_wp2
  go_loopw [7, 8] (fun v i wr => ∃ n g : Nat, n ≤ 64 ∧ i = .int .i64 n ∧ v = .slice (some ⟨g, 0, none⟩) 8 8 ∧ wr.heap[g]? = some (.cells (r64 (pStir ks1 SC q0 n).list) 3 (0, 0)) ∧ B ≤ g ∧ Below B W3 wr) (fun _ i _ => 64 - (intOf i).toNat)
  case atStart => exact ⟨0, B, by omega, rfl, rfl, HV.out, by omega, Below.refl _ _⟩
  case round =>
    obtain ⟨n, g, hn, rfl, rfl, hg, hgB2, hbr⟩ := hrel
    by_cases hlt : n < 64
    · have hzr := hbr.size
      have cK : wr.cell? ⟨gk, n, none⟩ = some (.int .i64 (nth ks1 n)) := by rw [hbr.cell (p := ⟨gk, n, none⟩) hgB.2.1]; exact HKK.out n hlt
      have cS : wr.cell? ⟨gs, n, none⟩ = some (.int .i64 (nth SC n)) := by rw [hbr.cell (p := ⟨gs, n, none⟩) hgB.1]; exact HS.out n hlt
      have xK := nth_ok ks1 ks1_ok n
      have xS := nth_ok SC HSo.out n
      obtain ⟨K, hK⟩ : ∃ K, nth ks1 n = K := ⟨_, rfl⟩
      obtain ⟨X, hX⟩ : ∃ X, nth SC n = X := ⟨_, rfl⟩
      have HP : Hid (pStir ks1 SC q0 (n + 1) = pStep K X (pStir ks1 SC q0 n)) := by
        show pStir ks1 SC q0 (n + 1) = _
        rw [← hK, ← hX]; rfl
      rw [hK] at cK xK
      rw [hX] at cS xS
      have hqo := pStir_ok ks1 SC q0 HQ.out n
      obtain ⟨q, hqn⟩ : ∃ q, pStir ks1 SC q0 n = q := ⟨_, rfl⟩
      have HP2 : Hid (pStir ks1 SC q0 (n + 1) = pStep K X q) := by show pStir ks1 SC q0 (n + 1) = _; rw [HP.out, hqn]
      rw [hqn] at hg hqo
      obtain ⟨c0, c1, c2, c3, c4, c5, c6, c7⟩ := r64_at hg
      have HG : Hid (wr.heap[g]? = some (.cells (r64 q.list) 3 (0, 0))) := hg
      obtain ⟨oa, ob, oc, od, oe, of, og, oh⟩ := hqo
      obtain ⟨qa, qb, qc, qd, qe, qf, qg, qh⟩ := q
      dsimp only at c0 c1 c2 c3 c4 c5 c6 c7 oa ob oc od oe of og oh
      obtain ⟨S1, hS1⟩ : ∃ A, bits BinOp.xor IntKind.u32 (bits BinOp.xor IntKind.u32 (pRot qe 6) (pRot qe 11)) (pRot qe 25) = A := ⟨_, rfl⟩
      obtain ⟨CH, hCH⟩ : ∃ A, bits BinOp.xor IntKind.u32 (bits BinOp.and IntKind.u32 qe qf) (bits BinOp.and IntKind.u32 (bits BinOp.xor IntKind.u32 (if IntKind.u32.signed = true then -1 else IntKind.u32.max) qe) qg) = A := ⟨_, rfl⟩
      obtain ⟨S0, hS0⟩ : ∃ A, bits BinOp.xor IntKind.u32 (bits BinOp.xor IntKind.u32 (pRot qa 2) (pRot qa 13)) (pRot qa 22) = A := ⟨_, rfl⟩
      obtain ⟨MJ, hMJ⟩ : ∃ A, bits BinOp.xor IntKind.u32 (bits BinOp.xor IntKind.u32 (bits BinOp.and IntKind.u32 qa qb) (bits BinOp.and IntKind.u32 qa qc)) (bits BinOp.and IntKind.u32 qb qc) = A := ⟨_, rfl⟩
      have e1 : bits BinOp.xor IntKind.i64 (bits BinOp.xor IntKind.i64 (pRot qe 6) (pRot qe 11)) (pRot qe 25) = S1 := by rw [x32 _ _ (rok _ _) (rok _ _), x32 _ _ (bok _ _ _) (rok _ _)]; exact hS1
      have e2 : bits BinOp.xor IntKind.i64 (bits BinOp.and IntKind.i64 qe qf) (bits BinOp.and IntKind.i64 (4294967295 - qe) qg) = CH := by
        rw [not32 qe oe] at hCH
        rw [a32 _ _ oe of, a32 _ _ (by omega) og, x32 _ _ (bok _ _ _) (bok _ _ _)]; exact hCH
      have e3 : bits BinOp.xor IntKind.i64 (bits BinOp.xor IntKind.i64 (pRot qa 2) (pRot qa 13)) (pRot qa 22) = S0 := by rw [x32 _ _ (rok _ _) (rok _ _), x32 _ _ (bok _ _ _) (rok _ _)]; exact hS0
      have e4 : bits BinOp.xor IntKind.i64 (bits BinOp.xor IntKind.i64 (bits BinOp.and IntKind.i64 qa qb) (bits BinOp.and IntKind.i64 qa qc)) (bits BinOp.and IntKind.i64 qb qc) = MJ := by
        rw [a32 _ _ oa ob, a32 _ _ oa oc, a32 _ _ ob oc, x32 _ _ (bok _ _ _) (bok _ _ _), x32 _ _ (bok _ _ _) (bok _ _ _)]; exact hMJ
      have o1 : 0 ≤ S1 ∧ S1 < 4294967296 := by rw [← hS1]; exact bok _ _ _
      have o2 : 0 ≤ CH ∧ CH < 4294967296 := by rw [← hCH]; exact bok _ _ _
      have o3 : 0 ≤ S0 ∧ S0 < 4294967296 := by rw [← hS0]; exact bok _ _ _
      have o4 : 0 ≤ MJ ∧ MJ < 4294967296 := by rw [← hMJ]; exact bok _ _ _
      have HT : Hid (pT K X ⟨qa, qb, qc, qd, qe, qf, qg, qh⟩ = (qh + S1 + CH + K + X) % 4294967296) := by
        show pT K X ⟨qa, qb, qc, qd, qe, qf, qg, qh⟩ = _
        unfold pT; dsimp only; rw [hS1, hCH]
      have HU : Hid (pU ⟨qa, qb, qc, qd, qe, qf, qg, qh⟩ = (S0 + MJ) % 4294967296) := by
        show pU ⟨qa, qb, qc, qd, qe, qf, qg, qh⟩ = _
        unfold pU; dsimp only; rw [hS0, hMJ]
      have CN : Hid (∀ wx, Calls Tryd.prog 37 #[.int .i64 (bits BinOp.xor IntKind.i64 (if IntKind.i64.signed = true then -1 else 9223372036854775807) qe)] wx fun e w' => e = .returned (.int .i64 (4294967295 - qe)) ∧ w' = wx) := fun wx => by
        have h := word_any (-1 - qe) wx (by omega) (by omega)
        have e : (-1 - qe) % 4294967296 = 4294967295 - qe := by omega
        rw [e] at h
        have e2 : bits BinOp.xor IntKind.i64 (if IntKind.i64.signed = true then -1 else 9223372036854775807) qe = -1 - qe := not64 qe oe
        rw [e2]; exact h
      have v1 : IntKind.i64.wrap (qh + S1) = qh + S1 := wr64 _ (by omega) (by omega)
      have v2 : IntKind.i64.wrap (qh + S1 + CH) = qh + S1 + CH := wr64 _ (by omega) (by omega)
      have v3 : IntKind.i64.wrap (qh + S1 + CH + K) = qh + S1 + CH + K := wr64 _ (by omega) (by omega)
      have v4 : IntKind.i64.wrap (qh + S1 + CH + K + X) = qh + S1 + CH + K + X := wr64 _ (by omega) (by omega)
      have v5 : IntKind.i64.wrap (S0 + MJ) = S0 + MJ := wr64 _ (by omega) (by omega)
      have n0 : (0 : Int) ≤ (n : Int) := by omega
      have n1 : (n : Int) < 64 := by omega
      clear hg hqn hK hX HP hS1 hCH hS0 hMJ
      go_wp2
      go_quiet (first | (go_at_call 36; exact Calls.quiet_of (refRot_any _ _ _ (by omega) (by omega) (by simp))) | (go_at_call 37; exact Calls.quiet_of_same (CN.out _)))
      go_wp2
      obtain ⟨W5, hW5⟩ : ∃ W5, wr.drewN nq = W5 := ⟨_, rfl⟩
      have hbr5 : Below B W3 W5 := by rw [← hW5]; exact below_drewN hbr _
      have HG5 : Hid (W5.heap[g]? = some (.cells (r64 (S8.mk qa qb qc qd qe qf qg qh).list) 3 (0, 0))) := by show W5.heap[g]? = _; rw [← hW5]; exact HG.out
      have d1 : W5.cell? ⟨g, 1, none⟩ = some (.int .i64 qb) := by rw [← hW5]; exact c1
      have d2 : W5.cell? ⟨g, 2, none⟩ = some (.int .i64 qc) := by rw [← hW5]; exact c2
      have d3 : W5.cell? ⟨g, 3, none⟩ = some (.int .i64 qd) := by rw [← hW5]; exact c3
      have d5 : W5.cell? ⟨g, 5, none⟩ = some (.int .i64 qf) := by rw [← hW5]; exact c5
      have d6 : W5.cell? ⟨g, 6, none⟩ = some (.int .i64 qg) := by rw [← hW5]; exact c6
      rw [hW5]
      clear hW5 c0 c1 c2 c3 c4 c5 c6 c7 HG hbr cK cS hzr
      go_quiet (first | (go_at_call 36; exact Calls.quiet_of (refRot_any _ _ _ (by omega) (by omega) (by simp))))
      go_wp2
      obtain ⟨T, hT⟩ : ∃ T, qh + S1 + CH + K + X = T := ⟨_, rfl⟩
      obtain ⟨U, hU⟩ : ∃ U, S0 + MJ = U := ⟨_, rfl⟩
      rw [hT, hU]
      have oT : 0 ≤ T ∧ T < 21474836480 := by omega
      have oU : 0 ≤ U ∧ U < 8589934592 := by omega
      have HN : Hid (pStir ks1 SC q0 (n + 1) = ⟨(T + U) % 4294967296, qa, qb, qc, (qd + T) % 4294967296, qe, qf, qg⟩) := by
        show pStir ks1 SC q0 (n + 1) = _
        rw [HP2.out]
        unfold pStep
        dsimp only
        rw [HT.out, HU.out, hT, hU]
        have a1 : (T % 4294967296 + U % 4294967296) % 4294967296 = (T + U) % 4294967296 := by omega
        have a2 : (qd + T % 4294967296) % 4294967296 = (qd + T) % 4294967296 := by omega
        rw [a1, a2]
      obtain ⟨NA, hNA⟩ : ∃ N, (T + U) % 4294967296 = N := ⟨_, rfl⟩
      obtain ⟨NE, hNE⟩ : ∃ N, (qd + T) % 4294967296 = N := ⟨_, rfl⟩
      have CA : Hid (∀ wx, Calls Tryd.prog 37 #[.int .i64 (T + U)] wx fun e w' => e = .returned (.int .i64 NA) ∧ w' = wx) := fun wx => by rw [← hNA]; exact word_any _ wx (by omega) (by omega)
      have CE : Hid (∀ wx, Calls Tryd.prog 37 #[.int .i64 (qd + T)] wx fun e w' => e = .returned (.int .i64 NE) ∧ w' = wx) := fun wx => by rw [← hNE]; exact word_any _ wx (by omega) (by omega)
      have y1 : IntKind.i64.wrap (T + U) = T + U := wr64 _ (by omega) (by omega)
      have y2 : IntKind.i64.wrap (qd + T) = qd + T := wr64 _ (by omega) (by omega)
      rw [hNA, hNE] at HN
      clear v1 v2 v3 v4 v5 e1 e2 e3 e4 hT hU HT HU HP2 hNA hNE
      go_region_held3 (fun w' => w'.cell? ⟨g, 1, none⟩ = some (.int .i64 qb) ∧ w'.cell? ⟨g, 2, none⟩ = some (.int .i64 qc) ∧ w'.cell? ⟨g, 3, none⟩ = some (.int .i64 qd) ∧ w'.cell? ⟨g, 5, none⟩ = some (.int .i64 qf) ∧ w'.cell? ⟨g, 6, none⟩ = some (.int .i64 qg)) (go_keep) (first | (go_at_call 37; refine (CA.out _).mono ?_; rintro e w' ⟨rfl, rfl⟩) | (go_at_call 37; refine (CE.out _).mono ?_; rintro e w' ⟨rfl, rfl⟩))
      go_wp2
      go_roundw
      case rel => exact ⟨n + 1, W5.heap.size, by omega, by go_num, rfl, by rw [HN.out]; exact heap_alloc_new (W5.drewN (nq + 1)) _, by have := hbr5.size; omega, (below_drewN hbr5 _).alloc (by have := hbr5.size; simp; omega) _⟩
      case measure => simp [intOf]; omega
    · have hn64 : n = 64 := by omega
      obtain ⟨qq, hqq⟩ : ∃ q, pStir ks1 SC q0 n = q := ⟨_, rfl⟩
      have HR2 : Hid (stepC ks1 q0 c = S8.add q0 qq) := by show stepC ks1 q0 c = _; rw [HR.out, ← hqq, hn64]
      have hqo : qq.ok := by rw [← hqq]; exact pStir_ok ks1 SC q0 HQ.out n
      have HG : Hid (wr.heap[g]? = some (.cells (r64 qq.list) 3 (0, 0))) := by show wr.heap[g]? = _; rw [hg, hqq]
      have HQ2 : Hid qq.ok := hqo
      clear hg hqq hqo hn64
      have hmk := make8
      go_wp2
      obtain ⟨Wm, hWm⟩ : ∃ Wm, wr.alloc (.cells (r64 zz8) 3) = Wm := ⟨_, rfl⟩
      have hgO : g < wr.heap.size := (Array.getElem?_eq_some_iff.1 HG.out).1
      have hhO : gh < wr.heap.size := by have := hbr.size; omega
      have HO0 : Hid (Wm.heap[wr.heap.size]? = some (.cells (r64 zz8) 3 (0, 0))) := by show Wm.heap[wr.heap.size]? = _; rw [← hWm]; exact heap_alloc_new wr _
      have HG3 : Hid (Wm.heap[g]? = some (.cells (r64 qq.list) 3 (0, 0))) := by
        show Wm.heap[g]? = _
        rw [← hWm, Below.heap_alloc _ _ _ hgO]; exact HG.out
      have HH3 : Hid (Wm.heap[gh]? = some (.cells (r64 q0.list) 3 (0, 0))) := by
        show Wm.heap[gh]? = _
        rw [← hWm, Below.heap_alloc _ _ _ hhO, hbr.block gh hgB.2.2.1]; exact HHW.out
      have hbm : Below w.heap.size w Wm := by
        rw [← hWm]
        exact (hbw.trans (hbr.mono hgB.2.2.2)).alloc (by have := hbr.size; omega) _
      have hzO : w.heap.size ≤ wr.heap.size := by have := hbr.size; omega
      rw [hWm]
      obtain ⟨O, hO⟩ : ∃ O, wr.heap.size = O := ⟨_, rfl⟩
      rw [hO] at hgO hhO HO0 hzO
      rw [hO]
      clear hWm hO hmk
      go_loopw [14] (fun i wr2 => ∃ n : Nat, n ≤ 8 ∧ i = .int .i64 n ∧ wr2.heap[O]? = some (.cells (r64 (outL (S8.add q0 qq).list n)) 3 (0, 0)) ∧ Below O Wm wr2) (fun i _ => 8 - (intOf i).toNat)
      case atStart => exact ⟨0, by omega, rfl, HO0.out, Below.refl _ _⟩
      case round =>
        obtain ⟨m, hm, rfl, ho, hbo⟩ := hrel
        by_cases hm8 : m < 8
        · have cH : wr.cell? ⟨gh, m, none⟩ = some (.int .i64 (nth q0.list m)) := by rw [hbo.cell (p := ⟨gh, m, none⟩) hhO]; exact cell64 HH3.out m hm8
          have cG : wr.cell? ⟨g, m, none⟩ = some (.int .i64 (nth qq.list m)) := by rw [hbo.cell (p := ⟨g, m, none⟩) hgO]; exact cell64 HG3.out m hm8
          have cO : wr.cell? ⟨O, m, none⟩ = some (.int .i64 (nth (outL (S8.add q0 qq).list m) m)) := cell64 ho m (by rw [outL_len _ _ (by omega)]; exact hm8)
          have fO : wr.frozen? ⟨O, m, none⟩ = false := frozen_of_row _ _ _ _ _ ho
          have x1 := nth_ok q0.list (list_ok q0 HQ.out) m
          have x2 := nth_ok qq.list (list_ok qq HQ2.out) m
          have HOS : Hid (∀ v, v = (nth q0.list m + nth qq.list m) % 4294967296 → (wr.setCell ⟨O, m, none⟩ (.int .i64 v)).heap[O]? = some (.cells (r64 (outL (S8.add q0 qq).list (m + 1))) 3 (0, 0))) := fun v hv => by
            rw [← outL_set q0 qq m hm8, hv]
            exact set64 ho m _
          obtain ⟨x, hx⟩ : ∃ x, nth q0.list m = x := ⟨_, rfl⟩
          obtain ⟨y, hy⟩ : ∃ y, nth qq.list m = y := ⟨_, rfl⟩
          obtain ⟨z, hz⟩ : ∃ z, nth (outL (S8.add q0 qq).list m) m = z := ⟨_, rfl⟩
          rw [hx] at cH x1 HOS
          rw [hy] at cG x2 HOS
          rw [hz] at cO
          obtain ⟨N, hN⟩ : ∃ N, (x + y) % 4294967296 = N := ⟨_, rfl⟩
          have C37 : Hid (∀ wx, Calls Tryd.prog 37 #[.int .i64 (x + y)] wx fun e w' => e = .returned (.int .i64 N) ∧ w' = wx) := fun wx => by rw [← hN]; exact word_any _ wx (by omega) (by omega)
          have HOS2 : Hid ((wr.setCell ⟨O, m, none⟩ (.int .i64 N)).heap[O]? = some (.cells (r64 (outL (S8.add q0 qq).list (m + 1))) 3 (0, 0))) := HOS.out N hN.symm
          have y1 : IntKind.i64.wrap (x + y) = x + y := wr64 _ (by omega) (by omega)
          have m0 : (0 : Int) ≤ (m : Int) := by omega
          have m1 : (m : Int) < 8 := by omega
          have ne1 : gh ≠ O := by omega
          have ne2 : g ≠ O := by omega
          clear hx hy hz hN ho HOS
          go_wp2
          go_region_held3 (fun w' => w'.cell? ⟨gh, m, none⟩ = some (.int .i64 x) ∧ w'.cell? ⟨g, m, none⟩ = some (.int .i64 y)) ((first | exact ⟨cH, cG⟩ | exact ⟨otherCell cH ne1, otherCell cG ne2⟩ | go_keep)) (first | (go_at_call 37; refine (C37.out _).mono ?_; rintro e w' ⟨rfl, rfl⟩))
          go_wp2
          go_roundw
          case rel => exact ⟨m + 1, by omega, by go_num, HOS2.out, (hbo.setCell (p := ⟨O, m, none⟩) (Nat.le_refl _) _).drew⟩
          case measure => simp [intOf]; omega
        · have hm8' : m = 8 := by omega
          have HE : Hid (wr.heap[O]? = some (.cells (r64 (stepC ks1 q0 c).list) 3 (0, 0))) := by
            show wr.heap[O]? = _
            rw [HR2.out, ho, hm8', outL_8]
          have hbe : Below w.heap.size w wr := hbm.trans (hbo.mono hzO)
          clear ho hm8'
          go_wp2
          exact bodyPost_ret (results_tmp (t := 4) rfl _ _ _) rfl ⟨O, rfl, HE.out, hbe⟩
end Go.Proofs.YtfgjlfdiljlfnaaDoor
