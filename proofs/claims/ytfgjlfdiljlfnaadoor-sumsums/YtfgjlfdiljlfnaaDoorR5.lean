/-
  The document's sum.
-/
import Derived.Test.YtfgjlfdiljlfnaaDoorR4
import Derived.Test.YtfgjlfdiljlfnaaDoorMp
namespace Go.Proofs.YtfgjlfdiljlfnaaDoor
open Go.RowKit
set_option linter.unusedVariables false

theorem cut64 (p : List UInt8) (j : Nat) (hj : j + 64 ≤ p.length) (hp : p.length ≤ 140737488351400) (wx : World) : (Instr.slice 9 (.string ⟨p.toArray⟩) (some (.int .i64 (j : Int))) (some (.int .i64 ((j : Int) + 64))) none).run Tryd.prog wx = .ok (.string ⟨((p.drop j).take 64).toArray⟩) wx := by
  obtain ⟨X, hX⟩ : ∃ X : ByteArray, X = ⟨p.toArray⟩ := ⟨_, rfl⟩
  have hz : X.size = p.length := by rw [hX]; show p.toArray.size = _; simp
  have h1 : (0 : Int) ≤ (j : Int) := by omega
  have h3 : ((j : Int) + 64).toNat = j + 64 := by omega
  have h4 : (j : Int) ≤ (j : Int) + 64 := by omega
  have h5 : (j : Int) + 64 ≤ (X.size : Int) := by omega
  have e : X.extract j (j + 64) = ⟨((p.drop j).take 64).toArray⟩ := by
    apply ByteArray.ext
    rw [ByteArray.data_extract, hX]
    apply Array.ext'
    simp
  rw [← hX, ← e]
  simp [go_sem, Tryd.underlying9, h1, h3, h4, h5]

set_option maxHeartbeats 2000000 in
set_option maxRecDepth 100000 in
theorem refSum_any (d : List UInt8) (w : World) (hd : d.length ≤ 140737488351232) :
    Calls Tryd.prog 7 #[.string ⟨d.toArray⟩] w fun e w' => e = .returned (.string ⟨(refS d).toArray⟩) ∧ Below w.heap.size w w' := by
  obtain ⟨p, hp⟩ : ∃ p, padT d = p := ⟨_, rfl⟩
  have C21 : Hid (∀ wx, Calls Tryd.prog 21 #[.string ⟨d.toArray⟩] wx fun e w' => e = .returned (.string ⟨p.toArray⟩) ∧ Below wx.heap.size wx w') := fun wx => by rw [← hp]; exact padded_any d wx hd
  have HE : Hid (refS d = outB (stR p (p.length / 64)).list 8) := by show refS d = _; rw [← hp]; rfl
  have hpl : p.length ≤ 140737488351400 := by rw [← hp, padT_len]; have := zN_lt d.length; omega
  have hp64 : p.length % 64 = 0 := by rw [← hp]; exact padT_64 d
  obtain ⟨N, hN⟩ : ∃ N, p.length = 64 * N := ⟨p.length / 64, by omega⟩
  have HN : Hid (p.length = 64 * N) := hN
  have HN2 : Hid (p.length / 64 = N) := by show p.length / 64 = N; omega
  clear hp hN hp64
  go_enter Tryd.func7, Tryd.ntmps7
  go_wp2_with (first | (go_at_call 21; refine (C21.out _).mono ?_; rintro e w1 ⟨rfl, hb1⟩) | (go_at_call 22; refine (starts_any _).mono ?_; rintro e w2 ⟨rfl, rfl⟩))
  have hz1 := hb1.size
  go_loopw [4, 5] (fun v i wr => ∃ k j g : Nat, k ≤ N ∧ j = 64 * k ∧ i = .int .i64 j ∧ v = .slice (some ⟨g, 0, none⟩) 8 8 ∧ wr.heap[g]? = some (.cells (r64 (stR p k).list) 3 (0, 0)) ∧ Below w.heap.size w wr) (fun _ i _ => p.length - (intOf i).toNat)
  case atStart => exact ⟨0, 0, w1.heap.size, by omega, rfl, rfl, rfl, heap_alloc_new w1 _, hb1.alloc hz1 _⟩
  case round =>
    obtain ⟨k, j, g, hk, hj, rfl, rfl, hg, hbr⟩ := hrel
    by_cases hlt : k < N
    · have hpN := HN.out
      have hjl : j + 64 ≤ p.length := by omega
      have hsl := fun wx => cut64 p j hjl hpl wx
      have hpc : (p.drop j).take 64 = pc p k := by rw [hj]; rfl
      have hpcl := pc_len p k (by omega)
      rw [hpc] at hsl
      obtain ⟨Y, hY⟩ : ∃ Y, pc p k = Y := ⟨_, rfl⟩
      rw [hY] at hsl hpcl
      have HS : Hid (stR p (k + 1) = stepC ks1 (stR p k) Y) := by show stR p (k + 1) = _; rw [← hY]; rfl
      have HJ : Hid (j = 64 * k) := hj
      have HG : Hid (wr.heap[g]? = some (.cells (r64 (stR p k).list) 3 (0, 0))) := hg
      have HC : Hid (∀ wx : World, wx.heap[g]? = some (.cells (r64 (stR p k).list) 3 (0, 0)) → Calls Tryd.prog 23 #[.slice (some ⟨g, 0, none⟩) 8 8, .string ⟨Y.toArray⟩] wx fun e w' => ∃ g, e = .returned (.slice (some ⟨g, 0, none⟩) 8 8) ∧ w'.heap[g]? = some (.cells (r64 (stepC ks1 (stR p k) Y).list) 3 (0, 0)) ∧ Below wx.heap.size wx w') := fun wx hx => turned_any (stR p k) (stR_ok p k) Y hpcl g wx hx
      have v1 : IntKind.i64.wrap ((j : Int) + 64) = (j : Int) + 64 := wr64 _ (by omega) (by omega)
      have hlt2 : (j : Int) < (p.length : Int) := by omega
      have hzr := hbr.size
      have HNK : Hid (k < N) := hlt
      clear hpN hpc hpcl hY hg hj hlt hk
      go_wp2_with (first | (go_at_call 23; refine (HC.out _ HG.out).mono ?_; rintro e w3 ⟨g3, rfl, hg3, hb3⟩))
      go_roundw
      case rel => exact ⟨k + 1, j + 64, g3, HNK.out, by have := HJ.out; omega, by go_num, rfl, by rw [HS.out]; exact hg3, hbr.trans (hb3.mono hzr)⟩
      case measure => simp [intOf]; omega
    · have hkN : k = N := by omega
      obtain ⟨q, hq⟩ : ∃ q, stR p k = q := ⟨_, rfl⟩
      have HE2 : Hid (refS d = outB q.list 8) := by show refS d = _; rw [HE.out, HN2.out, ← hkN, hq]
      have hqo : q.ok := by rw [← hq]; exact stR_ok p k
      have HQ : Hid q.ok := hqo
      rw [hq] at hg
      have HG : Hid (wr.heap[g]? = some (.cells (r64 q.list) 3 (0, 0))) := hg
      have hgz : g < wr.heap.size := (Array.getElem?_eq_some_iff.1 hg).1
      have hge : (p.length : Int) ≤ (j : Int) := by have := HN.out; omega
      have hzr := hbr.size
      clear hkN hq hqo hg hj hk hlt
      go_wp2
      rw [decide_eq_false (by omega : ¬ (j < p.length))]
      clear hge
      go_loopw [6, 7] (fun v i wr2 => ∃ m : Nat, ∃ T : List UInt8, m ≤ 8 ∧ i = .int .i64 m ∧ v = .string ⟨T.toArray⟩ ∧ T = outB q.list m ∧ wr2.heap[g]? = some (.cells (r64 q.list) 3 (0, 0)) ∧ Below w.heap.size w wr2 ∧ wr.heap.size ≤ wr2.heap.size) (fun _ i _ => 8 - (intOf i).toNat)
      case atStart => exact ⟨0, [], by omega, rfl, rfl, rfl, HG.out, hbr, Nat.le_refl _⟩
      case round =>
        obtain ⟨m, T, hm, rfl, rfl, hT, hg2, hb2, hz2⟩ := hrel
        have HT : Hid (T = outB q.list m) := hT
        have hTl : T.length = 4 * m := by rw [hT]; exact outB_len _ _
        by_cases hm8 : m < 8
        · have cg : wr.cell? ⟨g, m, none⟩ = some (.int .i64 (nth q.list m)) := cell64 hg2 m hm8
          have x1 := nth_ok q.list (list_ok q HQ.out) m
          have HG2 : Hid (wr.heap[g]? = some (.cells (r64 q.list) 3 (0, 0))) := hg2
          obtain ⟨x, hx⟩ : ∃ x, nth q.list m = x := ⟨_, rfl⟩
          rw [hx] at cg x1
          obtain ⟨Y, hY⟩ : ∃ Y, bytesK x 4 4 = Y := ⟨_, rfl⟩
          have hYl : Y.length = 4 := by rw [← hY]; exact bytesK_len _ _ _
          have C24 : Hid (∀ wx, Calls Tryd.prog 24 #[.int .i64 x, .int .i64 4] wx fun e w' => e = .returned (.string ⟨Y.toArray⟩) ∧ Below wx.heap.size wx w') := fun wx => by rw [← hY]; exact bytesOf_any x 4 wx (by omega) (by omega) (by omega)
          have had := fun wx => add_list T Y wx (by omega) (by omega)
          have HS : Hid (T ++ Y = outB q.list (m + 1)) := by show T ++ Y = outB q.list (m + 1); rw [hT, ← hY, ← hx]; rfl
          have m0 : (0 : Int) ≤ (m : Int) := by omega
          have m1 : (m : Int) < 8 := by omega
          have hzg : g < wr.heap.size := by omega
          have hzw : w.heap.size ≤ wr.heap.size := by omega
          clear hT hx hY hYl hg2
          go_wp2_with (go_at_call 24; refine (C24.out _).mono ?_; rintro e w5 ⟨rfl, hb5⟩)
          (try go_big_round)
          refine ⟨?rel, ?measure⟩
          case rel => exact ⟨m + 1, T ++ Y, by omega, by go_num, rfl, HS.out, by rw [hb5.block g hzg]; exact HG2.out, hb2.trans (hb5.mono hzw), by have := hb5.size; omega⟩
          case measure => simp [intOf]; omega
        · have hme : m = 8 := by omega
          have HR : Hid (T = refS d) := by show T = refS d; rw [HE2.out, hT, hme]
          clear hT hme hTl hg2
          go_wp2
          exact bodyPost_ret (results_tmp (t := 2) rfl _ _ _) rfl ⟨dig_ret HR.out, hb2⟩
end Go.Proofs.YtfgjlfdiljlfnaaDoor
