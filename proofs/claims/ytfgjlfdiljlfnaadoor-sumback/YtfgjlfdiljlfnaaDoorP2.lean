/-
  The walk of stirred.
-/
import Derived.Test.YtfgjlfdiljlfnaaDoorArr
import Derived.Deep.RegionWith
import Derived.Deep.DrawnRows
namespace Go.Proofs.YtfgjlfdiljlfnaaDoor
open Go.RowKit
set_option linter.unusedVariables false
structure S8 where
  a : Int
  b : Int
  c : Int
  d : Int
  e : Int
  f : Int
  g : Int
  h : Int
structure S8.ok (s : S8) : Prop where
  a : 0 ≤ s.a ∧ s.a < 4294967296
  b : 0 ≤ s.b ∧ s.b < 4294967296
  c : 0 ≤ s.c ∧ s.c < 4294967296
  d : 0 ≤ s.d ∧ s.d < 4294967296
  e : 0 ≤ s.e ∧ s.e < 4294967296
  f : 0 ≤ s.f ∧ s.f < 4294967296
  g : 0 ≤ s.g ∧ s.g < 4294967296
  h : 0 ≤ s.h ∧ s.h < 4294967296
def S8.list (s : S8) : List Int := [s.a, s.b, s.c, s.d, s.e, s.f, s.g, s.h]
def pT (k w : Int) (q : S8) : Int := (q.h + bits BinOp.xor IntKind.u32 (bits BinOp.xor IntKind.u32 (pRot q.e 6) (pRot q.e 11)) (pRot q.e 25) + bits BinOp.xor IntKind.u32 (bits BinOp.and IntKind.u32 q.e q.f) (bits BinOp.and IntKind.u32 (bits BinOp.xor IntKind.u32 (if IntKind.u32.signed = true then -1 else IntKind.u32.max) q.e) q.g) + k + w) % 4294967296
def pU (q : S8) : Int := (bits BinOp.xor IntKind.u32 (bits BinOp.xor IntKind.u32 (pRot q.a 2) (pRot q.a 13)) (pRot q.a 22) + bits BinOp.xor IntKind.u32 (bits BinOp.xor IntKind.u32 (bits BinOp.and IntKind.u32 q.a q.b) (bits BinOp.and IntKind.u32 q.a q.c)) (bits BinOp.and IntKind.u32 q.b q.c)) % 4294967296
def pStep (k w : Int) (q : S8) : S8 := ⟨(pT k w q + pU q) % 4294967296, q.a, q.b, q.c, (q.d + pT k w q) % 4294967296, q.e, q.f, q.g⟩
theorem pStep_ok (k w : Int) (q : S8) (h : q.ok) : (pStep k w q).ok := by
  obtain ⟨qa, qb, qc, qd, qe, qf, qg, qh⟩ := h
  exact ⟨⟨Int.emod_nonneg _ (by omega), Int.emod_lt_of_pos _ (by omega)⟩, qa, qb, qc, ⟨Int.emod_nonneg _ (by omega), Int.emod_lt_of_pos _ (by omega)⟩, qe, qf, qg⟩
def pStir (ks sc : List Int) (s : S8) : Nat → S8
  | 0 => s
  | k + 1 => pStep (nth ks k) (nth sc k) (pStir ks sc s k)

set_option maxHeartbeats 1000000 in
set_option maxRecDepth 100000 in
theorem stirred_any (s : S8) (sc : List Int) (hsc : sc.length = 64) (w : World) (ks : List Int) (hks : ks.length = 64)
    (hg : ∀ k, k < 64 → w.cell? ⟨0, k, none⟩ = some (.int .u32 (nth ks k))) (hw0 : 0 < w.heap.size) (hs : s.ok) :
    Calls Tryd.prog 17 #[.agg (r32 s.list), .agg (r32 sc)] w fun e w' => e = .returned (.agg (r32 (pStir ks sc s 64).list)) ∧ Below w.heap.size w w' := by
  go_enter Tryd.func17, Tryd.ntmps17
  go_wp2
  obtain ⟨W, hW⟩ : ∃ W, ((w.alloc (Obj.cells (r32 s.list) 30)).alloc (Obj.cells (r32 sc) 40)).alloc (Obj.cells (r32 z8) 30) = W := ⟨_, rfl⟩
  have hb : Below w.heap.size w W := by rw [← hW]; exact (((Below.refl _ _).alloc (Nat.le_refl _) _).alloc (by simp) _).alloc (by simp; omega) _
  have h0 : W.heap[w.heap.size]? = some (.cells (r32 s.list) 30 (0, 0)) := by
    rw [← hW, Below.heap_alloc _ _ _ (by simp; omega), Below.heap_alloc _ _ _ (by simp)]
    exact heap_alloc_new w _
  have h1 : W.heap[w.heap.size + 1]? = some (.cells (r32 sc) 40 (0, 0)) := by
    rw [← hW, Below.heap_alloc _ _ _ (by simp)]
    have := heap_alloc_new (w.alloc (Obj.cells (r32 s.list) 30)) (Obj.cells (r32 sc) 40)
    simpa using this
  have h2 : W.heap[w.heap.size + 1 + 1]? = some (.cells (r32 z8) 30 (0, 0)) := by
    have := heap_alloc_new ((w.alloc (Obj.cells (r32 s.list) 30)).alloc (Obj.cells (r32 sc) 40)) (Obj.cells (r32 z8) 30)
    rw [World.size_alloc, World.size_alloc, hW] at this
    exact this
  change Code.wp _ _ _ _ (((w.alloc (Obj.cells (r32 s.list) 30)).alloc (Obj.cells (r32 sc) 40)).alloc (Obj.cells (r32 z8) 30))
  rw [hW]
  have HW := (show Hid (_ = W) from hW)
  clear hW HW
  have c0 : W.cell? ⟨w.heap.size, 0, none⟩ = some (.int .u32 s.a) := cell32 h0 0 (by simp [S8.list])
  have c1 : W.cell? ⟨w.heap.size, 1, none⟩ = some (.int .u32 s.b) := cell32 h0 1 (by simp [S8.list])
  have c2 : W.cell? ⟨w.heap.size, 2, none⟩ = some (.int .u32 s.c) := cell32 h0 2 (by simp [S8.list])
  have c3 : W.cell? ⟨w.heap.size, 3, none⟩ = some (.int .u32 s.d) := cell32 h0 3 (by simp [S8.list])
  have c4 : W.cell? ⟨w.heap.size, 4, none⟩ = some (.int .u32 s.e) := cell32 h0 4 (by simp [S8.list])
  have c5 : W.cell? ⟨w.heap.size, 5, none⟩ = some (.int .u32 s.f) := cell32 h0 5 (by simp [S8.list])
  have c6 : W.cell? ⟨w.heap.size, 6, none⟩ = some (.int .u32 s.g) := cell32 h0 6 (by simp [S8.list])
  have c7 : W.cell? ⟨w.heap.size, 7, none⟩ = some (.int .u32 s.h) := cell32 h0 7 (by simp [S8.list])
  have H0 : Hid (W.heap[w.heap.size]? = some (.cells (r32 s.list) 30 (0, 0))) := h0
  have H1 : Hid (W.heap[w.heap.size + 1]? = some (.cells (r32 sc) 40 (0, 0))) := h1
  have H2 : Hid (W.heap[w.heap.size + 1 + 1]? = some (.cells (r32 z8) 30 (0, 0))) := h2
  have HG : Hid (∀ k, k < 64 → w.cell? ⟨0, k, none⟩ = some (.int .u32 (nth ks k))) := hg
  clear h0 h1 h2 hg
  go_quiet (fail)
  go_wp2
  go_loopw [5, 6, 7, 8, 9, 10, 11, 12, 32] (fun va vb vc vd ve vf vg vh i wr => ∃ k : Nat, k ≤ 64 ∧ i = .int .i64 k ∧ (∃ q : S8, q = pStir ks sc s k ∧ q.ok ∧ va = .int .u32 q.a ∧ vb = .int .u32 q.b ∧ vc = .int .u32 q.c ∧ vd = .int .u32 q.d ∧ ve = .int .u32 q.e ∧ vf = .int .u32 q.f ∧ vg = .int .u32 q.g ∧ vh = .int .u32 q.h) ∧ wr.heap[w.heap.size + 1]? = some (.cells (r32 sc) 40 (0, 0)) ∧ wr.heap[w.heap.size + 1 + 1]? = some (.cells (r32 z8) 30 (0, 0)) ∧ Below w.heap.size w wr) (fun _ _ _ _ _ _ _ _ i _ => 64 - (intOf i).toNat)
  case atStart => exact ⟨0, by omega, rfl, ⟨s, rfl, hs, rfl, rfl, rfl, rfl, rfl, rfl, rfl, rfl⟩, by rw [World.heap_drewN]; exact H1.out, by rw [World.heap_drewN]; exact H2.out, below_drewN hb _⟩
  case round =>
    obtain ⟨k, hk, rfl, ⟨q, hq, qok, rfl, rfl, rfl, rfl, rfl, rfl, rfl, rfl⟩, h1, h2, hbl⟩ := hrel
    obtain ⟨qa, qb, qc, qd, qe, qf, qg, qh⟩ := qok
    have HQ : Hid (q = pStir ks sc s k) := hq
    clear hq
    by_cases hlt : k < 64
    · have hi0 : (0 : Int) ≤ (k : Int) := by omega
      have hi1 : (k : Int) < 64 := by omega
      have cs : wr.cell? ⟨w.heap.size + 1, k, none⟩ = some (.int .u32 (nth sc k)) := cell32 h1 k (by omega)
      have cg : wr.cell? ⟨0, k, none⟩ = some (.int .u32 (nth ks k)) := (hbl.cell (p := ⟨0, k, none⟩) hw0).trans (HG.out k hlt)
      have J1 : Hid (wr.heap[w.heap.size + 1]? = some (.cells (r32 sc) 40 (0, 0))) := h1
      have J2 : Hid (wr.heap[w.heap.size + 1 + 1]? = some (.cells (r32 z8) 30 (0, 0))) := h2
      clear h1 h2
      go_wp2
      go_quiet ((go_at_call 33; exact Calls.quiet_of_same (rot_any _ _ _ (by omega) (by omega) (by simp))))
      go_wp2_with (go_at_call 33; refine (rot_any _ _ _ (by omega) (by omega) (by simp)).mono ?_; rintro e w' ⟨rfl, rfl⟩)
      go_roundw
      case rel => exact ⟨k + 1, by omega, by go_num, ⟨pStep (nth ks k) (nth sc k) q, by rw [HQ.out]; rfl, pStep_ok _ _ _ ⟨qa, qb, qc, qd, qe, qf, qg, qh⟩, rfl, rfl, rfl, rfl, rfl, rfl, rfl, rfl⟩, by rw [World.heap_drewN]; exact J1.out, by rw [World.heap_drewN]; exact J2.out, below_drewN hbl _⟩
      case measure => simp [intOf]; omega
    · obtain rfl : k = 64 := by omega
      go_wp2_with (first | (refine wpList_store_row rfl 30 _ _ rfl (w.heap.size + 1 + 1) (r32 q.list) rfl rfl 30 _ h2 i30 rfl (r32_one _) ?_))
      refine bodyPost_ret (results_cell_row rfl _ _ (w.heap.size + 1 + 1) 30 (r32 q.list) (0, 0) _ rfl (rowSame h2 _) Tryd.underlying30 rfl i30) rfl ⟨by rw [HQ.out], ?_⟩
      exact belowRow hbl (by omega) _
end Go.Proofs.YtfgjlfdiljlfnaaDoor
