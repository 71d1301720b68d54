/-
  The walk of Sum.
-/
import Derived.Test.YtfgjlfdiljlfnaaDoorP8
import Derived.Test.YtfgjlfdiljlfnaaDoorP1
import Derived.Test.YtfgjlfdiljlfnaaDoorP2
import Derived.Test.YtfgjlfdiljlfnaaDoorP4
import Derived.OpenShut
import Derived.Test.YtfgjlfdiljlfnaaDoorRf
import Derived.Test.YtfgjlfdiljlfnaaDoorRl
namespace Go.Proofs.YtfgjlfdiljlfnaaDoor
open Go.RowKit Go.Shelf
set_option linter.unusedVariables false
attribute [local go_sem] Oper.semAt_some
attribute [local go_sem ↓] inAtZero inAtSucc load30 load36 store30
attribute [local go_sem] ldRow_ptr stRow_ptr r32_size r8_size allOne_r32

theorem or_ok (a b : Int) : 0 ≤ bits BinOp.or IntKind.u32 a b ∧ bits BinOp.or IntKind.u32 a b < 4294967296 := by
  have := bounds_u32 (wf_bits BinOp.or .u32 a b)
  omega
def S8.add (s q : S8) : S8 := ⟨(s.a + q.a) % 4294967296, (s.b + q.b) % 4294967296, (s.c + q.c) % 4294967296, (s.d + q.d) % 4294967296, (s.e + q.e) % 4294967296, (s.f + q.f) % 4294967296, (s.g + q.g) % 4294967296, (s.h + q.h) % 4294967296⟩
theorem padd_add (s q : S8) : padd s.list q.list = (S8.add s q).list := by
  rfl
theorem mod_ok (x : Int) : 0 ≤ x % 4294967296 ∧ x % 4294967296 < 4294967296 := ⟨Int.emod_nonneg _ (by omega), Int.emod_lt_of_pos _ (by omega)⟩
theorem add_ok (s q : S8) : (S8.add s q).ok := ⟨mod_ok _, mod_ok _, mod_ok _, mod_ok _, mod_ok _, mod_ok _, mod_ok _, mod_ok _⟩
def h0 : S8 := ⟨1779033703, 3144134277, 1013904242, 2773480762, 1359893119, 2600822924, 528734635, 1541459225⟩
theorem h0_ok : h0.ok := by constructor <;> decide
theorem h0_list : hs0 = h0.list := rfl
/-- the state behind 64 bytes more. -/
def stepC (ks : List Int) (s : S8) (c : List UInt8) : S8 := S8.add s (pStir ks (pSp (pWords c 16) 48) s 64)
def sumS (ks : List Int) (cs : List CK) : S8 := cs.foldl (fun s c => stepC ks s c.1) h0
theorem sumS_snoc (ks : List Int) (cs : List CK) (c : CK) : sumS ks (cs ++ [c]) = stepC ks (sumS ks cs) c.1 := by simp [sumS]
theorem fold_ok (ks : List Int) : ∀ (cs : List CK) (s : S8), s.ok → (cs.foldl (fun s c => stepC ks s c.1) s).ok
  | [], s, h => h
  | c :: cs, s, h => fold_ok ks cs _ (add_ok _ _)
theorem sumS_ok (ks : List Int) (cs : List CK) : (sumS ks cs).ok := fold_ok ks cs h0 h0_ok
theorem pWords_ok (c : List UInt8) (k : Nat) : ∀ x ∈ pWords c k, 0 ≤ x ∧ x < 4294967296 := by
  intro x hx
  simp only [pWords, List.mem_map] at hx
  obtain ⟨i, _, rfl⟩ := hx
  split
  · exact or_ok _ _
  · omega
theorem list_ok (s : S8) (h : s.ok) : ∀ x ∈ s.list, 0 ≤ x ∧ x < 4294967296 := by
  intro x hx
  obtain ⟨qa, qb, qc, qd, qe, qf, qg, qh⟩ := h
  simp only [S8.list, List.mem_cons, List.not_mem_nil, or_false] at hx
  rcases hx with rfl | rfl | rfl | rfl | rfl | rfl | rfl | rfl <;> assumption

theorem round_end {P : Program} {r : Loop} {bh B0 t : Nat} {w W5 W7 w5 : World} {old new new' : Array Value} (hnew : new = new') (hr : r.state = .ready ∧ r.pending = none) (s9 : Keep bh (B0 + 1) W5 W7) (hb : Below W7.heap.size W7 w5)
    (s2 : W7.heap[B0 + 1]? = some (.loop { r with state := .busy })) (s3 : W7.heap[B0]? = some (.deferred (some []))) (t4 : w5.heap[bh]? = some (.cells old t (0, 0))) (q4 : Below w.heap.size w W7) (hbw : w.heap.size ≤ bh)
    (h1 : bh < B0) (h2 : B0 + 2 ≤ W5.heap.size) :
    ∃ v w', (Instr.endRound (B0 + 1) none).run P (w5.setRow bh new) = .ok v w' ∧ (Ending.returned v = .returned (.bool true) ∧
      (w'.heap[bh]? = some (.cells new' t (0, 0)) ∧ w'.heap[B0 + 1]? = some (.loop r) ∧ w'.heap[B0]? = some (.deferred (some [])) ∧ Below w.heap.size w w' ∧ B0 + 2 ≤ w'.heap.size) ∧ Keep bh (B0 + 1) W5 w') := by
  subst hnew
  have z9 := s9.size
  have z5 := hb.size
  have hl : (w5.setRow bh new).heap[B0 + 1]? = some (.loop { r with state := .busy }) := by
    rw [rowOther rfl _ (by omega), hb.block _ (by omega)]
    exact s2
  have hr3 := run_endRound (P := P) none hl
  rw [loop_back r hr.1 hr.2] at hr3
  have zz : ((w5.setRow bh new).putObj (B0 + 1) (.loop r)).heap.size = w5.heap.size := by simp [World.putObj]
  refine ⟨_, _, hr3, rfl, ⟨?_, ?_, ?_, ?_, ?_⟩, ?_⟩
  · exact (World.putObj_heap_other (by omega)).trans (rowSame t4 _)
  · exact World.putObj_heap_same (by simp; omega)
  · rw [World.putObj_heap_other (by omega), rowOther rfl _ (by omega), hb.block _ (by omega)]
    exact s3
  · exact (belowRow (q4.trans (hb.mono q4.size)) hbw _).trans (belowK_b (w := w) (Nat.le_refl _) _ (B0 + 1) _ _ (by omega) hl rfl rfl)
  · rw [zz]; omega
  · refine ⟨hb.os.trans s9.os, hb.tape.trans s9.tape, hb.output.trans s9.output, by rw [zz]; omega, fun k hk n1 n2 => ?_⟩
    rw [World.putObj_heap_other (by omega), rowOther rfl _ (by omega), hb.block _ (by omega)]
    exact s9.block k hk n1 n2

set_option maxHeartbeats 400000 in
theorem chunks_any (s : ByteArray) (w : World) : Calls Tryd.prog 15 #[.string s] w fun e w' => e = .returned (.func (.func 31) #[] #[.pointer (some ⟨w.heap.size, 0, none⟩)]) ∧ w' = w.alloc (.cells #[.string s] 9) := by
  go_enter Tryd.func15, Tryd.ntmps15
  go_wp2
  go_ret
  exact ⟨rfl, rfl⟩

set_option maxHeartbeats 1000000 in
set_option maxRecDepth 100000 in
theorem sum_in (s : ByteArray) (hs : s.size ≤ 140737488351232) (ks : List Int) (hks : ks.length = 64) (w : World) (hg : ∀ k, k < 64 → w.cell? ⟨0, k, none⟩ = some (.int .u32 (nth ks k))) (hw0 : 0 < w.heap.size) :
    CallsIn Fence.wide 8 Tryd.prog 5 #[.string s] w fun e w' => e = .returned (.string ⟨(pText (sumS ks (cks s.data.toList)).list 8).toArray⟩) ∧ Below w.heap.size w w' := by
  refine callsIn_of_wp_marks Tryd.func5 rfl trivial ?_ rfl
  simp only [Tryd.ntmps5, List.size_toArray, List.length_cons, List.length_nil, Nat.reduceAdd, Nat.reduceSub, Array.replicate_succ, Array.replicate_zero, List.push_toArray, List.append_toArray, List.nil_append, List.cons_append]
  gi_wp2_with fail
  refine ⟨trivial, ?_⟩
  refine (callsIn_wide.2 (start_any _)).mono ?_
  rintro e w1 ⟨rfl, hb1⟩
  have hz1 := hb1.size
  gi_wp2_with (first | (refine inStoreRow rfl 30 _ _ rfl w1.heap.size (r32 hs0) rfl rfl 30 _ (heap_alloc_new w1 _) i30 rfl (r32_one _) ?_))
  obtain ⟨W2, hW2⟩ : ∃ W2, (w1.alloc (Obj.cells (r32 z8) 30)).setRow w1.heap.size (r32 hs0) = W2 := ⟨_, rfl⟩
  have r2 : W2.heap[w1.heap.size]? = some (.cells (r32 hs0) 30 (0, 0)) := by rw [← hW2]; exact rowSame (heap_alloc_new w1 _) _
  have b2 : Below w.heap.size w W2 := by rw [← hW2]; exact belowRow (hb1.alloc hz1 _) hz1 _
  have z2 : W2.heap.size = w1.heap.size + 1 := by rw [← hW2]; simp
  change Fence.wide.fn 15 ∧ CallsIn Fence.wide 7 Tryd.prog 15 #[Value.string s] ((w1.alloc (Obj.cells (r32 z8) 30)).setRow w1.heap.size (r32 hs0)) _
  rw [hW2]
  clear hW2
  refine ⟨trivial, ?_⟩
  refine (callsIn_wide.2 (chunks_any s W2)).mono ?_
  rintro e W3 ⟨rfl, hW3⟩
  have r3 : W3.heap[w1.heap.size]? = some (.cells (r32 hs0) 30 (0, 0)) := by rw [hW3, Below.heap_alloc _ _ _ (by omega)]; exact r2
  have d3 : W3.heap[W2.heap.size]? = some (.cells #[.string s] 9 (0, 0)) := by rw [hW3]; exact heap_alloc_new W2 _
  have b3 : Below w.heap.size w W3 := by rw [hW3]; exact b2.alloc (by omega) _
  have z3 : W3.heap.size = w1.heap.size + 2 := by rw [hW3]; simp; omega
  have HZ2 : Hid (W2.heap.size = w1.heap.size + 1) := z2
  clear hW3 r2 b2 z2
  gi_wp2
  refine range_in (gf := 31) (lb := #[.pointer (some ⟨W2.heap.size, 0, none⟩)]) rfl (enters_of Tryd.func31 (by kernel_rfl) rfl) ?_
  intro r W4 hr1 hr2 hr3 hr4 hr5 hr6 hW4
  have r4 : W4.heap[w1.heap.size]? = some (.cells (r32 hs0) 30 (0, 0)) := by rw [← hW4, Below.heap_alloc _ _ _ (by simp; omega), Below.heap_alloc _ _ _ (by omega)]; exact r3
  have d4 : W4.heap[W2.heap.size]? = some (.cells #[.string s] 9 (0, 0)) := by rw [← hW4, Below.heap_alloc _ _ _ (by simp; have := HZ2.out; omega), Below.heap_alloc _ _ _ (by have := HZ2.out; omega)]; exact d3
  have b4 : Below w.heap.size w W4 := by rw [← hW4]; exact (b3.alloc (by omega) _).alloc (by simp; omega) _
  have z4 : W4.heap.size = w1.heap.size + 4 := by rw [← hW4]; simp; omega
  have k4 : W4.heap[W3.heap.size]? = some (.deferred (some [])) := by rw [← hW4, Below.heap_alloc _ _ _ (by simp)]; exact heap_alloc_new W3 _
  have l4 : W4.heap[W3.heap.size + 1]? = some (.loop r) := by rw [← hW4]; have := heap_alloc_new (W3.alloc (.deferred (some []))) (.loop r); simpa using this
  clear hW4
  obtain ⟨B0, hB0⟩ : ∃ B0, W3.heap.size = B0 := ⟨_, rfl⟩
  obtain ⟨bd, hbd⟩ : ∃ bd, W2.heap.size = bd := ⟨_, rfl⟩
  have e2 := HZ2.out
  rw [hB0] at z3 k4 l4 ⊢
  rw [hbd] at d4 e2 ⊢
  have u1 : w1.heap.size + 2 ≤ B0 := by omega
  have u2 : B0 ≤ w1.heap.size + 2 := by omega
  have v1 : w1.heap.size + 1 ≤ bd := by omega
  have v2 : bd ≤ w1.heap.size + 1 := by omega
  have v4 : B0 + 2 ≤ W4.heap.size := by omega
  clear d3 r3 b3 HZ2 hB0 hbd z3 e2 z4
  refine (iter_any 7 (by omega) (B0 + 1) bd w1.heap.size (B0 + 2) s hs (fun pre W => W.heap[w1.heap.size]? = some (.cells (r32 (sumS ks pre).list) 30 (0, 0)) ∧ W.heap[B0 + 1]? = some (.loop r) ∧ W.heap[B0]? = some (.deferred (some [])) ∧ Below w.heap.size w W ∧ B0 + 2 ≤ W.heap.size)
    ?ab (by omega) (by omega) (by omega) (by omega) (by omega) ?yl W4 (by omega) d4 ⟨r4, l4, k4, b4, by omega⟩).mono ?fin
  case ab =>
    rintro q A A' ⟨q1, q2, q3, q4, q5⟩ hb
    exact ⟨(hb.block _ (by omega)).trans q1, (hb.block _ (by omega)).trans q2, (hb.block _ (by omega)).trans q3, q4.trans (hb.mono (by omega)), by have := hb.size; omega⟩
  case fin =>
    rintro e W5 ⟨⟨v, rfl⟩, q1, q2, q3, q4, q5⟩
    obtain ⟨W6, hW6⟩ : ∃ W6, W5.putObj (B0 + 1) (Obj.loop { r with state := .exhausted }) = W6 := ⟨_, rfl⟩
    have hel := run_endLoop (P := Tryd.prog) q2 (by rw [hr1]; simp)
    rw [hW6, hr2] at hel
    refine ⟨none, W6, hel, ?_⟩
    clear hel
    have p1 : W6.heap[w1.heap.size]? = some (.cells (r32 (sumS ks (cks s.data.toList)).list) 30 (0, 0)) := by rw [← hW6]; exact (World.putObj_heap_other (by omega)).trans q1
    have p3 : W6.heap[B0]? = some (.deferred (some [])) := by rw [← hW6]; exact (World.putObj_heap_other (by omega)).trans q3
    have p4 : Below w.heap.size w W6 := by rw [← hW6]; exact q4.trans (belowK_b (w := w) (Nat.le_refl _) W5 (B0 + 1) _ _ (by omega) q2 rfl rfl)
    have p5 : B0 + 2 ≤ W6.heap.size := by rw [← hW6]; have : (W5.putObj (B0 + 1) (Obj.loop { r with state := .exhausted })).heap.size = W5.heap.size := (by simp [World.putObj]); omega
    obtain ⟨st, hst⟩ : ∃ st, sumS ks (cks s.data.toList) = st := ⟨_, rfl⟩
    have sok : st.ok := by rw [← hst]; exact sumS_ok _ _
    have HS : Hid (sumS ks (cks s.data.toList) = st) := hst
    rw [hst] at p1
    clear hW6 q1 q2 q3 q4 hst hr4 hr5 hr6 r4 l4 k4 d4 b4
    simp only [List.cons_append, List.nil_append]
    gi_wp2_with (first | (refine inLoadRow rfl 30 _ rfl w1.heap.size rfl 30 (r32 st.list) (0, 0) _ p1 Tryd.underlying30 rfl i30 ?_) | (refine ⟨trivial, ?_⟩; gi_at_call 20; refine (callsIn_wide.2 (text_any st.list rfl (list_ok st sok) _)).mono ?_; rintro e W7 ⟨rfl, hb7⟩))
    have h7 : W7.heap[B0]? = some (.deferred (some [])) := (hb7.block B0 (by omega)).trans p3
    have hz7 := hb7.size
    refine ⟨by simp, .inl ⟨_, _, rfl, run_takeDeferred h7, ?_⟩⟩
    refine ⟨_, results_tmp rfl _ _ _, ?_⟩
    refine ⟨by rw [HS.out]; rfl, ?_⟩
    exact (p4.trans (hb7.mono (by omega))).trans (belowK_b (w := w) (Nat.le_refl _) W7 B0 _ _ (by omega) h7 rfl rfl)
  case yl =>
    rintro pre c W5 ⟨q1, q2, q3, q4, q5⟩
    refine yield_in q2 (by rw [hr3]; rfl) ?_
    rw [hr3, hr4, hr5, hr6]
    gi_wp2_with (first | (refine inStoreRow rfl 36 _ _ rfl W5.heap.size (r8 c.1) rfl rfl 36 _ (heap_alloc_new W5 _) (by rw [r8_size, c.2]; exact i36) (by rw [r8_size, c.2]; rfl) (r8_one _) ?_))
    obtain ⟨W6, hW6⟩ : ∃ W6, (W5.alloc (Obj.cells (r8 zb64) 36)).setRow W5.heap.size (r8 c.1) = W6 := ⟨_, rfl⟩
    have p1 : W6.heap[w1.heap.size]? = some (.cells (r32 (sumS ks pre).list) 30 (0, 0)) := by rw [← hW6, rowOther rfl _ (by omega), Below.heap_alloc _ _ _ (by omega)]; exact q1
    have p2 : W6.heap[B0 + 1]? = some (.loop r) := by rw [← hW6, rowOther rfl _ (by omega), Below.heap_alloc _ _ _ (by omega)]; exact q2
    have p3 : W6.heap[B0]? = some (.deferred (some [])) := by rw [← hW6, rowOther rfl _ (by omega), Below.heap_alloc _ _ _ (by omega)]; exact q3
    have p6 : W6.heap[W5.heap.size]? = some (.cells (r8 c.1) 36 (0, 0)) := by rw [← hW6]; exact rowSame (heap_alloc_new W5 _) _
    have p7 : Below W5.heap.size W5 W6 := by rw [← hW6]; exact belowRow ((Below.refl _ _).alloc (Nat.le_refl _) _) (Nat.le_refl _) _
    have p8 : W6.heap.size = W5.heap.size + 1 := by rw [← hW6]; simp
    change ∃ w₂, Sem.run Tryd.prog (Instr.beginRound (B0 + 1)) ((W5.alloc (Obj.cells (r8 zb64) 36)).setRow W5.heap.size (r8 c.1)) = Result.ok () w₂ ∧ _
    rw [hW6]
    clear hW6
    obtain ⟨W7, hW7⟩ : ∃ W7, W6.putObj (B0 + 1) (Obj.loop { r with state := .busy }) = W7 := ⟨_, rfl⟩
    refine ⟨W7, by rw [run_beginRound p2 hr1, hW7], ?_⟩
    have s1 : W7.heap[w1.heap.size]? = some (.cells (r32 (sumS ks pre).list) 30 (0, 0)) := by rw [← hW7]; exact (World.putObj_heap_other (by omega)).trans p1
    have s2 : W7.heap[B0 + 1]? = some (.loop { r with state := .busy }) := by rw [← hW7]; exact World.putObj_heap_same (by omega)
    have s3 : W7.heap[B0]? = some (.deferred (some [])) := by rw [← hW7]; exact (World.putObj_heap_other (by omega)).trans p3
    have s6 : W7.heap[W5.heap.size]? = some (.cells (r8 c.1) 36 (0, 0)) := by rw [← hW7]; exact (World.putObj_heap_other (by omega)).trans p6
    have s8 : W7.heap.size = W5.heap.size + 1 := by rw [← hW7]; have : (W6.putObj (B0 + 1) (Obj.loop { r with state := .busy })).heap.size = W6.heap.size := (by simp [World.putObj]); omega
    have s9 : Keep w1.heap.size (B0 + 1) W5 W7 := by
      rw [← hW7]
      refine ⟨p7.os, p7.tape, p7.output, by have : (W6.putObj (B0 + 1) (Obj.loop { r with state := .busy })).heap.size = W6.heap.size := (by simp [World.putObj]); omega, fun k hk h1 h2 => ?_⟩
      rw [World.putObj_heap_other (by omega)]
      exact p7.block k hk
    obtain ⟨st, hst⟩ : ∃ st, sumS ks pre = st := ⟨_, rfl⟩
    have sok : st.ok := by rw [← hst]; exact sumS_ok _ _
    have HS : Hid (sumS ks pre = st) := hst
    rw [hst] at s1
    obtain ⟨WD, hWD⟩ : ∃ WD, pWords c.1 16 = WD := ⟨_, rfl⟩
    have C18 : Hid (∀ wx, Calls Tryd.prog 18 #[.agg (r8 c.1)] wx fun e w' => e = .returned (.agg (r32 WD)) ∧ Below wx.heap.size wx w') := fun wx => by rw [← hWD]; exact words_any c.1 c.2 wx
    have hWDl : WD.length = 16 := by rw [← hWD]; exact pWords_len _ _
    have hWDo : ∀ x ∈ WD, 0 ≤ x ∧ x < 4294967296 := by rw [← hWD]; exact pWords_ok _ _
    obtain ⟨SC, hSC⟩ : ∃ SC, pSp WD 48 = SC := ⟨_, rfl⟩
    have C19 : Hid (∀ wx, Calls Tryd.prog 19 #[.agg (r32 WD)] wx fun e w' => e = .returned (.agg (r32 SC)) ∧ Below wx.heap.size wx w') := fun wx => by rw [← hSC]; exact spread_any WD hWDl hWDo wx
    have hSCl : SC.length = 64 := by rw [← hSC]; exact pSp_len WD hWDl 48
    obtain ⟨ST, hST⟩ : ∃ ST, pStir ks SC st 64 = ST := ⟨_, rfl⟩
    have C17 : Hid (∀ wx, (∀ k, k < 64 → wx.cell? ⟨0, k, none⟩ = some (.int .u32 (nth ks k))) → 0 < wx.heap.size → Calls Tryd.prog 17 #[.agg (r32 st.list), .agg (r32 SC)] wx fun e w' => e = .returned (.agg (r32 ST.list)) ∧ Below wx.heap.size wx w') := fun wx hgx hx0 => by rw [← hST]; exact stirred_any st SC hSCl wx ks hks hgx hx0 sok
    have C16 : Hid (∀ wx, Calls Tryd.prog 16 #[.agg (r32 st.list), .agg (r32 ST.list)] wx fun e w' => e = .returned (.agg (r32 (S8.add st ST).list)) ∧ Below wx.heap.size wx w') := fun wx => by rw [← padd_add]; exact plus_any st.list ST.list rfl rfl wx
    have HN : Hid (sumS ks (pre ++ [c]) = S8.add st ST) := by
      show sumS ks (pre ++ [c]) = S8.add st ST
      rw [sumS_snoc, hst, stepC, hWD, hSC, hST]
    obtain ⟨N8, hN8⟩ : ∃ N8, S8.add st ST = N8 := ⟨_, rfl⟩
    rw [hN8] at C16 HN
    have hWK : Below w.heap.size w W7 := by rw [← hW7]; exact (q4.trans (p7.mono (by have := q4.size; omega))).trans (belowK_b (w := w) (Nat.le_refl _) W6 (B0 + 1) _ _ (by omega) p2 rfl rfl)
    have hgW : Hid (∀ k, k < 64 → W7.cell? ⟨0, k, none⟩ = some (.int .u32 (nth ks k))) := fun k hk => (hWK.cell (p := ⟨0, k, none⟩) hw0).trans (hg k hk)
    have HG : Hid (∀ k, k < 64 → w.cell? ⟨0, k, none⟩ = some (.int .u32 (nth ks k))) := hg
    obtain ⟨bc, hbc⟩ : ∃ bc, W5.heap.size = bc := ⟨_, rfl⟩
    rw [hbc] at s6 s8 q5 ⊢
    have s8a : bc + 1 ≤ W7.heap.size := by omega
    have hst8 : st.list.length = 8 := rfl
    have hN88 : N8.list.length = 8 := rfl
    have hc64 := c.2
    have hmx : Tryd.prog.follows .mixedOrders = true := by kernel_rfl
    have S2 : Hid (W7.heap[B0 + 1]? = some (.loop { r with state := .busy })) := s2
    have HR4 : Hid (r.state = .ready ∧ r.pending = none) := ⟨hr1, hr2⟩
    clear hW7 hWD hSC hST hst hN8 hg p1 p2 p3 p6 p7 p8 q1 q2 q3 hr4 hr5 hr6 r4 l4 k4 d4 b4 s2 s8 hr1 hr2 hr3 hWDo hWDl hSCl
    have s1d : W7.drew.heap[w1.heap.size]? = some (.cells (r32 st.list) 30 (0, 0)) := s1
    have s6d : W7.drew.heap[bc]? = some (.cells (r8 c.1) 36 (0, 0)) := s6
    gi_wp2
    have z7 : Hid (w1.heap.size < W7.drew.heap.size) := by show w1.heap.size < W7.heap.size; omega
    have z70 : Hid (0 < W7.drew.heap.size) := by
      show 0 < W7.heap.size
      omega
    gi_region_with_o (first | (refine ⟨trivial, ?_⟩; gi_at_call 18; refine (CallsIn.inRound (B0 + 1) (callsIn_wide.2 (C18.out _))).mono ?_; rintro e w2 ⟨rfl, hb2⟩; have t1 := (hb2.block w1.heap.size z7.out).trans s1; have z2 : Hid (w1.heap.size < w2.heap.size) := Nat.lt_of_lt_of_le z7.out hb2.size; have z20 : Hid (0 < w2.heap.size) := Nat.lt_of_lt_of_le z70.out hb2.size; have g2 : Hid (∀ k, k < 64 → w2.cell? ⟨0, k, none⟩ = some (.int .u32 (nth ks k))) := fun k hk => (hb2.cell (p := ⟨0, k, none⟩) z70.out).trans (hgW.out k hk)) | (refine ⟨trivial, ?_⟩; gi_at_call 19; refine (CallsIn.inRound (B0 + 1) (callsIn_wide.2 (C19.out _))).mono ?_; rintro e w3 ⟨rfl, hb3⟩; have t2 := (hb3.block w1.heap.size z2.out).trans t1; have z3 : Hid (w1.heap.size < w3.heap.size) := Nat.lt_of_lt_of_le z2.out hb3.size; have z30 : Hid (0 < w3.heap.size) := Nat.lt_of_lt_of_le z20.out hb3.size; have g3 : Hid (∀ k, k < 64 → w3.cell? ⟨0, k, none⟩ = some (.int .u32 (nth ks k))) := fun k hk => (hb3.cell (p := ⟨0, k, none⟩) z20.out).trans (g2.out k hk)) | (refine ⟨trivial, ?_⟩; gi_at_call 17; refine (CallsIn.inRound (B0 + 1) (callsIn_wide.2 (C17.out _ g3.out z30.out))).mono ?_; rintro e w4 ⟨rfl, hb4⟩; have t3 := (hb4.block w1.heap.size z3.out).trans t2; have z4 : Hid (w1.heap.size < w4.heap.size) := Nat.lt_of_lt_of_le z3.out hb4.size) | (refine ⟨trivial, ?_⟩; gi_at_call 16; refine (CallsIn.inRound (B0 + 1) (callsIn_wide.2 (C16.out _))).mono ?_; rintro e w5 ⟨rfl, hb5⟩; have t4 := (hb5.block w1.heap.size z4.out).trans t3))
    all_goals
      have hbb : Below W7.heap.size W7 w5 := ((((Below.refl W7.heap.size W7).drew).trans hb2).trans (hb3.mono hb2.size)).trans ((hb4.mono (Nat.le_trans hb2.size hb3.size)).trans (hb5.mono (Nat.le_trans (Nat.le_trans hb2.size hb3.size) hb4.size)))
      have hend := round_end (P := Tryd.prog) (new := r32 N8.list) (new' := r32 (sumS ks (pre ++ [c])).list) (by rw [HN.out]) HR4.out s9 hbb S2.out s3 t4 hWK hz1 (by omega) (by omega)
      exact hend
end Go.Proofs.YtfgjlfdiljlfnaaDoor
