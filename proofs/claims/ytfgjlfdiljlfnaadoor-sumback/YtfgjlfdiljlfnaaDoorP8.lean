/-
  The chunks of a text: the iterator's walk.
-/
import Derived.Test.YtfgjlfdiljlfnaaDoorP7
namespace Go.Proofs.YtfgjlfdiljlfnaaDoor
open Go.RowKit Go.Shelf
set_option linter.unusedVariables false
attribute [local go_sem] Oper.semAt_some

theorem inCopy {F : Fence} {n : Nat} {P : Program} {ops : Array Oper} {rest : List Oper} {o : Oper} {a : Act} {w : World} {Q : Exit → Act → World → Prop} (hgd : o.guard = none) (d s : Operand) (dT sT : TypeId)
    (ho : o.op = .call { callee := .builtin .copy, args := #[d, s], argTypes := #[dT, sT] }) (vd vs r : Value) (w' : World) (hd : a.eval d = vd) (hs : a.eval s = vs)
    (hrun : (Builtin.copy_ #[dT, sT] o.type #[vd, vs]).run P w = .ok r w')
    (h : wpListIn F n P ops Q rest (a.put o.dst r) w') : wpListIn F n P ops Q (o :: rest) a w := by
  refine wpListIn_plain hgd fun K hK => ?_
  unfold Oper.wpIn
  refine ⟨by simp [Oper.about, ho, resolve, Target.leads, Sem.run_pure], ?_⟩
  rw [Oper.semAt_plain F _ _ (by rw [ho]; intro c hc; cases hc)]
  simp [execOp, ho, resolve, invoke, builtin, hd, hs, hrun, Result.andThen]
  exact hK _ _ h
/-- what a copy into row g leaves. -/
structure Wrote (g : Nat) (t : Nat) (l : List UInt8) (w w' : World) : Prop where
  row : w'.heap[g]? = some (.cells (r8 l) t (0, 0))
  others : ∀ k, k ≠ g → w'.heap[k]? = w.heap[k]?
  size : w'.heap.size = w.heap.size
  below : ∀ B A, Below B A w → B ≤ g → Below B A w'
theorem wrote_row {w : World} {g t : Nat} {c : Array Value} (h : w.heap[g]? = some (.cells c t (0, 0))) (l : List UInt8) : Wrote g t l w (w.setRow g (r8 l)) :=
  ⟨rowSame h _, fun k hk => rowOther rfl _ (fun e => hk e.symm), by simp, fun B A hb hg => belowRow hb hg _⟩
theorem inCopyFull {F : Fence} {n : Nat} {ops : Array Oper} {rest : List Oper} {o : Oper} {a : Act} {w : World} {Q : Exit → Act → World → Prop} (hgd : o.guard = none) (d s : Operand)
    (ho : o.op = .call { callee := .builtin .copy, args := #[d, s], argTypes := #[51, 9] }) (g : Nat) (x : ByteArray) (hd : a.eval d = .slice (some ⟨g, 0, none⟩) 64 64) (hs : a.eval s = .string x)
    (hg : w.heap[g]? = some (.cells (r8 zb64) 36 (0, 0))) (hge : 64 ≤ x.size)
    (h : ∀ w', Wrote g 36 (x.data.toList.take 64) w w' → wpListIn F n Tryd.prog ops Q rest (a.put o.dst (.int .i64 64)) w') : wpListIn F n Tryd.prog ops Q (o :: rest) a w :=
  inCopy hgd d s 51 9 ho _ _ _ _ hd hs (run_copy_full w 51 9 o.type 5 g x zb64 rfl 36 Tryd.underlying51 (by kernel_rfl) hg hge) (h _ (wrote_row hg _))
/-- fewer than 64 bytes, and zeros. -/
def short (r : List UInt8) : List UInt8 := r ++ zb64.drop r.length
theorem inCopyShort {F : Fence} {n : Nat} {ops : Array Oper} {rest : List Oper} {o : Oper} {a : Act} {w : World} {Q : Exit → Act → World → Prop} (hgd : o.guard = none) (d s : Operand)
    (ho : o.op = .call { callee := .builtin .copy, args := #[d, s], argTypes := #[51, 9] }) (g : Nat) (x : ByteArray) (hd : a.eval d = .slice (some ⟨g, 0, none⟩) 64 64) (hs : a.eval s = .string x)
    (hg : w.heap[g]? = some (.cells (r8 zb64) 36 (0, 0))) (hle : x.size ≤ 64)
    (h : ∀ w', Wrote g 36 (short x.data.toList) w w' → wpListIn F n Tryd.prog ops Q rest (a.put o.dst (.int .i64 (x.size : Int))) w') : wpListIn F n Tryd.prog ops Q (o :: rest) a w :=
  inCopy hgd d s 51 9 ho _ _ _ _ hd hs (run_copy_short w 51 9 o.type 5 g x zb64 rfl 36 Tryd.underlying51 (by kernel_rfl) hg hle) (h _ (by have := wrote_row hg (x.data.toList ++ zb64.drop x.size); unfold short; rw [show x.data.toList.length = x.size from by simp]; exact this))

/-- 64 bytes. -/
abbrev CK := { c : List UInt8 // c.length = 64 }
/-- what a round keeps: all but the caller's own row and the loop's record. -/
structure Keep (bh l : Nat) (A B : World) : Prop where
  os : B.os = A.os
  tape : B.tape = A.tape
  output : B.output = A.output
  size : A.heap.size ≤ B.heap.size
  block : ∀ k, k < A.heap.size → k ≠ bh → k ≠ l → B.heap[k]? = A.heap[k]?

theorem len64 (s : List UInt8) (h : 64 ≤ s.length) : (s.take 64).length = 64 := by simp; omega
theorem lenS (x : List UInt8) (h : x.length ≤ 64) : (short x).length = 64 := by
  simp [short, zb64]; omega

/-- a list as 64 bytes. -/
def mk64 (l : List UInt8) : CK := ⟨(l ++ zb64).take 64, by simp [zb64]⟩
theorem mk64_of (l : List UInt8) (h : l.length = 64) : (mk64 l).1 = l := by
  unfold mk64
  simp [h]
/-- the i-th 64 bytes. -/
def blk (d : List UInt8) (i : Nat) : CK := mk64 ((d.drop (64 * i)).take 64)
def blks (d : List UInt8) (i : Nat) : List CK := (List.range i).map (blk d)
theorem blks_succ (d : List UInt8) (i : Nat) : blks d (i + 1) = blks d i ++ [blk d i] := by simp [blks, List.range_succ]
/-- what is left over, with its mark. -/
def pad (r : List UInt8) : List UInt8 := (short r).set r.length 128
theorem pad_len (r : List UInt8) (h : r.length ≤ 64) : (pad r).length = 64 := by rw [pad, List.length_set]; exact lenS r h
theorem setPad {w : World} {g t : Nat} {x : ByteArray} (h : w.heap[g]? = some (.cells (r8 (short x.data.toList)) t (0, 0))) : (w.setCell ⟨g, x.size, none⟩ (.int .u8 128)).heap[g]? = some (.cells (r8 (pad x.data.toList)) t (0, 0)) := by
  have := set8 h x.size 128
  unfold pad
  rw [show x.data.toList.length = x.size from by simp]
  exact this
def fin (r : List UInt8) (n : Nat) : List CK := if 56 ≤ r.length then [mk64 (pad r), mk64 (pLen zb64 (8 * (n : Int)) 8)] else [mk64 (pLen (pad r) (8 * (n : Int)) 8)]
def cks (d : List UInt8) : List CK := blks d (d.length / 64) ++ fin (d.drop (64 * (d.length / 64))) d.length
def sLen : Value → Nat
  | .string x => x.size
  | _ => 0

theorem set128 {w : World} {g t : Nat} {l : List UInt8} (h : w.heap[g]? = some (.cells (r8 l) t (0, 0))) (i : Nat) : (w.setCell ⟨g, i, none⟩ (.int .u8 128)).heap[g]? = some (.cells (r8 (l.set i 128)) t (0, 0)) := set8 h i 128
theorem ck_ext {a b : CK} (h : a.1 = b.1) : a = b := Subtype.ext h

set_option maxHeartbeats 4000000 in
set_option maxRecDepth 100000 in
theorem iter_any (n : Nat) (hn : 1 ≤ n) (l bd bh B : Nat) (s : ByteArray) (hs : s.size ≤ 140737488351232) (J : List CK → World → Prop)
    (hJ : ∀ q A A', J q A → Below B A A' → J q A') (h1 : bd < B) (h2 : bd ≠ bh) (h3 : bd ≠ l) (h4 : bh < B) (h5 : l < B)
    (hY : ∀ pre x W1, J pre W1 → YieldAt Fence.wide (n - 1) Tryd.prog l #[.agg (r8 x.1)] W1 fun e W' => e = .returned (.bool true) ∧ J (pre ++ [x]) W' ∧ Keep bh l W1 W')
    (W : World) (hB : B ≤ W.heap.size) (hd : W.heap[bd]? = some (.cells #[.string s] 9 (0, 0))) (h0 : J [] W) :
    CallsIn Fence.wide n Tryd.prog 31 #[.func (.yield l) #[] #[], .pointer (some ⟨bd, 0, none⟩)] W fun e W' => (∃ v, e = .returned v) ∧ J (cks s.data.toList) W' := by
  have c0 : W.cell? ⟨bd, 0, none⟩ = some (.string s) := by rw [cell_of_row _ _ _ _ _ _ hd]; rfl
  refine callsIn_of_wp Tryd.func31 rfl trivial ?_ rfl
  simp only [Tryd.ntmps31, List.size_toArray, List.length_cons, List.length_nil, Nat.reduceAdd, Nat.reduceSub, Array.replicate_succ, Array.replicate_zero, List.push_toArray, List.append_toArray, List.nil_append, List.cons_append]
  gi_wp2
  gi_loopw [3] (fun v wr => ∃ (i : Nat) (x : ByteArray), v = .string x ∧ x.data.toList = s.data.toList.drop (64 * i) ∧ 64 * i ≤ s.size ∧ J (blks s.data.toList i) wr ∧ wr.heap[bd]? = some (.cells #[.string s] 9 (0, 0)) ∧ B ≤ wr.heap.size) (fun v _ => sLen v)
  case atStart => exact ⟨0, s, rfl, by simp, by omega, h0, hd, hB⟩
  case round =>
    obtain ⟨i, x, rfl, hx, hi, hj, hda, hBr⟩ := hrel
    clear h0 hd hB c0
    have hxl : x.size + 64 * i = s.size := by
      have := congrArg List.length hx
      simp at this
      have e1 : x.size = x.data.size := rfl
      have e2 : s.size = s.data.size := rfl
      omega
    have HX : Hid (x.data.toList = s.data.toList.drop (64 * i)) := hx
    have HL : Hid (x.size + 64 * i = s.size) := hxl
    clear hx
    have HY : Hid (∀ pre x W1, J pre W1 → YieldAt Fence.wide (n - 1) Tryd.prog l #[.agg (r8 x.1)] W1 fun e W' => e = .returned (.bool true) ∧ J (pre ++ [x]) W' ∧ Keep bh l W1 W') := hY
    have HJ : Hid (∀ q A A', J q A → Below B A A' → J q A') := hJ
    clear hY hJ
    have hxs : x.size ≤ 140737488351232 := by omega
    have HD : Hid (wr.heap[bd]? = some (.cells #[.string s] 9 (0, 0))) := hda
    clear hda
    by_cases hge : 64 ≤ x.size
    · have hge' : (64 : Int) ≤ (x.size : Int) := by omega
      gi_wp2_with (first | (refine inCopyFull rfl _ _ rfl wr.heap.size x rfl rfl (heap_alloc_new wr _) hge ?_; intro w1 hw1; obtain ⟨fn, tmps, assign, body, hy, hR⟩ := HY.out (blks s.data.toList i) ⟨x.data.toList.take 64, len64 _ (by simpa using hge)⟩ w1 (HJ.out _ _ _ hj (hw1.below _ _ ((Below.refl _ _).alloc hBr _) hBr))) | (refine inLoadRow rfl 36 _ rfl wr.heap.size rfl 36 _ (0, 0) _ hw1.row Tryd.underlying36 rfl (by rw [r8_size, len64 _ (by simpa using hge)]; exact i36) ?_))
      refine hR.mono ?_
      rintro e W3 ⟨rfl, hJ3, hk3⟩
      have hd3 : W3.heap[bd]? = some (.cells #[.string s] 9 (0, 0)) := by
        rw [hk3.block bd (by rw [hw1.size]; simp; omega) h2 h3, hw1.others bd (by omega), Below.heap_alloc _ _ _ (by omega)]
        exact HD.out
      have hB3 : B ≤ W3.heap.size := by have := hk3.size; rw [hw1.size] at this; simp at this; omega
      clear hR hy hw1 hk3
      gi_wp2
      go_roundw
      case rel =>
        refine ⟨i + 1, x.extract 64 x.size, rfl, ?_, by have := HL.out; omega, ?_, hd3, hB3⟩
        · rw [ByteArray.data_extract]
          have e1 : x.size = x.data.toList.length := by simp
          simp only [Array.toList_extract, List.extract_eq_take_drop]
          rw [HX.out, List.drop_drop, List.take_of_length_le (by rw [List.length_drop]; have : s.data.toList.length = s.size := by simp
                                                                 have := HL.out; omega)]
          congr 1
        · rw [blks_succ]
          have e : blk s.data.toList i = ⟨x.data.toList.take 64, len64 _ (by simpa using hge)⟩ := by
            apply ck_ext
            show (mk64 _).1 = _
            rw [← HX.out]
            exact mk64_of _ (len64 _ (by simpa using hge))
          rw [e]
          exact hJ3
      case measure =>
        simp [sLen]
        omega
    · have hlt : (x.size : Int) < 64 := by omega
      have hi0 : (0 : Int) ≤ (x.size : Int) := by omega
      have hbdlt : bd < wr.heap.size := by omega
      have hq : s.data.toList.length / 64 = i := by
        have : s.data.toList.length = s.size := by simp
        omega
      have hsl : s.data.toList.length = s.size := by simp
      by_cases h56 : 56 ≤ x.size
      · have h56' : (56 : Int) ≤ (x.size : Int) := by omega
        have HF : Hid (cks s.data.toList = blks s.data.toList i ++ [mk64 (pad x.data.toList)] ++ [mk64 (pLen zb64 (8 * (s.size : Int)) 8)]) := by
          show cks s.data.toList = _
          unfold cks fin
          rw [hq, ← HX.out, if_pos (by simpa using h56), hsl]
          simp
        clear hq hsl hxl
        have hxl2 : x.data.toList.length ≤ 64 := by have : x.data.toList.length = x.size := by simp
                                                    omega
        have hlt64 : x.size < (short x.data.toList).length := by rw [lenS _ hxl2]; omega
        have HPL : Hid ((pad x.data.toList).length = 64) := pad_len _ hxl2
        have HPI : Hid ((Tryd.prog.info? 36).map (·.size) = some (r8 (pad x.data.toList)).size) := by
          show (Tryd.prog.info? 36).map (·.size) = some (r8 (pad x.data.toList)).size
          rw [r8_size, HPL.out]; exact i36
        clear hxl2
        gi_wp2_with (first | (refine inCopyShort rfl _ _ rfl wr.heap.size x rfl rfl (heap_alloc_new wr _) (by omega) ?_; intro w1 hw1; have cc := cell8 hw1.row x.size hlt64; have ff := frozen_of_row _ _ x.size _ _ hw1.row; have cd : w1.cell? ⟨bd, 0, none⟩ = some (.string s) := (by rw [cell_of_row _ _ _ _ _ _ ((hw1.others bd (by omega)).trans ((Below.heap_alloc _ _ _ hbdlt).trans HD.out))]; rfl); obtain ⟨fn, tmps, assign, body, hy, hR⟩ := HY.out (blks s.data.toList i) ⟨pad x.data.toList, HPL.out⟩ (w1.setCell ⟨wr.heap.size, x.size, none⟩ (.int .u8 128)) (HJ.out _ _ _ hj ((hw1.below _ _ ((Below.refl _ _).alloc hBr _) hBr).setCell (p := ⟨wr.heap.size, x.size, none⟩) hBr _))) | (refine inLoadRow rfl 36 _ rfl wr.heap.size rfl 36 (r8 (pad x.data.toList)) (0, 0) _ (setPad hw1.row) Tryd.underlying36 rfl HPI.out ?_))
        refine hR.mono ?_
        rintro e W3 ⟨rfl, hJ3, hk3⟩
        have hz1 : (w1.setCell ⟨wr.heap.size, x.size, none⟩ (.int .u8 128)).heap.size = wr.heap.size + 1 := by rw [World.size_setCell, hw1.size]; simp
        have hrow3 : W3.heap[wr.heap.size]? = some (.cells (r8 (pad x.data.toList)) 36 (0, 0)) := by
          rw [hk3.block wr.heap.size (by rw [hz1]; omega) (by omega) (by omega)]
          exact setPad hw1.row
        have hd3 : W3.heap[bd]? = some (.cells #[.string s] 9 (0, 0)) := by
          rw [hk3.block bd (by rw [hz1]; omega) h2 h3, heap_setCell_other _ _ _ _ (by simp; omega), hw1.others bd (by omega), Below.heap_alloc _ _ _ (by omega)]
          exact HD.out
        have hB3 : wr.heap.size < W3.heap.size := by have := hk3.size; rw [hz1] at this; omega
        have cd3 : (W3.setRow wr.heap.size (r8 zb64)).cell? ⟨bd, 0, none⟩ = some (.string s) := by rw [cell_of_row _ _ _ _ _ _ (rowOther hd3 _ (by omega))]; rfl
        have hrow4 : (W3.setRow wr.heap.size (r8 zb64)).heap[wr.heap.size]? = some (.cells (r8 zb64) 36 (0, 0)) := rowSame hrow3 _
        have hz4 : (W3.setRow wr.heap.size (r8 zb64)).heap.size = W3.heap.size := by simp
        have hbw4 : Below B W3 (W3.setRow wr.heap.size (r8 zb64)) := belowRow (Below.refl _ _) hBr _
        clear hR hy cc ff cd hk3 hz1 hd3
        obtain ⟨W4, hW4⟩ : ∃ W4, W3.setRow wr.heap.size (r8 zb64) = W4 := ⟨_, rfl⟩
        rw [hW4] at cd3 hrow4 hz4 hbw4
        have HW4 : Hid (W3.setRow wr.heap.size (r8 zb64) = W4) := hW4
        have HR3 : Hid (W3.heap[wr.heap.size]? = some (.cells (r8 (pad x.data.toList)) 36 (0, 0))) := hrow3
        have HR4 : Hid (W4.heap[wr.heap.size]? = some (.cells (r8 zb64) 36 (0, 0))) := hrow4
        have hsz4 : W3.heap.size ≤ W4.heap.size := by omega
        clear hW4 hrow3 hrow4 hz4
        gi_wp2_with (first | (refine inStoreRow rfl 36 _ _ rfl wr.heap.size (r8 zb64) rfl rfl 36 _ HR3.out i36 (by rw [r8_size, HPL.out]; rfl) (r8_one _) ?_; rw [HW4.out]) | (refine inLoadRow rfl 36 _ rfl wr.heap.size rfl 36 (r8 zb64) (0, 0) _ HR4.out Tryd.underlying36 rfl i36 ?_))
        refine ⟨trivial, ?_⟩
        refine (callsIn_wide.2 (withLength_any zb64 rfl _ (by omega) (by omega) _)).mono ?_
        rintro e w2 ⟨rfl, hb2⟩
        obtain ⟨fn, tmps, assign, body, hy, hR⟩ := HY.out _ (mk64 (pLen zb64 (8 * (s.size : Int)) 8)) w2 (HJ.out _ _ _ hJ3 (hbw4.trans (hb2.mono (by omega))))
        rw [mk64_of _ (by rw [pLen_len]; rfl)] at hy
        gi_wp2
        refine hR.mono ?_
        rintro e W5 ⟨rfl, hJ5, hk5⟩
        gi_wp2
        go_end0
        refine ⟨⟨_, rfl⟩, ?_⟩
        rw [HF.out]
        have e5 : mk64 (pad x.data.toList) = ⟨pad x.data.toList, HPL.out⟩ := ck_ext (mk64_of _ HPL.out)
        rw [e5]
        exact hJ5
      · have h56' : (x.size : Int) < 56 := by omega
        have HF : Hid (cks s.data.toList = blks s.data.toList i ++ [mk64 (pLen (pad x.data.toList) (8 * (s.size : Int)) 8)]) := by
          show cks s.data.toList = _
          unfold cks fin
          rw [hq, ← HX.out, if_neg (by simpa using h56), hsl]
        clear hq hsl hxl
        have hxl2 : x.data.toList.length ≤ 64 := by have : x.data.toList.length = x.size := by simp
                                                    omega
        have hlt64 : x.size < (short x.data.toList).length := by rw [lenS _ hxl2]; omega
        have HPL : Hid ((pad x.data.toList).length = 64) := pad_len _ hxl2
        have HPI : Hid ((Tryd.prog.info? 36).map (·.size) = some (r8 (pad x.data.toList)).size) := by
          show (Tryd.prog.info? 36).map (·.size) = some (r8 (pad x.data.toList)).size
          rw [r8_size, HPL.out]; exact i36
        clear hxl2
        gi_wp2_with (first | (refine inCopyShort rfl _ _ rfl wr.heap.size x rfl rfl (heap_alloc_new wr _) (by omega) ?_; intro w1 hw1; have cc := cell8 hw1.row x.size hlt64; have ff := frozen_of_row _ _ x.size _ _ hw1.row; have cd : w1.cell? ⟨bd, 0, none⟩ = some (.string s) := (by rw [cell_of_row _ _ _ _ _ _ ((hw1.others bd (by omega)).trans ((Below.heap_alloc _ _ _ hbdlt).trans HD.out))]; rfl)) | (refine inLoadRow rfl 36 _ rfl wr.heap.size rfl 36 (r8 (pad x.data.toList)) (0, 0) _ (setPad hw1.row) Tryd.underlying36 rfl HPI.out ?_))
        refine ⟨trivial, ?_⟩
        refine (callsIn_wide.2 (withLength_any _ HPL.out _ (by omega) (by omega) _)).mono ?_
        rintro e w2 ⟨rfl, hb2⟩
        have hbw : Below B wr w2 := (((hw1.below _ _ ((Below.refl _ _).alloc hBr _) hBr).setCell (p := ⟨wr.heap.size, x.size, none⟩) hBr _)).trans (hb2.mono (by simp; rw [hw1.size]; simp; omega))
        obtain ⟨fn, tmps, assign, body, hy, hR⟩ := HY.out (blks s.data.toList i) (mk64 (pLen (pad x.data.toList) (8 * (s.size : Int)) 8)) w2 (HJ.out _ _ _ hj hbw)
        rw [mk64_of _ (by rw [pLen_len]; exact HPL.out)] at hy
        gi_wp2
        refine hR.mono ?_
        rintro e W3 ⟨rfl, hJ3, hk3⟩
        gi_wp2
        go_end0
        exact ⟨⟨_, rfl⟩, by rw [HF.out]; exact hJ3⟩
end Go.Proofs.YtfgjlfdiljlfnaaDoor
