/-
  Rows loaded, stored and copied inside a fence; the chunks of a text.
-/
import Derived.Test.YtfgjlfdiljlfnaaDoorP6
import Derived.RangeFuncNested
import Derived.RangeFuncBound
import Derived.RangeFuncCalls
import Derived.RangeFuncLeaves
import Derived.Shelf.Abstract
import Derived.Shelf.RegionOpen
import Derived.OwnWalkIn
import Derived.TacticsInMore
import Derived.LoopNIn
import Derived.LoopIn
import Derived.Lib.BufferWrite
namespace Go.Proofs.YtfgjlfdiljlfnaaDoor
open Go.RowKit Go.Shelf
set_option linter.unusedVariables false
attribute [local go_sem] Oper.semAt_some

theorem inLoadRow {F : Fence} {n : Nat} {P : Program} {ops : Array Oper} {rest : List Oper} {o : Oper} {a : Act} {w : World} {Q : Exit → Act → World → Prop} (hgd : o.guard = none) (ty : TypeId) (x : Operand) (ho : o.op = .load ty x)
    (g : Nat) (hx : a.eval x = .pointer (some ⟨g, 0, none⟩)) (t : TypeId) (cs : Array Value) (fr : Nat × Nat) (d : TypeDesc) (hg : w.heap[g]? = some (.cells cs t fr))
    (hu : P.underlying ty = some d) (hd : (match d with | .struct _ | .array _ _ => true | _ => false) = true) (hi : (P.info? ty).map (·.size) = some cs.size)
    (h : wpListIn F n P ops Q rest (a.put o.dst (.agg cs)) w) : wpListIn F n P ops Q (o :: rest) a w := by
  refine wpListIn_plain hgd fun K hK => ?_
  unfold Oper.wpIn
  refine ⟨by simp [Oper.about, ho], ?_⟩
  rw [Oper.semAt_plain F _ _ (by rw [ho]; intro c hc; cases hc)]
  unfold execOp
  simp only [ho, hx, Instr.loadAt, Instr.sureAddr, Sem.run_bind, Sem.run_pure, Result.andThen_ok, run_loadVar_row w g t ty cs fr d hg hu hd hi]
  exact hK _ _ h
theorem inStoreRow {F : Fence} {n : Nat} {P : Program} {ops : Array Oper} {rest : List Oper} {o : Oper} {a : Act} {w : World} {Q : Exit → Act → World → Prop} (hgd : o.guard = none) (ty : TypeId) (x y : Operand) (ho : o.op = .store ty x y)
    (g : Nat) (cells : Array Value) (hx : a.eval x = .pointer (some ⟨g, 0, none⟩)) (hy : a.eval y = .agg cells)
    (t : TypeId) (old : Array Value) (hg : w.heap[g]? = some (.cells old t (0, 0))) (hi : (P.info? ty).map (·.size) = some cells.size)
    (hold : old.size = cells.size) (h1 : cells.all (·.oneCell') = true)
    (h : wpListIn F n P ops Q rest (a.put o.dst undef) (w.setRow g cells)) : wpListIn F n P ops Q (o :: rest) a w := by
  refine wpListIn_plain hgd fun K hK => ?_
  unfold Oper.wpIn
  refine ⟨by simp [Oper.about, ho], ?_⟩
  rw [Oper.semAt_plain F _ _ (by rw [ho]; intro c hc; cases hc)]
  unfold execOp
  simp only [ho, hx, hy, Instr.storeAt, Instr.sureAddr, Sem.run_bind, Sem.run_pure, Result.andThen_ok, run_storeVar_row w g t ty old cells hg hi hold h1]
  exact hK _ _ h
theorem run_copy_short {P : Program} (w : World) (dT sT ty elem : TypeId) (g : Nat) (s : ByteArray) (cur : List UInt8) (hcur : cur.length = 64) (t : TypeId)
    (hu : P.underlying dT = some (.slice elem)) (hs : (P.info? elem).map (·.size) = some 1) (hg : w.heap[g]? = some (.cells (r8 cur) t (0, 0))) (hle : s.size ≤ 64) :
    (Builtin.copy_ #[dT, sT] ty #[.slice (some ⟨g, 0, none⟩) 64 64, .string s]).run P w =
      .ok (.int .i64 (s.size : Int)) (w.setRow g (r8 (s.data.toList ++ cur.drop s.size))) := by
  rw [Lib.run_copy_row_string w dT sT ty elem g 0 64 64 s (r8 cur) t hu hs hg hle (by rw [r8_size, hcur]; omega)]
  have e : ((r8 cur).toList.take 0 ++ Lib.byteCells s.data.toList ++ (r8 cur).toList.drop (0 + s.size)).toArray = r8 (s.data.toList ++ cur.drop s.size) := by
    simp [r8, Lib.byteCells]
  rw [e]
  rfl
theorem run_copy_full {P : Program} (w : World) (dT sT ty elem : TypeId) (g : Nat) (s : ByteArray) (cur : List UInt8) (hcur : cur.length = 64) (t : TypeId)
    (hu : P.underlying dT = some (.slice elem)) (hs : (P.info? elem).map (·.size) = some 1) (hg : w.heap[g]? = some (.cells (r8 cur) t (0, 0))) (hge : 64 ≤ s.size) :
    (Builtin.copy_ #[dT, sT] ty #[.slice (some ⟨g, 0, none⟩) 64 64, .string s]).run P w =
      .ok (.int .i64 64) (w.setRow g (r8 (s.data.toList.take 64))) := by
  have hmin : Nat.min s.size 64 = 64 := Nat.min_eq_right hge
  have hlen : (s.data.toList.take 64).length = 64 := by
    rw [List.length_take]
    have : s.data.toList.length = s.size := by simp
    omega
  have hst := run_storeCells_at P g 0 t ((s.data.toList.take 64).map (fun b => Value.int .u8 (b.toNat : Int))) 0 (r8 cur) w hg (by rw [List.length_map, hlen, r8_size, hcur]; omega) (by
    intro v hv
    obtain ⟨x, _, rfl⟩ := List.mem_map.1 hv
    rfl)
  have e : ((r8 cur).toList.take (0 + 0) ++ (s.data.toList.take 64).map (fun b => Value.int .u8 (b.toNat : Int)) ++ (r8 cur).toList.drop (0 + 0 + ((s.data.toList.take 64).map (fun b => Value.int .u8 (b.toNat : Int))).length)).toArray = r8 (s.data.toList.take 64) := by
    rw [List.length_map, hlen]
    have : (r8 cur).toList.length = 64 := by rw [Array.length_toList, r8_size, hcur]
    rw [List.drop_of_length_le (by omega)]
    simp [r8]
  rw [e] at hst
  cases hq : P.info? elem with
  | none => simp [hq] at hs
  | some i =>
    simp [Builtin.copy_, run_underlying hu, Builtin.lenOf, Builtin.firstCells, sizeOf, typeInfo, hq, hmin]
    rw [← List.map_take, hst]
    rfl
end Go.Proofs.YtfgjlfdiljlfnaaDoor
