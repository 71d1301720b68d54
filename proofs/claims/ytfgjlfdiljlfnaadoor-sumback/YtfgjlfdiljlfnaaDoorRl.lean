/-
  Whole rows loaded and stored in a region that draws its order, inside a fence: rules at the level of the operation.
-/
import Derived.Test.YtfgjlfdiljlfnaaDoorP7
namespace Go.Proofs.YtfgjlfdiljlfnaaDoor
open Go.RowKit Go.Shelf
set_option linter.unusedVariables false

/-- the operation as it stands, out of sight. -/
def oldIn (F : Fence) (n : Nat) (P : Program) (o : Oper) (a : Act) (w : World) (K : Act → World → Prop) (Q : Exit → Act → World → Prop) : Prop := Oper.wpIn F n P o a w K Q
/-- what a load of a whole row comes to. -/
def ldRow (m : Nat) (v : Value) (w : World) (good : Array Value → Prop) (bad : Prop) : Prop :=
  match v with
  | .pointer (some ⟨g, 0, none⟩) =>
    match w.heap[g]? with
    | some (.cells cs _ _) => if cs.size = m then good cs else bad
    | _ => bad
  | _ => bad
def allOne (cs : Array Value) : Bool := cs.all (·.oneCell')
theorem allOne_r32 (l : List Int) : allOne (r32 l) = true := r32_one l
def stRow (m : Nat) (v u : Value) (w : World) (good : World → Prop) (bad : Prop) : Prop :=
  match v, u with
  | .pointer (some ⟨g, 0, none⟩), .agg cs =>
    match w.heap[g]? with
    | some (.cells old _ (0, 0)) => if old.size = m ∧ cs.size = m ∧ allOne cs = true then good (w.setRow g cs) else bad
    | _ => bad
  | _, _ => bad
theorem ldRow_ok {m g : Nat} {w : World} {cs : Array Value} {t : Nat} {fr : Nat × Nat} {good : Array Value → Prop} {bad : Prop} (h : w.heap[g]? = some (.cells cs t fr)) (hs : cs.size = m) (hk : good cs) : ldRow m (.pointer (some ⟨g, 0, none⟩)) w good bad := by
  unfold ldRow
  simp [h, hs, hk]
theorem stRow_ok {m g : Nat} {w : World} {cs old : Array Value} {t : Nat} {good : World → Prop} {bad : Prop} (h : w.heap[g]? = some (.cells old t (0, 0))) (ho : old.size = m) (hs : cs.size = m) (h1 : allOne cs = true) (hk : good (w.setRow g cs)) : stRow m (.pointer (some ⟨g, 0, none⟩)) (.agg cs) w good bad := by
  unfold stRow
  simp only [h]
  rw [if_pos ⟨ho, hs, h1⟩]
  exact hk
theorem ldRow_ptr (m g : Nat) (w : World) (good : Array Value → Prop) (bad : Prop) : ldRow m (.pointer (some ⟨g, 0, none⟩)) w good bad = (match w.heap[g]? with
    | some (.cells cs _ _) => if cs.size = m then good cs else bad
    | _ => bad) := rfl
theorem stRow_ptr (m g : Nat) (cs : Array Value) (w : World) (good : World → Prop) (bad : Prop) : stRow m (.pointer (some ⟨g, 0, none⟩)) (.agg cs) w good bad = (match w.heap[g]? with
    | some (.cells old _ (0, 0)) => if old.size = m ∧ cs.size = m ∧ allOne cs = true then good (w.setRow g cs) else bad
    | _ => bad) := rfl
theorem inAtZero {F : Fence} {n : Nat} {P : Program} {o : Oper} {l : List Oper} {h : 0 < (o :: l).toArray.size} {a : Act} {w : World} {K : Act → World → Prop} {Q : Exit → Act → World → Prop} : Oper.wpIn F n P ((o :: l).toArray[0]'h) a w K Q = Oper.wpIn F n P o a w K Q := rfl
theorem inAtSucc {F : Fence} {n : Nat} {P : Program} {o : Oper} {l : List Oper} {i : Nat} {h : i + 1 < (o :: l).toArray.size} {a : Act} {w : World} {K : Act → World → Prop} {Q : Exit → Act → World → Prop} : Oper.wpIn F n P ((o :: l).toArray[i + 1]'h) a w K Q = Oper.wpIn F n P (l.toArray[i]'(by simpa using h)) a w K Q := rfl
theorem loadEq {F : Fence} {n : Nat} {P : Program} {t k e m : Nat} (hu : P.underlying t = some (.array k e)) (hi : (P.info? t).map (·.size) = some m) {d : Option Tmp} {x : Operand} {ty : Nat} {p : String} {af : Array Edge} {a : Act} {w : World} {K : Act → World → Prop} {Q : Exit → Act → World → Prop} :
    Oper.wpIn F n P { dst := d, op := .load t x, type := ty, pos := p, after := af, guard := none } a w K Q =
    ldRow m (a.eval x) w (fun cs => K (a.put d (.agg cs)) w) (oldIn F n P { dst := d, op := .load t x, type := ty, pos := p, after := af, guard := none } a w K Q) := by
  unfold ldRow
  split
  · rename_i g hx
    split
    · rename_i cs t' fr hg
      split
      · rename_i hs
        have hab : (({ dst := d, op := .load t x, type := ty, pos := p, after := af, guard := none } : Oper)).about P w a.eval = none := by simp [Oper.about]
        unfold Oper.wpIn
        rw [Oper.semAt_plain F _ _ (by intro c hc; cases hc)]
        unfold execOp
        simp only [hx, Instr.loadAt, Instr.sureAddr, Sem.run_bind, Sem.run_pure, Result.andThen_ok, run_loadVar_row w g t' t cs fr _ hg hu rfl (by rw [hs]; exact hi)]
        exact propext ⟨fun h => h.2, fun h => ⟨fun f hf => (by rw [hab] at hf; cases hf), h⟩⟩
      · rfl
    · rfl
  · rfl
theorem storeEq {F : Fence} {n : Nat} {P : Program} {t m : Nat} (hi : (P.info? t).map (·.size) = some m) {d : Option Tmp} {x y : Operand} {ty : Nat} {p : String} {af : Array Edge} {a : Act} {w : World} {K : Act → World → Prop} {Q : Exit → Act → World → Prop} :
    Oper.wpIn F n P { dst := d, op := .store t x y, type := ty, pos := p, after := af, guard := none } a w K Q =
    stRow m (a.eval x) (a.eval y) w (fun w' => K (a.put d undef) w') (oldIn F n P { dst := d, op := .store t x y, type := ty, pos := p, after := af, guard := none } a w K Q) := by
  unfold stRow
  split
  · rename_i g cs hx hy
    split
    · rename_i old t' hg
      split
      · rename_i hs
        have hab : (({ dst := d, op := .store t x y, type := ty, pos := p, after := af, guard := none } : Oper)).about P w a.eval = none := by simp [Oper.about]
        unfold Oper.wpIn
        rw [Oper.semAt_plain F _ _ (by intro c hc; cases hc)]
        unfold execOp
        simp only [hx, hy, Instr.storeAt, Instr.sureAddr, Sem.run_bind, Sem.run_pure, Result.andThen_ok, run_storeVar_row w g t' t old cs hg (by rw [hs.2.1]; exact hi) (by rw [hs.1, hs.2.1]) hs.2.2]
        exact propext ⟨fun h => h.2, fun h => ⟨fun f hf => (by rw [hab] at hf; cases hf), h⟩⟩
      · rfl
    · rfl
  · rfl
theorem load30 {F : Fence} {n : Nat} {d : Option Tmp} {x : Operand} {ty : Nat} {p : String} {af : Array Edge} {a : Act} {w : World} {K : Act → World → Prop} {Q : Exit → Act → World → Prop} :
    Oper.wpIn F n Tryd.prog { dst := d, op := .load 30 x, type := ty, pos := p, after := af, guard := none } a w K Q =
    ldRow 8 (a.eval x) w (fun cs => K (a.put d (.agg cs)) w) (oldIn F n Tryd.prog { dst := d, op := .load 30 x, type := ty, pos := p, after := af, guard := none } a w K Q) := loadEq Tryd.underlying30 i30
theorem load36 {F : Fence} {n : Nat} {d : Option Tmp} {x : Operand} {ty : Nat} {p : String} {af : Array Edge} {a : Act} {w : World} {K : Act → World → Prop} {Q : Exit → Act → World → Prop} :
    Oper.wpIn F n Tryd.prog { dst := d, op := .load 36 x, type := ty, pos := p, after := af, guard := none } a w K Q =
    ldRow 64 (a.eval x) w (fun cs => K (a.put d (.agg cs)) w) (oldIn F n Tryd.prog { dst := d, op := .load 36 x, type := ty, pos := p, after := af, guard := none } a w K Q) := loadEq Tryd.underlying36 i36
theorem store30 {F : Fence} {n : Nat} {d : Option Tmp} {x y : Operand} {ty : Nat} {p : String} {af : Array Edge} {a : Act} {w : World} {K : Act → World → Prop} {Q : Exit → Act → World → Prop} :
    Oper.wpIn F n Tryd.prog { dst := d, op := .store 30 x y, type := ty, pos := p, after := af, guard := none } a w K Q =
    stRow 8 (a.eval x) (a.eval y) w (fun w' => K (a.put d undef) w') (oldIn F n Tryd.prog { dst := d, op := .store 30 x y, type := ty, pos := p, after := af, guard := none } a w K Q) := storeEq i30
end Go.Proofs.YtfgjlfdiljlfnaaDoor
