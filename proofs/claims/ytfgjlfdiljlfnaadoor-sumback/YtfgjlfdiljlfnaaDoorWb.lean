/-
  A builder in which there is room: WriteByte, and Hex and Bytes at whatever length.
-/
import Derived.Test.YtfgjlfdiljlfnaaDoorBack
import Derived.Shelf.Strings.Builder2Cap
namespace Go.Proofs.YtfgjlfdiljlfnaaDoor
open Go.RowKit Go.Shelf
set_option linter.unusedVariables false

theorem heapSet {w : World} {g n t : Nat} {cur : Array Value} (h : w.heap[g]? = some (.cells cur t (0, 0))) (x : Value) : (w.setCell ⟨g, n, none⟩ x).heap[g]? = some (.cells (cur.setIfInBounds n x) t (0, 0)) := by
  simp [World.setCell, Array.getElem?_modify, h]
/-- one cell appended to a row of one's own that has room for it. -/
theorem run_append_one {P : Program} (w : World) (base : Nat) (t ty e : TypeId) (i : TypeInfo) (ht : P.underlying t = some (.slice e)) (hi : P.info? e = some i) (hsize : i.size = 1)
    (p : Option Addr) (n cap : Nat) (xs : List Value) (hown : w.ownsRow base e 1 (.slice p n cap) n xs) (a : Addr) (x : Value) (hx : w.cell? a = some x) (h1 : x.oneCell' = true) (hroom : n + 1 ≤ cap) :
    ∃ w', (Builtin.append_ #[t, t] ty #[.slice p n cap, .slice (some a) 1 1]).run P w = .ok (.slice p (n + 1) cap) w' ∧ w'.ownsRow base e 1 (.slice p (n + 1) cap) (n + 1) (xs ++ [x]) ∧ w.grownBy w' (Value.ownBlock (.slice p n cap)) := by
  have hxl : xs.length = n := by simpa using hown.1
  rcases hown.2 with ⟨hv, _⟩ | ⟨g, cap', cur, hv, hbg, hg, hnc, hcm, hcs, htake⟩
  · cases hv
    omega
  · cases hv
    have hcs' : cur.size = cap := by simpa using hcs
    have ht' : cur.toList.take n = xs := by simpa using htake
    have hr := run_append_room_cells (P := P) w t ty e i ht hi g 0 n cap a 1 1 [x] (by simp [hsize])
      (by
        intro j u hj
        match j, hj with
        | 0, hj => simp at hj; subst hj; simpa [Addr.add] using hx)
      (by simpa using h1) hroom
      (by
        intro j hj
        obtain rfl : j = 0 := by simpa using hj
        rw [Lib.cell_of_heap hg]
        simp [hsize]
        omega)
      (by
        intro j hj
        exact Lib.frozen_of_heap hg _)
    refine ⟨_, hr, ⟨by simp [hxl], .inr ⟨g, cap, cur.setIfInBounds n x, rfl, hbg, ?_, hroom, hcm, by simpa using hcs, ?_⟩⟩, ?_⟩
    · have := heapSet (n := n) hg x
      simpa [World.setCells, hsize] using this
    · rw [← ht', Nat.mul_one, Array.toList_setIfInBounds, List.take_succ_eq_append_getElem (by simp; omega)]
      simp [List.take_set_of_le]
    · refine ⟨rfl, rfl, rfl, by simp [World.setCells, World.setCell], fun k _ hk => ?_⟩
      have hkg : k ≠ g := fun e => hk (by simp [Value.ownBlock, e])
      simp only [World.setCells]
      exact heap_setCell_other w _ k x hkg
theorem wpList_append_one {P : Program} {w : World} {ops : Array Oper} {rest : List Oper} {o : Oper} {a : Act} {Q : Exit → Act → World → Prop} (hgd : o.guard = none) (sl y : Operand) (t : TypeId)
    (ho : o.op = .call { callee := .builtin .append, args := #[sl, y], argTypes := #[t, t] })
    (base : Nat) (e : TypeId) (i : TypeInfo) (ht : P.underlying t = some (.slice e)) (hi : P.info? e = some i) (hsize : i.size = 1)
    (p : Option Addr) (n cap : Nat) (xs : List Value) (hs : a.eval sl = .slice p n cap) (hown : w.ownsRow base e 1 (.slice p n cap) n xs) (ad : Addr) (x : Value) (hy : a.eval y = .slice (some ad) 1 1) (hx : w.cell? ad = some x) (h1 : x.oneCell' = true) (hroom : n + 1 ≤ cap)
    (h : ∀ w', w'.ownsRow base e 1 (.slice p (n + 1) cap) (n + 1) (xs ++ [x]) → w.grownBy w' (Value.ownBlock (.slice p n cap)) → wpList P ops Q rest (a.put o.dst (.slice p (n + 1) cap)) w') : wpList P ops Q (o :: rest) a w := by
  refine wpList_plain hgd fun K hK => ?_
  obtain ⟨w', hr, h2, h3⟩ := run_append_one (P := P) w base t o.type e i ht hi hsize p n cap xs hown ad x hx h1 hroom
  unfold Oper.wp execOp
  simp only [ho, resolve, invoke, builtin, Sem.run_bind, Sem.run_pure, Result.andThen_ok, List.map_toArray, List.map_cons, List.map_nil, hs, hy, hr]
  exact hK _ _ (h w' h2 h3)
/-- the builder has room for N bytes. -/
def Fits (b l N : Nat) (w : World) : Prop := ∃ p cap, w.cell? ⟨b, 1, none⟩ = some (.slice p l cap) ∧ N ≤ cap
theorem check_keeps (B b : Nat) (bs : List Value) (w : World) (h : Lib.IsBuilder 53 5 B b bs w) :
    Calls Tryd.prog 38 #[.pointer (some ⟨b, 0, none⟩)] w fun e w' => e = .returned (.tuple #[]) ∧ Lib.BuilderAt 53 5 B b (.pointer (some ⟨b, 0, none⟩)) bs w' ∧ Below B w w' ∧ w'.cell? ⟨b, 1, none⟩ = w.cell? ⟨b, 1, none⟩ := by
  rcases h with h | h
  · refine Calls.mono (Any.Builder_copyCheck_fresh (ρ := Tryd.lays167_ren) { Tryd.lays167 with } Tryd.Builder_Extra_167.toX72 b w h.cell0 h.shape h.frozen0) ?_
    rintro e w' ⟨rfl, rfl⟩
    exact ⟨rfl, h.used _, (Below.refl B w).setCell (p := ⟨b, 0, none⟩) h.1 _, World.cell?_setCell_other _ _ _ _ (by simp)⟩
  · refine Calls.mono (Any.Builder_copyCheck_used (ρ := Tryd.lays167_ren) { Tryd.lays167 with } Tryd.Builder_Extra_167.toX72 b w h.cell0) ?_
    rintro e w' ⟨rfl, rfl⟩
    exact ⟨rfl, h, Below.refl B _, rfl⟩
theorem info5b : (Tryd.prog.info? 5).map (fun i => (i.zero, i.size, i.bytes)) = some (some (.int .u8 0), 1, 1) := by kernel_rfl

set_option maxHeartbeats 2000000 in
set_option maxRecDepth 100000 in
theorem byte_fits (B b N : Nat) (bs : List Value) (c : Int) (w : World) (h : Lib.IsBuilder 53 5 B b bs w) (hroom : Fits b bs.length N w) (hN : bs.length + 1 ≤ N) (hBw : B ≤ w.heap.size) :
    Calls Tryd.prog 26 #[.pointer (some ⟨b, 0, none⟩), .int .u8 c] w fun e w' => e = .returned .nilIface ∧ Lib.IsBuilder 53 5 B b (bs ++ [.int .u8 c]) w' ∧ Below B w w' ∧ Fits b (bs.length + 1) N w' := by
  obtain ⟨i0, hi, hz0, hz1, hzb⟩ := info_parts info5b
  obtain ⟨p, cap, hc1, hcap⟩ := hroom
  go_enter Tryd.func26, Tryd.ntmps26
  go_wp2_with (go_at_call 38; refine (check_keeps B b bs _ h).mono ?_)
  rintro e w1 ⟨rfl, h1, hb1, hkeep⟩
  obtain ⟨hB, v, hbk, hown, hne⟩ := h1
  have c0 : w1.cell? ⟨b, 0, none⟩ = some (.pointer (some ⟨b, 0, none⟩)) := by rw [Lib.cell_of_heap hbk]; rfl
  have c1 : w1.cell? ⟨b, 1, none⟩ = some v := by rw [Lib.cell_of_heap hbk]; rfl
  obtain rfl : v = .slice p bs.length cap := Option.some.inj (c1.symm.trans (hkeep.trans hc1))
  have hlt : b < w1.heap.size := (Array.getElem?_eq_some_iff.1 hbk).1
  have hz := hb1.size
  go_wp2_with (at_builtin; refine wpList_append_one rfl _ _ 51 rfl B 5 i0 Tryd.underlying51 hi hz1 p bs.length cap bs rfl (hown.alloc _) ⟨w1.heap.size, 0, none⟩ (.int .u8 c) rfl (by simp) rfl (by omega) ?_)
  intro w2 hown' hgrow
  have hb2 : w2.heap[b]? = some (.cells #[.pointer (some ⟨b, 0, none⟩), .slice p bs.length cap] 53 (0, 0)) := by
    rw [hgrow.block b (by simp; omega) (fun e => hne e.symm), Lib.alloc_old w1 _ b hlt]
    exact hbk
  have d0 : w2.cell? ⟨b, 0, none⟩ = some (.pointer (some ⟨b, 0, none⟩)) := by rw [Lib.cell_of_heap hb2]; rfl
  have d1 : w2.cell? ⟨b, 1, none⟩ = some (.slice p bs.length cap) := by rw [Lib.cell_of_heap hb2]; rfl
  have f1 : w2.frozen? ⟨b, 1, none⟩ = false := Lib.frozen_of_heap hb2 1
  have HBG : Hid (Below B w w2) := (hb1.alloc (by omega) _).grown hgrow (by simp; omega) (fun k hk => (hown.lt k hk).1)
  have HOW : Hid (w2.ownsRow B 5 1 (.slice p (bs.length + 1) cap) (bs.length + 1) (bs ++ [.int .u8 c])) := hown'
  have HB2 : Hid (w2.heap[b]? = some (.cells #[.pointer (some ⟨b, 0, none⟩), .slice p bs.length cap] 53 (0, 0))) := hb2
  clear hown' hgrow hb2
  go_wp2
  go_ret
  refine ⟨rfl, Or.inr ?_, HBG.out.setCell (p := ⟨b, 1, none⟩) hB _, p, cap, World.cell?_setCell_same _ _ _ d1, hcap⟩
  exact Lib.BuilderAt.put (T := 53) (e := 5) hB HB2.out (bs' := bs ++ [.int .u8 c]) (by simpa using HOW.out) (by decide)
theorem byte_fits' (B b N : Nat) (l : List UInt8) (c : Int) (w : World) (h : Lib.IsBuilder 53 5 B b (Lib.byteCells l) w) (hroom : Fits b l.length N w) (x : UInt8) (hx : (x.toNat : Int) = c) (hN : l.length + 1 ≤ N) (hBw : B ≤ w.heap.size) :
    Calls Tryd.prog 26 #[.pointer (some ⟨b, 0, none⟩), .int .u8 c] w fun e w' => e = .returned .nilIface ∧ Lib.IsBuilder 53 5 B b (Lib.byteCells (l ++ [x])) w' ∧ Below B w w' ∧ Fits b (l ++ [x]).length N w' := by
  have hl : (Lib.byteCells l).length = l.length := by simp [Lib.byteCells]
  refine (byte_fits B b N (Lib.byteCells l) c w h (by rw [hl]; exact hroom) (by rw [hl]; exact hN) hBw).mono ?_
  rintro e w' ⟨rfl, h1, h2, h3⟩
  rw [hl] at h3
  refine ⟨rfl, ?_, h2, by simpa using h3⟩
  rw [← hx] at h1
  simpa [Lib.byteCells] using h1
theorem grow_fits (B b : Nat) (n : Int) (w : World) (h0 : 0 ≤ n) (hB : B ≤ b) (hbk : w.heap[b]? = some (.cells #[.pointer none, .slice none 0 0] 53 (0, 0))) (hBw : B ≤ w.heap.size) (hn : n ≤ 281474976710656) :
    Calls Tryd.prog 25 #[.pointer (some ⟨b, 0, none⟩), .int .i64 n] w fun e w' => e = .returned (.tuple #[]) ∧ Lib.IsBuilder 53 5 B b (Lib.byteCells []) w' ∧ Below B w w' ∧ Fits b 0 n.toNat w' := by
  obtain ⟨m, rfl⟩ := Int.eq_ofNat_of_zero_le h0
  refine Calls.mono (Any.Builder_Grow_fresh_cap Tryd.lays165 Tryd.Builder_Extra_165 B b m w hB hbk hBw (by omega)) ?_
  rintro e w' ⟨rfl, ⟨h1, h2⟩, p, cap, h3, h4⟩
  exact ⟨rfl, Or.inr h1, h2, p, cap, h3, h4⟩
end Go.Proofs.YtfgjlfdiljlfnaaDoor
