import Derived.Test.YtenomeopkncaaaaGreatDoorM34
/-
  Both of the document, walked.
-/
namespace Go.Proofs.YtenomeopkncaaaaGreatDoor
open Go.RowKit
set_option linter.unusedVariables false

/-- what a whole slice brings to an append -/
def Brings (w : World) (x : Value) (m : Nat) (news : List Value) : Prop := (x = .slice none 0 0 ∧ m = 0 ∧ news = []) ∨ ∃ ad c, x = .slice (some ad) m c ∧ ∀ j u, news[j]? = some u → w.cell? (ad.add j) = some u
theorem run_spread {P : Program} (w : World) (base : Nat) (t ty e : TypeId) (i : TypeInfo) (z : Value) (size bytes : Nat) (ht : P.underlying t = some (.slice e)) (hi : P.info? e = some i) (hz : i.zero = some z)
    (hsize : i.size = size) (hby : i.bytes = bytes) (hzs : z.cells.size = size) (hsz : 0 < size)
    (v : Value) (n : Nat) (xs : List Value) (hown : w.ownsRow base e size v n xs)
    (x : Value) (m : Nat) (news : List Value) (hx : Brings w x m news) (hl : news.length = m * size) (h1 : ∀ u ∈ news, u.oneCell' = true)
    (h63 : n + m ≤ maxLen) (hbytes : (n + m) * bytes ≤ 140737488355328) (hbase : base ≤ w.heap.size) :
    ∃ v' w', (Builtin.append_ #[t, t] ty #[v, x]).run P w = .ok v' w' ∧ w'.ownsRow base e size v' (n + m) (xs ++ news) ∧ w.grownBy w' v.ownBlock := by
  rcases hx with ⟨rfl, rfl, rfl⟩ | ⟨ad, c, rfl, hnews⟩
  · refine ⟨v, w, ?_, by simpa using hown, ⟨rfl, rfl, rfl, Nat.le_refl _, fun _ _ _ => rfl⟩⟩
    rcases hown.2 with ⟨rfl, rfl⟩ | ⟨g, cap, cur, rfl, hbg, hg, hnc, hcm, hcs, htake⟩
    · simp [Builtin.append_, run_underlying ht, sizeOf, typeInfo, hi, Builtin.lenOf, Builtin.firstCells]
    · simp [Builtin.append_, run_underlying ht, sizeOf, typeInfo, hi, Builtin.lenOf, Builtin.firstCells, hnc, storeCells]
  · obtain ⟨v', w', h2, h3, h4, _⟩ := run_append_own (P := P) w base t ty e i z size bytes ht hi hz hsize hby hzs hsz v n xs hown ad m c news hl hnews h1 h63 hbytes hbase
    exact ⟨v', w', h2, h3, h4⟩
theorem wp_spread {P : Program} (w : World) {o : Oper} {a : Act} {K : Act → World → Prop} {Q : Exit → Act → World → Prop} (s x : Operand) (t : TypeId)
    (ho : o.op = .call { callee := .builtin .append, args := #[s, x], argTypes := #[t, t] })
    (base : Nat) (e : TypeId) (i : TypeInfo) (z : Value) (size bytes : Nat) (ht : P.underlying t = some (.slice e)) (hi : P.info? e = some i) (hz : i.zero = some z)
    (hsize : i.size = size) (hby : i.bytes = bytes) (hzs : z.cells.size = size) (hsz : 0 < size)
    (v : Value) (n : Nat) (xs : List Value) (hs : a.eval s = v) (hown : w.ownsRow base e size v n xs)
    (xv : Value) (m : Nat) (news : List Value) (hxv : a.eval x = xv) (hx : Brings w xv m news) (hl : news.length = m * size) (h1 : ∀ u ∈ news, u.oneCell' = true)
    (h63 : n + m ≤ maxLen) (hbytes : (n + m) * bytes ≤ 140737488355328) (hbase : base ≤ w.heap.size)
    (h : ∀ v' w', w'.ownsRow base e size v' (n + m) (xs ++ news) → w.grownBy w' v.ownBlock → K (a.put o.dst v') w') : o.wp P a w K Q := by
  obtain ⟨v', w', hr, h2, h3⟩ := run_spread (P := P) w base t o.type e i z size bytes ht hi hz hsize hby hzs hsz v n xs hown xv m news hx hl h1 h63 hbytes hbase
  unfold Oper.wp execOp
  simp only [ho, resolve, invoke, builtin, Sem.run_bind, Sem.run_pure, Result.andThen_ok, List.map_toArray, List.map_cons, List.map_nil, hs, hxv, hr]
  exact h v' w' h2 h3
theorem wpList_spread {P : Program} (w : World) {ops : Array Oper} {rest : List Oper} {o : Oper} {a : Act} {Q : Exit → Act → World → Prop} (hgd : o.guard = none) (s x : Operand) (t : TypeId)
    (ho : o.op = .call { callee := .builtin .append, args := #[s, x], argTypes := #[t, t] })
    (base : Nat) (e : TypeId) (i : TypeInfo) (z : Value) (size bytes : Nat) (ht : P.underlying t = some (.slice e)) (hi : P.info? e = some i) (hz : i.zero = some z)
    (hsize : i.size = size) (hby : i.bytes = bytes) (hzs : z.cells.size = size) (hsz : 0 < size)
    (v : Value) (n : Nat) (xs : List Value) (hs : a.eval s = v) (hown : w.ownsRow base e size v n xs)
    (xv : Value) (m : Nat) (news : List Value) (hxv : a.eval x = xv) (hx : Brings w xv m news) (hl : news.length = m * size) (h1 : ∀ u ∈ news, u.oneCell' = true)
    (h63 : n + m ≤ maxLen) (hbytes : (n + m) * bytes ≤ 140737488355328) (hbase : base ≤ w.heap.size)
    (h : ∀ v' w', w'.ownsRow base e size v' (n + m) (xs ++ news) → w.grownBy w' v.ownBlock → wpList P ops Q rest (a.put o.dst v') w') : wpList P ops Q (o :: rest) a w :=
  wpList_plain hgd fun _ hK => wp_spread w s x t ho base e i z size bytes ht hi hz hsize hby hzs hsz v n xs hs hown xv m news hxv hx hl h1 h63 hbytes hbase fun v' w' h2 h3 => hK _ _ (h v' w' h2 h3)
theorem flat_one (L : List Sp) : ∀ u ∈ L.flatMap spC, u.oneCell' = true := by
  intro u hu
  obtain ⟨s, _, h⟩ := List.mem_flatMap.1 hu
  exact news_one s u h
theorem elt_cells {w : World} {a : Addr} {n : Nat} {s : Sp} (h : EltAt w (a.add n) s) (k : Nat) (u : Value) (hu : (spC s)[k]? = some u) : w.cell? (a.add (n + k)) = some u := by
  obtain ⟨h0, h1, h2, h3, h4, h5, h6, h7, h8, h9, h10⟩ := h
  have hk : k < 11 := by have := (List.getElem?_eq_some_iff.1 hu).1; simpa [spC] using this
  rcases Nat.eq_zero_or_pos k with rfl | hp
  · simp only [spC, List.getElem?_cons_zero, Option.some.injEq] at hu
    rw [← hu]; exact h0
  · rw [add_off a n k hp]
    have : k = 1 ∨ k = 2 ∨ k = 3 ∨ k = 4 ∨ k = 5 ∨ k = 6 ∨ k = 7 ∨ k = 8 ∨ k = 9 ∨ k = 10 := by omega
    rcases this with rfl | rfl | rfl | rfl | rfl | rfl | rfl | rfl | rfl | rfl <;> (simp [spC] at hu; subst hu; assumption)
theorem brings (w : World) (x : Value) (L : List Sp) (h : SpS w x L) : Brings w x L.length (L.flatMap spC) := by
  rcases h with ⟨rfl, rfl⟩ | ⟨a, cap, rfl, h2, h3⟩
  · exact Or.inl ⟨rfl, rfl, rfl⟩
  · refine Or.inr ⟨a, cap, rfl, fun j u hu => ?_⟩
    have hj : j < L.length * 11 := by have := (List.getElem?_eq_some_iff.1 hu).1; rw [flat_len] at this; exact this
    have hi : j / 11 < L.length := by omega
    have e : j = (j / 11) * 11 + j % 11 := by omega
    rw [e] at hu ⊢
    obtain ⟨v, hv⟩ : ∃ v, (spC L[j / 11])[j % 11]? = some v := ⟨_, List.getElem?_eq_getElem (show j % 11 < (spC L[j / 11]).length by rw [spC_len]; omega)⟩
    have := flat_get L (j / 11) hi (j % 11) v hv
    rw [this] at hu
    injection hu with hu
    subst hu
    exact elt_cells (h3 (j / 11) hi) _ _ hv

/-- what is had by both, or by one of two -/
def hadB (all : Bool) (A C : List Sp) (d : V) : Bool := (holdsL A d && holdsL C d) || (!all && (holdsL A d || holdsL C d))

set_option maxRecDepth 100000 in
set_option maxHeartbeats 3200000 in
theorem both_any (sa sc : Value) (all : Bool) (A C : List Sp) (w : World) (h : SpS w sa A) (h' : SpS w sc C) (hA : A.length ≤ 1048576) (hsA : ∀ s ∈ A, smallS s) (hC : C.length ≤ 1048576) (hsC : ∀ s ∈ C, smallS s) :
    Calls Tryz.prog 13 #[sa, sc, .bool all] w fun e w' => ∃ vo, e = .returned vo ∧ SpS w' vo (outs (tog (hadB all A C) false (bnd (A ++ C)))) ∧ w.grownBy w' none := by
  have hinfo := infoB
  obtain ⟨i1, hj0, hjj⟩ := Option.map_eq_some_iff.1 hinfo
  simp only [Prod.mk.injEq] at hjj
  obtain ⟨hy0, hy1, hyb⟩ := hjj
  clear hinfo
  have hinfo := infoSr
  obtain ⟨i2, hk0, hkk⟩ := Option.map_eq_some_iff.1 hinfo
  simp only [Prod.mk.injEq] at hkk
  obtain ⟨hz0, hz1, hzb⟩ := hkk
  clear hinfo
  have HA : Hid (SpS w sa A) := h
  have HC : Hid (SpS w sc C) := h'
  have HLA : Hid (A.length ≤ 1048576) := hA
  have HLC : Hid (C.length ≤ 1048576) := hC
  have hsz : ∀ s ∈ A ++ C, smallS s := fun s hs => by
    rcases List.mem_append.1 hs with h | h
    · exact hsA s h
    · exact hsC s h
  have CB : Hid (∀ sl w, SpS w sl (A ++ C) → Calls Tryz.prog 18 #[sl] w fun e w' => ∃ vo, e = .returned vo ∧ VsS w' vo (bnd (A ++ C)) ∧ w.grownBy w' none) := fun sl w h => cBounds sl (A ++ C) w h (by rw [List.length_append]; omega) hsz
  have CHA : Hid (∀ d w, d ∈ bnd (A ++ C) → SpS w sa A → Calls Tryz.prog 19 #[sa, .agg #[.int .i64 d.major, .int .i64 d.minor, .int .i64 d.patch, .string ⟨d.pre.toArray⟩, .string ⟨#[]⟩]] w fun e w' => e = .returned (.bool (holdsL A d)) ∧ w.grownBy w' none) := fun d w hd h => cHoldsD sa A d w h (by omega) hsA (bnd_small (A ++ C) [] hsz (fun t ht => by simp at ht) d hd)
  have CHC : Hid (∀ d w, d ∈ bnd (A ++ C) → SpS w sc C → Calls Tryz.prog 19 #[sc, .agg #[.int .i64 d.major, .int .i64 d.minor, .int .i64 d.patch, .string ⟨d.pre.toArray⟩, .string ⟨#[]⟩]] w fun e w' => e = .returned (.bool (holdsL C d)) ∧ w.grownBy w' none) := fun d w hd h => cHoldsD sc C d w h (by omega) hsC (bnd_small (A ++ C) [] hsz (fun t ht => by simp at ht) d hd)
  have hlen : (bnd (A ++ C)).length ≤ 4194304 := by have := bnd_len (A ++ C) []; unfold bnd; rw [List.length_append] at this; simp only [List.length_nil, Nat.zero_add] at this; omega
  obtain ⟨g, hg⟩ : ∃ g, hadB all A C = g := ⟨_, rfl⟩
  have HGD : Hid (∀ d, g d = ((holdsL A d && holdsL C d) || (!all && (holdsL A d || holdsL C d)))) := fun d => by rw [← hg]; rfl
  have CN : Hid (∀ vb vh w, VsS w vb (bnd (A ++ C)) → HadS w vh ((bnd (A ++ C)).map g) → Calls Tryz.prog 20 #[vb, vh] w fun e w' => ∃ vo, e = .returned vo ∧ SpS w' vo (outs (tog g false (bnd (A ++ C)))) ∧ w.grownBy w' none) := fun vb vh w h1 h2 => cNormalBy vb vh (bnd (A ++ C)) g w (by omega) h1 h2
  obtain ⟨D, hD⟩ : ∃ D, bnd (A ++ C) = D := ⟨_, rfl⟩
  rw [hD] at CB CHA CHC CN hlen ⊢
  rw [hg]
  clear h h' hA hC hsA hsC hsz hD hg
  obtain ⟨oa, na, ca, rfl⟩ : ∃ o n c, sa = .slice o n c := by
    rcases HA.out with ⟨h, _⟩ | ⟨_, _, h, _⟩
    · exact ⟨_, _, _, h⟩
    · exact ⟨_, _, _, h⟩
  obtain ⟨oc, nc, cc, rfl⟩ : ∃ o n c, sc = .slice o n c := by
    rcases HC.out with ⟨h, _⟩ | ⟨_, _, h, _⟩
    · exact ⟨_, _, _, h⟩
    · exact ⟨_, _, _, h⟩
  go_enter Tryz.func13, Tryz.ntmps13
  go_wp2_with (first | (at_builtin; refine wpList_spread _ rfl _ _ 22 rfl w.heap.size 42 i2 _ 11 120 Tryz.underlying22 hk0 hz0 hz1 hzb rfl (by decide) _ 0 [] rfl (World.ownsRow_nil _ _ _ _) _ A.length (A.flatMap spC) rfl (brings _ _ _ HA.out) (flat_len A) (flat_one A) (by unfold maxLen; have := HLA.out; omega) (by have := HLA.out; omega) (Nat.le_refl _) ?_; intro v1 w1 hown1 hg1; have HO1 : Hid (w1.ownsRow w.heap.size 42 11 v1 A.length (A.flatMap spC)) := (by have := hown1; rw [Nat.zero_add, List.nil_append] at this; exact this); have HG1 : Hid (w.grownBy w1 none) := hg1; have HC1 : Hid (SpS w1 (.slice oc nc cc) C) := HC.out.grow HG1.out) | (at_builtin; refine wpList_spread _ rfl _ _ 22 rfl w.heap.size 42 i2 _ 11 120 Tryz.underlying22 hk0 hz0 hz1 hzb rfl (by decide) _ A.length (A.flatMap spC) rfl HO1.out _ C.length (C.flatMap spC) rfl (brings _ _ _ HC1.out) (flat_len C) (flat_one C) (by unfold maxLen; have := HLA.out; have := HLC.out; omega) (by have := HLA.out; have := HLC.out; omega) HG1.out.size ?_; intro v2 w2 hown2 hg2; have HG2 : Hid (w.grownBy w2 none) := gb_row0 HG1.out hg2 (fun q hq => (HO1.out.lt q hq).1); have HL : Hid (SpS w2 v2 (A ++ C)) := (by refine sr_own (base := w.heap.size) ?_; rw [List.length_append, List.flatMap_append]; exact hown2)) | (go_at_call 18; refine (CB.out _ _ HL.out).mono ?_))
  rintro e w3 ⟨vb, rfl, hvs, hg3⟩
  replace HG1 : Hid (w.grownBy w3 none) := gb_trans HG2.out hg3
  clear hg3
  replace HA : Hid (SpS w3 (.slice oa na ca) A) := HA.out.grow HG1.out
  replace HC : Hid (SpS w3 (.slice oc nc cc) C) := HC.out.grow HG1.out
  have HVS : Hid (VsS w3 vb D) := hvs
  clear hg1 HL HG2 hown1 hown2 hg2 HO1 HC1
  rcases hvs with ⟨rfl, hD0⟩ | ⟨a, cap, rfl, hcap, hat⟩
  · have HD0 : Hid (D = []) := hD0
    clear hD0
    go_wp2
    go_loopw [9, 10] (fun vh vi wk => vi = .int .i64 0 ∧ vh = .slice none 0 0 ∧ w3.grownBy wk none) (fun _ vi _ => 0)
    case atStart => exact ⟨rfl, rfl, gb_refl _ _⟩
    case round =>
      obtain ⟨rfl, rfl, hg⟩ := hrel
      have HV2 : Hid (VsS wr (.slice none 0 0) D) := HVS.out.grow hg
      have HG : Hid (w.grownBy wr none) := gb_trans HG1.out hg
      clear hg
      go_wp2_with (first | (go_at_call 20; refine (CN.out _ _ _ HV2.out (Or.inl ⟨rfl, by rw [HD0.out]; rfl⟩)).mono ?_))
      rintro e w4 ⟨vo, rfl, ho, hg⟩
      have HO : Hid (SpS w4 vo (outs (tog g false D))) := ho
      replace HG : Hid (w.grownBy w4 none) := gb_trans HG.out hg
      clear ho hg
      go_wp2
      exact bodyPost_ret (results_tmp (t := 6) rfl _ _ _) rfl ⟨vo, rfl, HO.out, HG.out⟩
  · have HAT : Hid (VsAt w3 a D) := hat
    clear hat
    go_wp2
    go_loopw [9, 10] (fun vh vi wk => ∃ i : Nat, vi = .int .i64 i ∧ i ≤ D.length ∧ wk.ownsRow w3.heap.size 4 1 vh i (((D.take i).map g).map Value.bool) ∧ w3.grownBy wk none) (fun _ vi _ => D.length - (intOf vi).toNat)
    case atStart => exact ⟨0, rfl, Nat.zero_le _, World.ownsRow_nil _ _ _ _, gb_refl _ _⟩
    case round =>
      obtain ⟨i, rfl, hi, how, hg⟩ := hrel
      have HG : Hid (w3.grownBy wr none) := hg
      have HO : Hid (wr.ownsRow w3.heap.size 4 1 u9 i (((D.take i).map g).map Value.bool)) := how
      clear how hg
      by_cases hlt : i < D.length
      · obtain ⟨d, hd⟩ : ∃ d, D[i] = d := ⟨_, rfl⟩
        have hdm : d ∈ D := by rw [← hd]; exact List.getElem_mem hlt
        have HE : Hid (VAt wr (a.add (i * 5)) d) := by show VAt wr _ d; rw [← hd]; exact (HAT.out i hlt).grow HG.out
        have HAr : Hid (SpS wr (.slice oa na ca) A) := HA.out.grow HG.out
        have HCr : Hid (SpS wr (.slice oc nc cc) C) := HC.out.grow HG.out
        have HNX : Hid (((D.take (i + 1)).map g).map Value.bool = ((D.take i).map g).map Value.bool ++ [.bool (g d)]) := by
          show _ = _
          rw [List.take_succ_eq_append_getElem hlt, hd]; simp
        clear hd
        obtain ⟨x, hx⟩ : ∃ x, holdsL A d = x := ⟨_, rfl⟩
        obtain ⟨y, hy⟩ : ∃ y, holdsL C d = y := ⟨_, rfl⟩
        have HGX : Hid (g d = ((x && y) || (!all && (x || y)))) := by show _ = _; rw [HGD.out d, hx, hy]
        have CA : Hid (∀ w, SpS w (.slice oa na ca) A → Calls Tryz.prog 19 #[.slice oa na ca, .agg #[.int .i64 d.major, .int .i64 d.minor, .int .i64 d.patch, .string ⟨d.pre.toArray⟩, .string ⟨#[]⟩]] w fun e w' => e = .returned (.bool x) ∧ w.grownBy w' none) := fun w h => by rw [← hx]; exact CHA.out d w hdm h
        have CC : Hid (∀ w, SpS w (.slice oc nc cc) C → Calls Tryz.prog 19 #[.slice oc nc cc, .agg #[.int .i64 d.major, .int .i64 d.minor, .int .i64 d.patch, .string ⟨d.pre.toArray⟩, .string ⟨#[]⟩]] w fun e w' => e = .returned (.bool y) ∧ w.grownBy w' none) := fun w h => by rw [← hy]; exact CHC.out d w hdm h
        clear hx hy hdm
        obtain ⟨e0, e1, e2, e3, e4⟩ := HE.out
        go_wp2_with (first | (go_at_call 19; refine (CA.out _ HAr.out).mono ?_))
        rintro e w4 ⟨rfl, hg⟩
        replace HG : Hid (w3.grownBy w4 none) := gb_trans HG.out hg
        replace HO : Hid (w4.ownsRow w3.heap.size 4 1 u9 i (((D.take i).map g).map Value.bool)) := own_keepV HO.out hg
        replace HE : Hid (VAt w4 (a.add (i * 5)) d) := HE.out.grow hg
        replace HCr : Hid (SpS w4 (.slice oc nc cc) C) := HCr.out.grow hg
        clear hg e0 e1 e2 e3 e4 HAr
        obtain ⟨e0, e1, e2, e3, e4⟩ := HE.out
        go_wp2_with (first | (go_at_call 19; refine (CC.out _ HCr.out).mono ?_))
        rintro e w5 ⟨rfl, hg⟩
        replace HG : Hid (w3.grownBy w5 none) := gb_trans HG.out hg
        replace HO : Hid (w5.ownsRow w3.heap.size 4 1 u9 i (((D.take i).map g).map Value.bool)) := own_keepV HO.out hg
        clear hg e0 e1 e2 e3 e4 HCr HE
        obtain ⟨r, hr⟩ : ∃ r, g d = r := ⟨_, rfl⟩
        have HGR : Hid (((x && y) || (!all && (x || y))) = r) := by show _ = _; rw [← hr]; exact HGX.out.symm
        rw [hr] at HNX
        clear hr HGX
        cases x <;> cases y <;> cases all <;> cases r <;> first | exact absurd HGR.out (by decide) | skip
        all_goals clear HGR
        · go_wp2_with (first | (at_builtin; refine wpList_append_own _ rfl _ _ 48 rfl w3.heap.size 4 i1 (.bool false) 1 1 Tryz.underlying48 hj0 hy0 hy1 hyb rfl (by decide) _ _ _ rfl (HO.out.alloc _) _ 1 1 [.bool false] rfl rfl (World.news_of_block (heap_alloc_new _ _)) (bool_one _) (by unfold maxLen; omega) (by omega) (by have := HG.out.size; simp; omega) ?_; intro v9 w9 hown9 hgrow _))
          have HG9 : Hid (w3.grownBy w9 none) := gb_row0 (gb_alloc HG.out _) hgrow (fun q hq => (HO.out.lt q hq).1)
          have HO9 : Hid (w9.ownsRow w3.heap.size 4 1 v9 (i + 1) (((D.take (i + 1)).map g).map Value.bool)) := by show World.ownsRow _ _ _ _ _ _ _; rw [HNX.out]; exact hown9
          clear hgrow hown9 HNX HO HG
          go_wp2
          go_roundw
          case rel => exact ⟨i + 1, by go_num, by omega, HO9.out, HG9.out⟩
          case measure => simp [intOf]; omega
        · go_wp2_with (first | (at_builtin; refine wpList_append_own _ rfl _ _ 48 rfl w3.heap.size 4 i1 (.bool false) 1 1 Tryz.underlying48 hj0 hy0 hy1 hyb rfl (by decide) _ _ _ rfl (HO.out.alloc _) _ 1 1 [.bool false] rfl rfl (World.news_of_block (heap_alloc_new _ _)) (bool_one _) (by unfold maxLen; omega) (by omega) (by have := HG.out.size; simp; omega) ?_; intro v9 w9 hown9 hgrow _))
          have HG9 : Hid (w3.grownBy w9 none) := gb_row0 (gb_alloc HG.out _) hgrow (fun q hq => (HO.out.lt q hq).1)
          have HO9 : Hid (w9.ownsRow w3.heap.size 4 1 v9 (i + 1) (((D.take (i + 1)).map g).map Value.bool)) := by show World.ownsRow _ _ _ _ _ _ _; rw [HNX.out]; exact hown9
          clear hgrow hown9 HNX HO HG
          go_wp2
          go_roundw
          case rel => exact ⟨i + 1, by go_num, by omega, HO9.out, HG9.out⟩
          case measure => simp [intOf]; omega
        · go_wp2_with (first | (at_builtin; refine wpList_append_own _ rfl _ _ 48 rfl w3.heap.size 4 i1 (.bool false) 1 1 Tryz.underlying48 hj0 hy0 hy1 hyb rfl (by decide) _ _ _ rfl (HO.out.alloc _) _ 1 1 [.bool true] rfl rfl (World.news_of_block (heap_alloc_new _ _)) (bool_one _) (by unfold maxLen; omega) (by omega) (by have := HG.out.size; simp; omega) ?_; intro v9 w9 hown9 hgrow _))
          have HG9 : Hid (w3.grownBy w9 none) := gb_row0 (gb_alloc HG.out _) hgrow (fun q hq => (HO.out.lt q hq).1)
          have HO9 : Hid (w9.ownsRow w3.heap.size 4 1 v9 (i + 1) (((D.take (i + 1)).map g).map Value.bool)) := by show World.ownsRow _ _ _ _ _ _ _; rw [HNX.out]; exact hown9
          clear hgrow hown9 HNX HO HG
          go_wp2
          go_roundw
          case rel => exact ⟨i + 1, by go_num, by omega, HO9.out, HG9.out⟩
          case measure => simp [intOf]; omega
        · go_wp2_with (first | (at_builtin; refine wpList_append_own _ rfl _ _ 48 rfl w3.heap.size 4 i1 (.bool false) 1 1 Tryz.underlying48 hj0 hy0 hy1 hyb rfl (by decide) _ _ _ rfl (HO.out.alloc _) _ 1 1 [.bool false] rfl rfl (World.news_of_block (heap_alloc_new _ _)) (bool_one _) (by unfold maxLen; omega) (by omega) (by have := HG.out.size; simp; omega) ?_; intro v9 w9 hown9 hgrow _))
          have HG9 : Hid (w3.grownBy w9 none) := gb_row0 (gb_alloc HG.out _) hgrow (fun q hq => (HO.out.lt q hq).1)
          have HO9 : Hid (w9.ownsRow w3.heap.size 4 1 v9 (i + 1) (((D.take (i + 1)).map g).map Value.bool)) := by show World.ownsRow _ _ _ _ _ _ _; rw [HNX.out]; exact hown9
          clear hgrow hown9 HNX HO HG
          go_wp2
          go_roundw
          case rel => exact ⟨i + 1, by go_num, by omega, HO9.out, HG9.out⟩
          case measure => simp [intOf]; omega
        · go_wp2_with (first | (at_builtin; refine wpList_append_own _ rfl _ _ 48 rfl w3.heap.size 4 i1 (.bool false) 1 1 Tryz.underlying48 hj0 hy0 hy1 hyb rfl (by decide) _ _ _ rfl (HO.out.alloc _) _ 1 1 [.bool true] rfl rfl (World.news_of_block (heap_alloc_new _ _)) (bool_one _) (by unfold maxLen; omega) (by omega) (by have := HG.out.size; simp; omega) ?_; intro v9 w9 hown9 hgrow _))
          have HG9 : Hid (w3.grownBy w9 none) := gb_row0 (gb_alloc HG.out _) hgrow (fun q hq => (HO.out.lt q hq).1)
          have HO9 : Hid (w9.ownsRow w3.heap.size 4 1 v9 (i + 1) (((D.take (i + 1)).map g).map Value.bool)) := by show World.ownsRow _ _ _ _ _ _ _; rw [HNX.out]; exact hown9
          clear hgrow hown9 HNX HO HG
          go_wp2
          go_roundw
          case rel => exact ⟨i + 1, by go_num, by omega, HO9.out, HG9.out⟩
          case measure => simp [intOf]; omega
        · go_wp2_with (first | (at_builtin; refine wpList_append_own _ rfl _ _ 48 rfl w3.heap.size 4 i1 (.bool false) 1 1 Tryz.underlying48 hj0 hy0 hy1 hyb rfl (by decide) _ _ _ rfl (HO.out.alloc _) _ 1 1 [.bool false] rfl rfl (World.news_of_block (heap_alloc_new _ _)) (bool_one _) (by unfold maxLen; omega) (by omega) (by have := HG.out.size; simp; omega) ?_; intro v9 w9 hown9 hgrow _))
          have HG9 : Hid (w3.grownBy w9 none) := gb_row0 (gb_alloc HG.out _) hgrow (fun q hq => (HO.out.lt q hq).1)
          have HO9 : Hid (w9.ownsRow w3.heap.size 4 1 v9 (i + 1) (((D.take (i + 1)).map g).map Value.bool)) := by show World.ownsRow _ _ _ _ _ _ _; rw [HNX.out]; exact hown9
          clear hgrow hown9 HNX HO HG
          go_wp2
          go_roundw
          case rel => exact ⟨i + 1, by go_num, by omega, HO9.out, HG9.out⟩
          case measure => simp [intOf]; omega
        · go_wp2_with (first | (at_builtin; refine wpList_append_own _ rfl _ _ 48 rfl w3.heap.size 4 i1 (.bool false) 1 1 Tryz.underlying48 hj0 hy0 hy1 hyb rfl (by decide) _ _ _ rfl (HO.out.alloc _) _ 1 1 [.bool true] rfl rfl (World.news_of_block (heap_alloc_new _ _)) (bool_one _) (by unfold maxLen; omega) (by omega) (by have := HG.out.size; simp; omega) ?_; intro v9 w9 hown9 hgrow _))
          have HG9 : Hid (w3.grownBy w9 none) := gb_row0 (gb_alloc HG.out _) hgrow (fun q hq => (HO.out.lt q hq).1)
          have HO9 : Hid (w9.ownsRow w3.heap.size 4 1 v9 (i + 1) (((D.take (i + 1)).map g).map Value.bool)) := by show World.ownsRow _ _ _ _ _ _ _; rw [HNX.out]; exact hown9
          clear hgrow hown9 HNX HO HG
          go_wp2
          go_roundw
          case rel => exact ⟨i + 1, by go_num, by omega, HO9.out, HG9.out⟩
          case measure => simp [intOf]; omega
        · go_wp2_with (first | (at_builtin; refine wpList_append_own _ rfl _ _ 48 rfl w3.heap.size 4 i1 (.bool false) 1 1 Tryz.underlying48 hj0 hy0 hy1 hyb rfl (by decide) _ _ _ rfl (HO.out.alloc _) _ 1 1 [.bool true] rfl rfl (World.news_of_block (heap_alloc_new _ _)) (bool_one _) (by unfold maxLen; omega) (by omega) (by have := HG.out.size; simp; omega) ?_; intro v9 w9 hown9 hgrow _))
          have HG9 : Hid (w3.grownBy w9 none) := gb_row0 (gb_alloc HG.out _) hgrow (fun q hq => (HO.out.lt q hq).1)
          have HO9 : Hid (w9.ownsRow w3.heap.size 4 1 v9 (i + 1) (((D.take (i + 1)).map g).map Value.bool)) := by show World.ownsRow _ _ _ _ _ _ _; rw [HNX.out]; exact hown9
          clear hgrow hown9 HNX HO HG
          go_wp2
          go_roundw
          case rel => exact ⟨i + 1, by go_num, by omega, HO9.out, HG9.out⟩
          case measure => simp [intOf]; omega
      · have hie : i = D.length := by omega
        have HHS : Hid (HadS wr u9 (D.map g)) := by
          have := HO.out
          rw [hie, List.take_length] at this
          exact had_own (by rw [List.length_map]; exact this)
        have HV2 : Hid (VsS wr (.slice (some a) D.length cap) D) := HVS.out.grow HG.out
        have HG2 : Hid (w.grownBy wr none) := gb_trans HG1.out HG.out
        clear hie hi HO
        go_wp2_with (first | (go_at_call 20; refine (CN.out _ _ _ HV2.out HHS.out).mono ?_))
        rintro e w4 ⟨vo, rfl, ho, hg⟩
        have HOO : Hid (SpS w4 vo (outs (tog g false D))) := ho
        replace HG : Hid (w.grownBy w4 none) := gb_trans HG2.out hg
        clear ho hg
        go_wp2
        exact bodyPost_ret (results_tmp (t := 6) rfl _ _ _) rfl ⟨vo, rfl, HOO.out, HG.out⟩
end Go.Proofs.YtenomeopkncaaaaGreatDoor
