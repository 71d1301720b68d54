import Derived.Test.YtjbmgnnkbpgngaaDoorM29
/-
  ordered of the law, walked, of a normal list.
-/
namespace Go.Proofs.YtjbmgnnkbpgngaaDoor
open Go.RowKit
set_option linter.unusedVariables false

set_option maxRecDepth 100000 in
set_option maxHeartbeats 6400000 in
theorem ordered_at (a : Addr) (cap : Nat) (T : List V) (L : List Sp) (w : World) (hLT : L = outs T) (hT : Rising T) (hsm : ∀ s ∈ L, smallS s) (hL : L.length < 2 ^ 62) (hcap : L.length ≤ cap) (h : SpAt w a L) :
    Calls Tryd.prog 14 #[.slice (some a) L.length cap] w fun e w' => e = .returned (.bool true) ∧ w.grownBy w' none := by
  have HC : Hid (SpAt w a L) := h
  have HS : Hid (∀ s ∈ L, smallS s) := hsm
  have HT : Hid (∀ (i : Nat) (s : Sp), L[i]? = some s → ∃ x y o, s = spV x y o ∧ (o = true → y = zeroV0 ∧ i + 1 = L.length) ∧ (o = false → verC x y = -1) ∧ (∀ j p, j + 1 = i → L[j]? = some p → ∃ x' y', p = spV x' y' false ∧ verC y' x = -1)) := by
    subst hLT; exact outs_at T hT
  clear h hsm hLT hT
  go_enter Tryd.func14, Tryd.ntmps14
  go_wp2
  go_loopw [3] (fun vi wr => ∃ i : Nat, vi = .int .i64 i ∧ i ≤ L.length ∧ w.grownBy wr none) (fun vi _ => L.length - (intOf vi).toNat)
  case atStart => exact ⟨0, rfl, Nat.zero_le _, gb_refl _ _⟩
  case round =>
    obtain ⟨i, rfl, hi, hg⟩ := hrel
    have HG : Hid (w.grownBy wr none) := hg
    clear hg
    by_cases hlt : i < L.length
    · obtain ⟨s, hs⟩ : ∃ s, L[i] = s := ⟨_, rfl⟩
      obtain ⟨x, y, ob, hsp, ho1, ho2, hpv⟩ := HT.out i s (by rw [← hs]; exact List.getElem?_eq_getElem _)
      have HE : Hid (EltAt wr (a.add (i * 11)) s) := by show EltAt wr _ s; rw [← hs]; exact (HC.out i hlt).grow HG.out
      have hm : smallS s := by rw [← hs]; exact HS.out _ (List.getElem_mem hlt)
      have CF : Hid (∀ w, Calls Tryd.prog 20 #[.agg #[.int .i64 s.f1, .int .i64 s.f2, .int .i64 s.f3, .string s.f4, .string s.f5], .agg #[.int .i64 s.t1, .int .i64 s.t2, .int .i64 s.t3, .string s.t4, .string s.t5]] w fun e w' => e = .returned (.int .i64 (verC (cFrom s) (cTo s))) ∧ w.grownBy w' none) := fun w => compare_any s.f1 s.f2 s.f3 s.t1 s.t2 s.t3 s.f4 s.f5 s.t4 s.t5 w (by have := hm.1; omega) (by have := hm.2.2.1; omega)
      subst hsp
      rw [cFrom_spV, cTo_spV] at CF
      obtain ⟨x1, x2, x3, x4⟩ := x
      obtain ⟨y1, y2, y3, y4⟩ := y
      obtain ⟨xb, hxb⟩ : ∃ b : ByteArray, ⟨x4.toArray⟩ = b := ⟨_, rfl⟩
      obtain ⟨yb, hyb⟩ : ∃ b : ByteArray, ⟨y4.toArray⟩ = b := ⟨_, rfl⟩
      simp only [spV] at HE CF
      rw [hxb, hyb] at HE CF
      obtain ⟨c, hc⟩ : ∃ c, verC ⟨x1, x2, x3, x4⟩ ⟨y1, y2, y3, y4⟩ = c := ⟨_, rfl⟩
      rw [hc] at CF ho2
      have hxs : xb.size ≤ 1048576 := by rw [← hxb]; exact hm.1
      -- the one ahead
      have HPV : Hid (∀ j, j + 1 = i → ∃ p, EltAt wr (a.add (j * 11)) p ∧ p.o = false ∧ (∀ w, Calls Tryd.prog 20 #[.agg #[.int .i64 p.t1, .int .i64 p.t2, .int .i64 p.t3, .string p.t4, .string p.t5], .agg #[.int .i64 x1, .int .i64 x2, .int .i64 x3, .string xb, .string ⟨#[]⟩]] w fun e w' => e = .returned (.int .i64 (-1)) ∧ w.grownBy w' none)) := by
        intro j hj
        have hjl : j < L.length := by omega
        obtain ⟨x', y', hp, hv⟩ := hpv j L[j] hj (List.getElem?_eq_getElem _)
        refine ⟨L[j], (HC.out j hjl).grow HG.out, by rw [hp]; rfl, fun w => ?_⟩
        have hm' := HS.out _ (List.getElem_mem hjl)
        have := compare_any L[j].t1 L[j].t2 L[j].t3 x1 x2 x3 L[j].t4 L[j].t5 xb ⟨#[]⟩ w (by have := hm'.2.2.1; omega) (by omega)
        have e1 : (⟨L[j].t1, L[j].t2, L[j].t3, L[j].t4.data.toList⟩ : V) = y' := by
          have := cTo_spV x' y' false
          rw [← hp] at this
          exact this
        have e2 : xb.data.toList = x4 := by rw [← hxb]
        rw [e1, e2, hv] at this
        exact this
      have hop : ob = true → yb = ⟨#[]⟩ ∧ y1 = 0 ∧ y2 = 0 ∧ y3 = 0 ∧ i + 1 = L.length := by
        intro h
        obtain ⟨h1, h2⟩ := ho1 h
        simp only [zeroV0, V.mk.injEq] at h1
        obtain ⟨h3, h4, h5, h6⟩ := h1
        refine ⟨?_, h3, h4, h5, h2⟩
        rw [← hyb, h6]
      clear hc hxb hyb hm hs hpv ho1 hxs HT
      obtain ⟨e0, e1, e2, e3, e4, e5, e6, e7, e8, e9, e10⟩ := HE.out
      dsimp only at e0 e1 e2 e3 e4 e5 e6 e7 e8 e9 e10
      obtain ⟨N, hN⟩ : ∃ N, wr.heap.size = N := ⟨_, rfl⟩
      cases ob with
      | true =>
        obtain ⟨rfl, rfl, rfl, rfl, hend⟩ := hop rfl
        clear hop ho2
        go_wp2_with (first | (go_at_call 20; refine (CF.out _).mono ?_))
        rintro e w1 ⟨rfl, hg⟩
        have HE1 : Hid (EltAt w1 ⟨N, 0, none⟩ ⟨x1, x2, x3, xb, ⟨#[]⟩, 0, 0, 0, ⟨#[]⟩, ⟨#[]⟩, true⟩) := by
          refine EltAt.grow ?_ hg
          rw [← hN]
          exact elt_row (t := 47) (heap_alloc_new wr _)
        have HG2 : Hid (wr.grownBy w1 none) := gb_trans (gb_alloc (gb_refl wr none) _) hg
        try rw [hN]
        clear hN hg e0 e1 e2 e3 e4 e5 e6 e7 e8 e9 e10
        obtain ⟨d0, d1, d2, d3, d4, d5, d6, d7, d8, d9, d10⟩ := HE1.out
        simp only [Nat.zero_add] at d0 d1 d2 d3 d4 d5 d6 d7 d8 d9 d10
        by_cases hi0 : i = 0
        · have hi1 : ¬ ((i : Int) > 0) := by omega
          have HI : Hid (i = 0) := hi0
          clear hi0
          go_wp2
          go_roundw
          case rel => exact ⟨i + 1, by go_num, by omega, gb_trans HG.out HG2.out⟩
          case measure => simp [intOf]; omega
        · obtain ⟨j, hj⟩ : ∃ j, j + 1 = i := ⟨i - 1, by omega⟩
          obtain ⟨p, hpE, hpo, hpC⟩ := HPV.out j hj
          have HPE : Hid (EltAt w1 (a.add (j * 11)) p) := hpE.grow HG2.out
          have HPC : Hid (∀ w, Calls Tryd.prog 20 #[.agg #[.int .i64 p.t1, .int .i64 p.t2, .int .i64 p.t3, .string p.t4, .string p.t5], .agg #[.int .i64 x1, .int .i64 x2, .int .i64 x3, .string xb, .string ⟨#[]⟩]] w fun e w' => e = .returned (.int .i64 (-1)) ∧ w.grownBy w' none) := hpC
          have hi1 : (i : Int) > 0 := by omega
          have hi2 : IntKind.i64.wrap ((i : Int) - 1) = (j : Int) := by rw [IntKind.wrap_i64]; omega
          have hjl : j < L.length := by omega
          have HJ : Hid (j + 1 = i) := hj
          clear hi0 hj hpE hpC
          obtain ⟨f0, f1, f2, f3, f4, f5, f6, f7, f8, f9, f10⟩ := HPE.out
          rw [hpo] at f10
          have hi3 : (0 : Int) ≤ (j : Int) := by omega
          have hi4 : (j : Int) < (L.length : Int) := by omega
          go_wp2
          go_region_held3 (fun w' => w'.cell? ⟨N, 0, none⟩ = some (.int .i64 x1) ∧ w'.cell? ⟨N, 1, none⟩ = some (.int .i64 x2) ∧ w'.cell? ⟨N, 2, none⟩ = some (.int .i64 x3) ∧ w'.cell? ⟨N, 3, none⟩ = some (.string xb) ∧ w'.cell? ⟨N, 4, none⟩ = some (.string ⟨#[]⟩) ∧ w'.cell? ⟨(a.add (j * 11)).block, (a.add (j * 11)).off + 5, none⟩ = some (.int .i64 p.t1) ∧ w'.cell? ⟨(a.add (j * 11)).block, (a.add (j * 11)).off + 6, none⟩ = some (.int .i64 p.t2) ∧ w'.cell? ⟨(a.add (j * 11)).block, (a.add (j * 11)).off + 7, none⟩ = some (.int .i64 p.t3) ∧ w'.cell? ⟨(a.add (j * 11)).block, (a.add (j * 11)).off + 8, none⟩ = some (.string p.t4) ∧ w'.cell? ⟨(a.add (j * 11)).block, (a.add (j * 11)).off + 9, none⟩ = some (.string p.t5)) ((first | exact keep15 (by assumption) (by assumption) | go_keep)) (first | (go_at_call 20; refine (HPC.out _).mono ?_; rintro e w2 ⟨rfl, hg⟩))
          replace HG2 : Hid (wr.grownBy w2 none) := gb_trans HG2.out (gb_undrew hg)
          replace HPE : Hid (EltAt w2 (a.add (j * 11)) p) := HPE.out.grow (gb_undrew hg)
          clear hg f0 f1 f2 f3 f4 f5 f6 f7 f8 f9 f10 d0 d1 d2 d3 d4 d5 d6 d7 d8 d9 d10 HE1
          obtain ⟨f0, f1, f2, f3, f4, f5, f6, f7, f8, f9, f10⟩ := HPE.out
          rw [hpo] at f10
          clear hpo
          go_wp2
          go_roundw
          case rel => exact ⟨i + 1, by go_num, by omega, gb_trans HG.out HG2.out⟩
          case measure => simp [intOf]; omega
      | false =>
        have hc1 := ho2 rfl
        subst hc1
        clear hop ho2
        go_wp2_with (first | (go_at_call 20; refine (CF.out _).mono ?_))
        rintro e w1 ⟨rfl, hg⟩
        have HE1 : Hid (EltAt w1 ⟨N, 0, none⟩ ⟨x1, x2, x3, xb, ⟨#[]⟩, y1, y2, y3, yb, ⟨#[]⟩, false⟩) := by
          refine EltAt.grow ?_ hg
          rw [← hN]
          exact elt_row (t := 47) (heap_alloc_new wr _)
        have HG2 : Hid (wr.grownBy w1 none) := gb_trans (gb_alloc (gb_refl wr none) _) hg
        try rw [hN]
        clear hN hg e0 e1 e2 e3 e4 e5 e6 e7 e8 e9 e10
        obtain ⟨d0, d1, d2, d3, d4, d5, d6, d7, d8, d9, d10⟩ := HE1.out
        simp only [Nat.zero_add] at d0 d1 d2 d3 d4 d5 d6 d7 d8 d9 d10
        by_cases hi0 : i = 0
        · have hi1 : ¬ ((i : Int) > 0) := by omega
          have HI : Hid (i = 0) := hi0
          clear hi0
          go_wp2
          go_roundw
          case rel => exact ⟨i + 1, by go_num, by omega, gb_trans HG.out HG2.out⟩
          case measure => simp [intOf]; omega
        · obtain ⟨j, hj⟩ : ∃ j, j + 1 = i := ⟨i - 1, by omega⟩
          obtain ⟨p, hpE, hpo, hpC⟩ := HPV.out j hj
          have HPE : Hid (EltAt w1 (a.add (j * 11)) p) := hpE.grow HG2.out
          have HPC : Hid (∀ w, Calls Tryd.prog 20 #[.agg #[.int .i64 p.t1, .int .i64 p.t2, .int .i64 p.t3, .string p.t4, .string p.t5], .agg #[.int .i64 x1, .int .i64 x2, .int .i64 x3, .string xb, .string ⟨#[]⟩]] w fun e w' => e = .returned (.int .i64 (-1)) ∧ w.grownBy w' none) := hpC
          have hi1 : (i : Int) > 0 := by omega
          have hi2 : IntKind.i64.wrap ((i : Int) - 1) = (j : Int) := by rw [IntKind.wrap_i64]; omega
          have hjl : j < L.length := by omega
          have HJ : Hid (j + 1 = i) := hj
          clear hi0 hj hpE hpC
          obtain ⟨f0, f1, f2, f3, f4, f5, f6, f7, f8, f9, f10⟩ := HPE.out
          rw [hpo] at f10
          have hi3 : (0 : Int) ≤ (j : Int) := by omega
          have hi4 : (j : Int) < (L.length : Int) := by omega
          go_wp2
          go_region_held3 (fun w' => w'.cell? ⟨N, 0, none⟩ = some (.int .i64 x1) ∧ w'.cell? ⟨N, 1, none⟩ = some (.int .i64 x2) ∧ w'.cell? ⟨N, 2, none⟩ = some (.int .i64 x3) ∧ w'.cell? ⟨N, 3, none⟩ = some (.string xb) ∧ w'.cell? ⟨N, 4, none⟩ = some (.string ⟨#[]⟩) ∧ w'.cell? ⟨(a.add (j * 11)).block, (a.add (j * 11)).off + 5, none⟩ = some (.int .i64 p.t1) ∧ w'.cell? ⟨(a.add (j * 11)).block, (a.add (j * 11)).off + 6, none⟩ = some (.int .i64 p.t2) ∧ w'.cell? ⟨(a.add (j * 11)).block, (a.add (j * 11)).off + 7, none⟩ = some (.int .i64 p.t3) ∧ w'.cell? ⟨(a.add (j * 11)).block, (a.add (j * 11)).off + 8, none⟩ = some (.string p.t4) ∧ w'.cell? ⟨(a.add (j * 11)).block, (a.add (j * 11)).off + 9, none⟩ = some (.string p.t5)) ((first | exact keep15 (by assumption) (by assumption) | go_keep)) (first | (go_at_call 20; refine (HPC.out _).mono ?_; rintro e w2 ⟨rfl, hg⟩))
          replace HG2 : Hid (wr.grownBy w2 none) := gb_trans HG2.out (gb_undrew hg)
          replace HPE : Hid (EltAt w2 (a.add (j * 11)) p) := HPE.out.grow (gb_undrew hg)
          clear hg f0 f1 f2 f3 f4 f5 f6 f7 f8 f9 f10 d0 d1 d2 d3 d4 d5 d6 d7 d8 d9 d10 HE1
          obtain ⟨f0, f1, f2, f3, f4, f5, f6, f7, f8, f9, f10⟩ := HPE.out
          rw [hpo] at f10
          clear hpo
          go_wp2
          go_roundw
          case rel => exact ⟨i + 1, by go_num, by omega, gb_trans HG.out HG2.out⟩
          case measure => simp [intOf]; omega
    · clear hi
      go_wp2
      go_ret
      exact ⟨rfl, HG.out⟩
end Go.Proofs.YtjbmgnnkbpgngaaDoor
