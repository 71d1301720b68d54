import Derived.Test.YtegapdmbpkfpmaaGreatDoorM17
import Derived.Test.YtegapdmbpkfpmaaGreatDoorM32
import Derived.Test.YtegapdmbpkfpmaaGreatDoorM33
import Derived.Test.YtegapdmbpkfpmaaGreatDoorM44
import Derived.Test.YtegapdmbpkfpmaaGreatDoorM05
import Derived.Test.YtegapdmbpkfpmaaGreatDoorM08
import Derived.Test.YtegapdmbpkfpmaaGreatDoorM10
import Derived.Test.YtegapdmbpkfpmaaGreatDoorRows
import Derived.ProofKit
import Derived.OpenShut
import Derived.ShutString
import Derived.SizedLaws
import Derived.Lib.SmallJoins
/-
  ordered of the law, walked, of a normal list.
-/
namespace Go.Proofs.YtegapdmbpkfpmaaGreatDoor
open Go.RowKit
set_option linter.unusedVariables false

set_option maxRecDepth 100000 in
set_option maxHeartbeats 6400000 in
theorem ordered_at (a : Addr) (cap : Nat) (T : List V) (L : List Sp) (w : World) (hLT : L = outs T) (hT : Rising T) (hsm : ∀ s ∈ L, smallS s) (hL : L.length < 2 ^ 62) (hcap : L.length ≤ cap) (h : SpAt w a L) :
    Calls Tryz.prog 22 #[.slice (some a) L.length cap] w fun e w' => e = .returned (.bool true) ∧ w.grownBy w' none := by
  have HC : Hid (SpAt w a L) := h
  have HS : Hid (∀ s ∈ L, smallS s) := hsm
  have HT : Hid (∀ (i : Nat) (s : Sp), L[i]? = some s → ∃ x y o, s = spV x y o ∧ (o = true → y = zeroV0 ∧ i + 1 = L.length) ∧ (o = false → verC x y = -1) ∧ (∀ j p, j + 1 = i → L[j]? = some p → ∃ x' y', p = spV x' y' false ∧ verC y' x = -1)) := by
    subst hLT; exact outs_at T hT
  clear h hsm hLT hT
  go_enter Tryz.func22, Tryz.ntmps22
  go_wp2
  go_loopw [3] (fun vi wr => ∃ i : Nat, vi = .int .i64 i ∧ i ≤ L.length ∧ w.grownBy wr none) (fun vi _ => L.length - (intOf vi).toNat)
  case atStart => exact ⟨0, rfl, Nat.zero_le _, gb_refl _ _⟩
  case round =>
    obtain ⟨i, rfl, hi, hg⟩ := hrel
    have HG : Hid (w.grownBy wr none) := hg
    clear hg
    by_cases hlt : i < L.length
    · obtain ⟨s, hs⟩ : ∃ s, L[i] = s := ⟨_, rfl⟩
      obtain ⟨x, y, ob, hsp, ho1, ho2, hpv⟩ := HT.out i s (by rw [← hs]; exact List.getElem?_eq_getElem _)
      have HE : Hid (EltAt wr (a.add (i * 11)) s) := by show EltAt wr _ s; rw [← hs]; exact (HC.out i hlt).grow HG.out
      have hm : smallS s := by rw [← hs]; exact HS.out _ (List.getElem_mem hlt)
      have CF : Hid (∀ w, Calls Tryz.prog 44 #[.agg #[.int .i64 s.f1, .int .i64 s.f2, .int .i64 s.f3, .string s.f4, .string s.f5], .agg #[.int .i64 s.t1, .int .i64 s.t2, .int .i64 s.t3, .string s.t4, .string s.t5]] w fun e w' => e = .returned (.int .i64 (verC (cFrom s) (cTo s))) ∧ w.grownBy w' none) := fun w => compare_any s.f1 s.f2 s.f3 s.t1 s.t2 s.t3 s.f4 s.f5 s.t4 s.t5 w (by have := hm.1; omega) (by have := hm.2.2.1; omega)
      subst hsp
      rw [cFrom_spV, cTo_spV] at CF
      obtain ⟨x1, x2, x3, x4⟩ := x
      obtain ⟨y1, y2, y3, y4⟩ := y
      obtain ⟨xb, hxb⟩ : ∃ b : ByteArray, ⟨x4.toArray⟩ = b := ⟨_, rfl⟩
      obtain ⟨yb, hyb⟩ : ∃ b : ByteArray, ⟨y4.toArray⟩ = b := ⟨_, rfl⟩
      simp only [spV] at HE CF
      rw [hxb, hyb] at HE CF
      obtain ⟨c, hc⟩ : ∃ c, verC ⟨x1, x2, x3, x4⟩ ⟨y1, y2, y3, y4⟩ = c := ⟨_, rfl⟩
      rw [hc] at CF ho2
      have hxs : xb.size ≤ 1048576 := by rw [← hxb]; exact hm.1
      -- the one ahead
      have HPV : Hid (∀ j, j + 1 = i → ∃ p, EltAt wr (a.add (j * 11)) p ∧ p.o = false ∧ (∀ w, Calls Tryz.prog 44 #[.agg #[.int .i64 p.t1, .int .i64 p.t2, .int .i64 p.t3, .string p.t4, .string p.t5], .agg #[.int .i64 x1, .int .i64 x2, .int .i64 x3, .string xb, .string ⟨#[]⟩]] w fun e w' => e = .returned (.int .i64 (-1)) ∧ w.grownBy w' none)) := by
        intro j hj
        have hjl : j < L.length := by omega
        obtain ⟨x', y', hp, hv⟩ := hpv j L[j] hj (List.getElem?_eq_getElem _)
        refine ⟨L[j], (HC.out j hjl).grow HG.out, by rw [hp]; rfl, fun w => ?_⟩
        have hm' := HS.out _ (List.getElem_mem hjl)
        have := compare_any L[j].t1 L[j].t2 L[j].t3 x1 x2 x3 L[j].t4 L[j].t5 xb ⟨#[]⟩ w (by have := hm'.2.2.1; omega) (by omega)
        have e1 : (⟨L[j].t1, L[j].t2, L[j].t3, L[j].t4.data.toList⟩ : V) = y' := by
          have := cTo_spV x' y' false
          rw [← hp] at this
          exact this
        have e2 : xb.data.toList = x4 := by rw [← hxb]
        rw [e1, e2, hv] at this
        exact this
      have hop : ob = true → yb = ⟨#[]⟩ ∧ y1 = 0 ∧ y2 = 0 ∧ y3 = 0 ∧ i + 1 = L.length := by
        intro h
        obtain ⟨h1, h2⟩ := ho1 h
        simp only [zeroV0, V.mk.injEq] at h1
        obtain ⟨h3, h4, h5, h6⟩ := h1
        refine ⟨?_, h3, h4, h5, h2⟩
        rw [← hyb, h6]
      clear hc hxb hyb hm hs hpv ho1 hxs HT
      obtain ⟨e0, e1, e2, e3, e4, e5, e6, e7, e8, e9, e10⟩ := HE.out
      dsimp only at e0 e1 e2 e3 e4 e5 e6 e7 e8 e9 e10
      obtain ⟨N, hN⟩ : ∃ N, wr.heap.size = N := ⟨_, rfl⟩
      cases ob with
      | true =>
        obtain ⟨rfl, rfl, rfl, rfl, hend⟩ := hop rfl
        clear hop ho2
        go_wp2_with (first | (go_at_call 44; refine (CF.out _).mono ?_))
        rintro e w1 ⟨rfl, hg⟩
        have HE1 : Hid (EltAt w1 ⟨N, 0, none⟩ ⟨x1, x2, x3, xb, ⟨#[]⟩, 0, 0, 0, ⟨#[]⟩, ⟨#[]⟩, true⟩) := by
          refine EltAt.grow ?_ hg
          rw [← hN]
          exact elt_row (t := 37) (heap_alloc_new wr _)
        have HG2 : Hid (wr.grownBy w1 none) := gb_trans (gb_alloc (gb_refl wr none) _) hg
        try rw [hN]
        clear hN hg e0 e1 e2 e3 e4 e5 e6 e7 e8 e9 e10
        obtain ⟨d0, d1, d2, d3, d4, d5, d6, d7, d8, d9, d10⟩ := HE1.out
        simp only [Nat.zero_add] at d0 d1 d2 d3 d4 d5 d6 d7 d8 d9 d10
        by_cases hi0 : i = 0
        · have hi1 : ¬ ((i : Int) > 0) := by omega
          have HI : Hid (i = 0) := hi0
          clear hi0
          go_wp2
          go_roundw
          case rel => exact ⟨i + 1, by go_num, by omega, gb_trans HG.out HG2.out⟩
          case measure => simp [intOf]; omega
        · obtain ⟨j, hj⟩ : ∃ j, j + 1 = i := ⟨i - 1, by omega⟩
          obtain ⟨p, hpE, hpo, hpC⟩ := HPV.out j hj
          have HPE : Hid (EltAt w1 (a.add (j * 11)) p) := hpE.grow HG2.out
          have HPC : Hid (∀ w, Calls Tryz.prog 44 #[.agg #[.int .i64 p.t1, .int .i64 p.t2, .int .i64 p.t3, .string p.t4, .string p.t5], .agg #[.int .i64 x1, .int .i64 x2, .int .i64 x3, .string xb, .string ⟨#[]⟩]] w fun e w' => e = .returned (.int .i64 (-1)) ∧ w.grownBy w' none) := hpC
          have hi1 : (i : Int) > 0 := by omega
          have hi2 : IntKind.i64.wrap ((i : Int) - 1) = (j : Int) := by rw [IntKind.wrap_i64]; omega
          have hjl : j < L.length := by omega
          have HJ : Hid (j + 1 = i) := hj
          clear hi0 hj hpE hpC
          obtain ⟨f0, f1, f2, f3, f4, f5, f6, f7, f8, f9, f10⟩ := HPE.out
          rw [hpo] at f10
          have hi3 : (0 : Int) ≤ (j : Int) := by omega
          have hi4 : (j : Int) < (L.length : Int) := by omega
          go_wp2
          go_region_held3 (fun w' => w'.cell? ⟨N, 0, none⟩ = some (.int .i64 x1) ∧ w'.cell? ⟨N, 1, none⟩ = some (.int .i64 x2) ∧ w'.cell? ⟨N, 2, none⟩ = some (.int .i64 x3) ∧ w'.cell? ⟨N, 3, none⟩ = some (.string xb) ∧ w'.cell? ⟨N, 4, none⟩ = some (.string ⟨#[]⟩) ∧ w'.cell? ⟨(a.add (j * 11)).block, (a.add (j * 11)).off + 5, none⟩ = some (.int .i64 p.t1) ∧ w'.cell? ⟨(a.add (j * 11)).block, (a.add (j * 11)).off + 6, none⟩ = some (.int .i64 p.t2) ∧ w'.cell? ⟨(a.add (j * 11)).block, (a.add (j * 11)).off + 7, none⟩ = some (.int .i64 p.t3) ∧ w'.cell? ⟨(a.add (j * 11)).block, (a.add (j * 11)).off + 8, none⟩ = some (.string p.t4) ∧ w'.cell? ⟨(a.add (j * 11)).block, (a.add (j * 11)).off + 9, none⟩ = some (.string p.t5)) ((first | exact keep15 (by assumption) (by assumption) | go_keep)) (first | (go_at_call 44; refine (HPC.out _).mono ?_; rintro e w2 ⟨rfl, hg⟩))
          replace HG2 : Hid (wr.grownBy w2 none) := gb_trans HG2.out (gb_undrew hg)
          replace HPE : Hid (EltAt w2 (a.add (j * 11)) p) := HPE.out.grow (gb_undrew hg)
          clear hg f0 f1 f2 f3 f4 f5 f6 f7 f8 f9 f10 d0 d1 d2 d3 d4 d5 d6 d7 d8 d9 d10 HE1
          obtain ⟨f0, f1, f2, f3, f4, f5, f6, f7, f8, f9, f10⟩ := HPE.out
          rw [hpo] at f10
          clear hpo
          go_wp2
          go_roundw
          case rel => exact ⟨i + 1, by go_num, by omega, gb_trans HG.out HG2.out⟩
          case measure => simp [intOf]; omega
      | false =>
        have hc1 := ho2 rfl
        subst hc1
        clear hop ho2
        go_wp2_with (first | (go_at_call 44; refine (CF.out _).mono ?_))
        rintro e w1 ⟨rfl, hg⟩
        have HE1 : Hid (EltAt w1 ⟨N, 0, none⟩ ⟨x1, x2, x3, xb, ⟨#[]⟩, y1, y2, y3, yb, ⟨#[]⟩, false⟩) := by
          refine EltAt.grow ?_ hg
          rw [← hN]
          exact elt_row (t := 37) (heap_alloc_new wr _)
        have HG2 : Hid (wr.grownBy w1 none) := gb_trans (gb_alloc (gb_refl wr none) _) hg
        try rw [hN]
        clear hN hg e0 e1 e2 e3 e4 e5 e6 e7 e8 e9 e10
        obtain ⟨d0, d1, d2, d3, d4, d5, d6, d7, d8, d9, d10⟩ := HE1.out
        simp only [Nat.zero_add] at d0 d1 d2 d3 d4 d5 d6 d7 d8 d9 d10
        by_cases hi0 : i = 0
        · have hi1 : ¬ ((i : Int) > 0) := by omega
          have HI : Hid (i = 0) := hi0
          clear hi0
          go_wp2
          go_roundw
          case rel => exact ⟨i + 1, by go_num, by omega, gb_trans HG.out HG2.out⟩
          case measure => simp [intOf]; omega
        · obtain ⟨j, hj⟩ : ∃ j, j + 1 = i := ⟨i - 1, by omega⟩
          obtain ⟨p, hpE, hpo, hpC⟩ := HPV.out j hj
          have HPE : Hid (EltAt w1 (a.add (j * 11)) p) := hpE.grow HG2.out
          have HPC : Hid (∀ w, Calls Tryz.prog 44 #[.agg #[.int .i64 p.t1, .int .i64 p.t2, .int .i64 p.t3, .string p.t4, .string p.t5], .agg #[.int .i64 x1, .int .i64 x2, .int .i64 x3, .string xb, .string ⟨#[]⟩]] w fun e w' => e = .returned (.int .i64 (-1)) ∧ w.grownBy w' none) := hpC
          have hi1 : (i : Int) > 0 := by omega
          have hi2 : IntKind.i64.wrap ((i : Int) - 1) = (j : Int) := by rw [IntKind.wrap_i64]; omega
          have hjl : j < L.length := by omega
          have HJ : Hid (j + 1 = i) := hj
          clear hi0 hj hpE hpC
          obtain ⟨f0, f1, f2, f3, f4, f5, f6, f7, f8, f9, f10⟩ := HPE.out
          rw [hpo] at f10
          have hi3 : (0 : Int) ≤ (j : Int) := by omega
          have hi4 : (j : Int) < (L.length : Int) := by omega
          go_wp2
          go_region_held3 (fun w' => w'.cell? ⟨N, 0, none⟩ = some (.int .i64 x1) ∧ w'.cell? ⟨N, 1, none⟩ = some (.int .i64 x2) ∧ w'.cell? ⟨N, 2, none⟩ = some (.int .i64 x3) ∧ w'.cell? ⟨N, 3, none⟩ = some (.string xb) ∧ w'.cell? ⟨N, 4, none⟩ = some (.string ⟨#[]⟩) ∧ w'.cell? ⟨(a.add (j * 11)).block, (a.add (j * 11)).off + 5, none⟩ = some (.int .i64 p.t1) ∧ w'.cell? ⟨(a.add (j * 11)).block, (a.add (j * 11)).off + 6, none⟩ = some (.int .i64 p.t2) ∧ w'.cell? ⟨(a.add (j * 11)).block, (a.add (j * 11)).off + 7, none⟩ = some (.int .i64 p.t3) ∧ w'.cell? ⟨(a.add (j * 11)).block, (a.add (j * 11)).off + 8, none⟩ = some (.string p.t4) ∧ w'.cell? ⟨(a.add (j * 11)).block, (a.add (j * 11)).off + 9, none⟩ = some (.string p.t5)) ((first | exact keep15 (by assumption) (by assumption) | go_keep)) (first | (go_at_call 44; refine (HPC.out _).mono ?_; rintro e w2 ⟨rfl, hg⟩))
          replace HG2 : Hid (wr.grownBy w2 none) := gb_trans HG2.out (gb_undrew hg)
          replace HPE : Hid (EltAt w2 (a.add (j * 11)) p) := HPE.out.grow (gb_undrew hg)
          clear hg f0 f1 f2 f3 f4 f5 f6 f7 f8 f9 f10 d0 d1 d2 d3 d4 d5 d6 d7 d8 d9 d10 HE1
          obtain ⟨f0, f1, f2, f3, f4, f5, f6, f7, f8, f9, f10⟩ := HPE.out
          rw [hpo] at f10
          clear hpo
          go_wp2
          go_roundw
          case rel => exact ⟨i + 1, by go_num, by omega, gb_trans HG.out HG2.out⟩
          case measure => simp [intOf]; omega
    · clear hi
      go_wp2
      go_ret
      exact ⟨rfl, HG.out⟩
end Go.Proofs.YtegapdmbpkfpmaaGreatDoor

/-
  The program's Admits, and two laws of it, walked.
-/
namespace Go.Proofs.YtegapdmbpkfpmaaGreatDoor
open Go.RowKit
set_option linter.unusedVariables false

theorem vok_sound {a1 a2 a3 : Int} {a4 a5 : List UInt8} (h : soundV ⟨a1, a2, a3, a4, a5⟩ = true) : VOk ⟨a1, a2, a3, a4⟩ := by
  unfold soundV at h
  simp only [Bool.and_eq_true, bound_iff] at h
  exact ⟨h.1.1, h.2.1.1, h.2.2.1.1, h.2.2.2.1⟩
def AdmP (E : Int) (K : Nat) (sd π : Bool) (b : Bool) (E' K' : Int) : Prop :=
  (¬ E = 0 → b = false ∧ E' = E ∧ K' = K) ∧ (E = 0 → sd = false → b = false ∧ E' = 7 ∧ K' = 0) ∧ (E = 0 → sd = true → b = π ∧ E' = 0 ∧ K' = 0)
set_option maxRecDepth 100000 in
set_option maxHeartbeats 3200000 in
theorem padmits_any (s : ByteArray) (v1 v2 v3 : Int) (v4 v5 : ByteArray) (w : World) (hs : s.size < 2 ^ 62) (h4 : v4.size ≤ 1048576) (h5 : v5.size ≤ 1048576) :
    Calls Tryz.prog 17 #[.string s, .agg #[.int .i64 v1, .int .i64 v2, .int .i64 v3, .string v4, .string v5]] w fun e w' => ∃ (b : Bool) (E' K' : Int), e = .returned (.tuple #[.bool b, .int .i64 E', .int .i64 K']) ∧ w.grownBy w' none ∧ AdmP (rdRange s.data.toList).1 (rdRange s.data.toList).2.1 (soundV ⟨v1, v2, v3, v4.data.toList, v5.data.toList⟩) (admS (rdRange s.data.toList).2.2 ⟨v1, v2, v3, v4.data.toList⟩) b E' K' := by
  have CP : Hid (∀ w, Calls Tryz.prog 11 #[.string s] w (ParsePost (rdRange s.data.toList) w)) := fun w => rparse_any s w hs
  obtain ⟨sd, hsd⟩ : ∃ sd, soundV ⟨v1, v2, v3, v4.data.toList, v5.data.toList⟩ = sd := ⟨_, rfl⟩
  have CS : Hid (∀ w, Calls Tryz.prog 40 #[.agg #[.int .i64 v1, .int .i64 v2, .int .i64 v3, .string v4, .string v5]] w fun e w' => e = .returned (.bool sd) ∧ w.grownBy w' none) := fun w => by rw [← hsd]; exact psound_any v1 v2 v3 v4 v5 w (by omega) (by omega)
  have HV : Hid (sd = true → VOk ⟨v1, v2, v3, v4.data.toList⟩) := fun h => vok_sound (hsd.trans h)
  have CH : Hid (∀ (sl : Value) (L : List Sp) (w : World), SpS w sl L → LOk L 70000 → Calls Tryz.prog 21 #[sl, .agg #[.int .i64 v1, .int .i64 v2, .int .i64 v3, .string v4, .string v5]] w fun e w' => e = .returned (.bool (holdsL L ⟨v1, v2, v3, v4.data.toList⟩)) ∧ w.grownBy w' none) := fun sl L w h1 h2 => cHoldsQ sl L v1 v2 v3 v4 v5 w h1 (by have := h2.ln; omega) h2.sm h4
  obtain ⟨E, K, S, hR⟩ : ∃ E K S, rdRange s.data.toList = (E, K, S) := ⟨_, _, _, rfl⟩
  rw [hsd]
  rw [hR] at CP ⊢
  obtain ⟨v, hv⟩ : ∃ v : V, v = ⟨v1, v2, v3, v4.data.toList⟩ := ⟨_, rfl⟩
  rw [← hv] at CH HV ⊢
  obtain ⟨π, hπ⟩ : ∃ π, admS S v = π := ⟨_, rfl⟩
  have Hπ : Hid (admS S v = π) := hπ
  simp only [] at hπ ⊢
  rw [hπ]
  clear hsd hR hv hπ hs h4 h5
  go_enter Tryz.func17, Tryz.ntmps17
  go_wp2_with (first | (go_at_call 11; refine (CP.out _).mono ?_))
  rintro e w1 ⟨o, n, c, rfl, hg, hnz, hok⟩
  obtain ⟨A, hA⟩ : ∃ A, w.heap.size = A := ⟨_, rfl⟩
  have STv : Hid (St A v1 v2 v3 v4 v5 w1) := by show St _ _ _ _ _ _ _; rw [← hA]; exact (st_row (heap_alloc_new w _)).grow hg
  have HG : Hid (w.grownBy w1 none) := gb_trans (gb_alloc (gb_refl w none) _) hg
  have HOK : Hid (E = 0 → ∃ L, SpS w1 (.slice o n c) L ∧ LOk L 70000 ∧ Has L (admS S)) := fun h => by
    obtain ⟨T, h1, h2, h3, h4⟩ := hok h
    exact ⟨_, h1.sps, h2, h4⟩
  try rw [hA]
  clear hA hg hnz hok
  simp only [] at *
  cases hz : (E == 0) with
  | false =>
    have HE0 : Hid (¬ E = 0) := by show ¬ E = 0; simpa using hz
    go_wp2
    refine bodyPost_ret (results_tmp3 (t := 4) (u := 5) (v := 6) rfl _ _ _) rfl ?_
    exact ⟨_, _, _, rfl, HG.out, fun _ => ⟨rfl, rfl, rfl⟩, fun h => absurd h HE0.out, fun h => absurd h HE0.out⟩
  | true =>
    have hE0 : E = 0 := by simpa using hz
    subst hE0
    obtain ⟨L, hl1, hl2, hl3⟩ := HOK.out rfl
    have HL : Hid (SpS w1 (.slice o n c) L ∧ LOk L 70000 ∧ Has L (admS S)) := ⟨hl1, hl2, hl3⟩
    clear hl1 hl2 hl3 HOK hz
    obtain ⟨s1, s2, s3, s4, s5⟩ := STv.out
    go_wp2_with (first | (go_at_call 40; refine (CS.out _).mono ?_))
    rintro e w2 ⟨rfl, hg⟩
    replace STv : Hid (St A v1 v2 v3 v4 v5 w2) := STv.out.grow hg
    replace HG : Hid (w.grownBy w2 none) := gb_trans HG.out hg
    replace HL : Hid (SpS w2 (.slice o n c) L ∧ LOk L 70000 ∧ Has L (admS S)) := ⟨HL.out.1.grow hg, HL.out.2⟩
    clear hg s1 s2 s3 s4 s5
    cases sd with
    | false =>
      go_wp2
      refine bodyPost_ret (results_tmp3 (t := 4) (u := 5) (v := 6) rfl _ _ _) rfl ?_
      exact ⟨_, _, _, rfl, HG.out, fun h => absurd rfl h, fun _ _ => ⟨rfl, rfl, rfl⟩, fun _ h => by cases h⟩
    | true =>
      have HHV : Hid (holdsL L v = π) := by show _ = _; rw [← Hπ.out]; exact HL.out.2.2 v (HV.out (by first | rfl | trivial))
      obtain ⟨s1, s2, s3, s4, s5⟩ := STv.out
      go_wp2_with (first | (go_at_call 21; refine (CH.out _ L _ HL.out.1 HL.out.2.1).mono ?_))
      rintro e w3 ⟨rfl, hg⟩
      replace HG : Hid (w.grownBy w3 none) := gb_trans HG.out hg
      clear hg s1 s2 s3 s4 s5
      rw [HHV.out]
      go_wp2
      refine bodyPost_ret (results_tmp3 (t := 4) (u := 5) (v := 6) rfl _ _ _) rfl ?_
      exact ⟨_, _, _, rfl, HG.out, fun h => absurd rfl h, fun _ h => (by cases h), fun _ _ => ⟨rfl, rfl, rfl⟩⟩

set_option maxRecDepth 100000 in
set_option maxHeartbeats 3200000 in
theorem rangeAdmitsLaw (s : ByteArray) (v1 v2 v3 : Int) (v4 v5 : ByteArray) (w : World) (hs : s.size < 2 ^ 60) (h4 : v4.size ≤ 1048576) (h5 : v5.size ≤ 1048576) :
    Calls Tryz.prog 4 #[.string s, .agg #[.int .i64 v1, .int .i64 v2, .int .i64 v3, .string v4, .string v5]] w fun e w' => e = .returned (.bool true) ∧ w.grownBy w' none := by
  have CV : Hid (∀ w, Calls Tryz.prog 18 #[.agg #[.int .i64 v1, .int .i64 v2, .int .i64 v3, .string v4, .string v5]] w fun e w' => e = .returned (.agg #[.int .i64 v1, .int .i64 v2, .int .i64 v3, .string v4, .string v5]) ∧ w.grownBy w' none) := fun w => vers_any v1 v2 v3 v4 v5 w
  have CA : Hid (∀ w, Calls Tryz.prog 17 #[.string s, .agg #[.int .i64 v1, .int .i64 v2, .int .i64 v3, .string v4, .string v5]] w fun e w' => ∃ (b : Bool) (E' K' : Int), e = .returned (.tuple #[.bool b, .int .i64 E', .int .i64 K']) ∧ w.grownBy w' none ∧ AdmP (rdRange s.data.toList).1 (rdRange s.data.toList).2.1 (soundV ⟨v1, v2, v3, v4.data.toList, v5.data.toList⟩) (admS (rdRange s.data.toList).2.2 ⟨v1, v2, v3, v4.data.toList⟩) b E' K') := fun w => padmits_any s v1 v2 v3 v4 v5 w (by omega) h4 h5
  have CR : Hid (∀ w, Calls Tryz.prog 12 #[.string s] w (RRPost (rdRange s.data.toList) w)) := fun w => readRange_any s w hs
  have CN : Hid (∀ n w, Calls Tryz.prog 13 #[.int .i64 n] w fun e w' => e = .returned (.int .i64 n) ∧ w.grownBy w' none) := fun n w => lnum_gb n w
  have CQ : Hid (∀ (sv : Value) (A : List (List Tq)) (w : World), SsAt w sv A → A.length ≤ 201 → (∀ L ∈ A, L.length ≤ 1000 ∧ ∀ x ∈ L, TqOk x) → Calls Tryz.prog 20 #[sv, .agg #[.int .i64 v1, .int .i64 v2, .int .i64 v3, .string v4, .string v5]] w fun e w' => e = .returned (.bool (admQ A ⟨v1, v2, v3, v4.data.toList⟩)) ∧ w.grownBy w' none) := fun sv A w h1 h2 h3 => admAll_any sv A v1 v2 v3 v4 v5 w h1 h2 h3 h4
  obtain ⟨sd, hsd⟩ : ∃ sd, soundV ⟨v1, v2, v3, v4.data.toList, v5.data.toList⟩ = sd := ⟨_, rfl⟩
  have CS : Hid (∀ w, Calls Tryz.prog 19 #[.agg #[.int .i64 v1, .int .i64 v2, .int .i64 v3, .string v4, .string v5]] w fun e w' => e = .returned (.bool sd) ∧ w.grownBy w' none) := fun w => by rw [← hsd]; exact sound_any v1 v2 v3 v4 v5 w (by omega) (by omega)
  obtain ⟨E, K, S, hR⟩ : ∃ E K S, rdRange s.data.toList = (E, K, S) := ⟨_, _, _, rfl⟩
  rw [hR, hsd] at CA
  rw [hR] at CR
  obtain ⟨v, hv⟩ : ∃ v : V, v = ⟨v1, v2, v3, v4.data.toList⟩ := ⟨_, rfl⟩
  rw [← hv] at CA CQ
  obtain ⟨π, hπ⟩ : ∃ π, admS S v = π := ⟨_, rfl⟩
  have Hπ : Hid (admS S v = π) := hπ
  simp only [] at hπ CA
  rw [hπ] at CA
  clear hsd hR hv hπ hs h4 h5
  go_enter Tryz.func4, Tryz.ntmps4
  obtain ⟨A, hA⟩ : ∃ A, w.heap.size = A := ⟨_, rfl⟩
  have STw : Hid (St A v1 v2 v3 v4 v5 (w.alloc (.cells #[.int .i64 v1, .int .i64 v2, .int .i64 v3, .string v4, .string v5] 39))) := by show St _ _ _ _ _ _ _; rw [← hA]; exact st_row (heap_alloc_new w _)
  go_wp2_with (first | (go_at_call 18; refine (CV.out _).mono ?_))
  rintro e w1 ⟨rfl, hg⟩
  try rw [hA]
  have HG : Hid (w.grownBy w1 none) := gb_trans (gb_alloc (gb_refl w none) _) hg
  have STv : Hid (St A v1 v2 v3 v4 v5 w1) := STw.out.grow hg
  clear hg STw hA
  go_wp2_with (first | (go_at_call 17; refine (CA.out _).mono ?_))
  rintro e w2 ⟨b, E', K', rfl, hg, hadm⟩
  replace STv : Hid (St A v1 v2 v3 v4 v5 w2) := STv.out.grow hg
  replace HG : Hid (w.grownBy w2 none) := gb_trans HG.out hg
  have HAD : Hid (AdmP E K sd π b E' K') := hadm
  clear hg hadm
  go_wp2_with (first | (go_at_call 12; refine (CR.out _).mono ?_))
  rintro e w3 ⟨o, n, c, Q, rfl, hg, hrr⟩
  replace STv : Hid (St A v1 v2 v3 v4 v5 w3) := STv.out.grow hg
  replace HG : Hid (w.grownBy w3 none) := gb_trans HG.out hg
  have HRR : Hid (E = 0 → SsAt w3 (.slice o n c) Q ∧ Q.map (·.map teOf) = S ∧ Q.length ≤ 201 ∧ ∀ L ∈ Q, L.length ≤ 1000 ∧ ∀ x ∈ L, TqOk x) := fun h => by
    obtain ⟨h1, h2, h3, h4⟩ := hrr h
    exact ⟨oa_ss h1, h2, h3, h4⟩
  clear hg hrr
  simp only [] at *
  cases hz : (E == 0) with
  | false =>
    have hE0 : ¬ E = 0 := by simpa using hz
    obtain ⟨rfl, rfl, rfl⟩ := HAD.out.1 hE0
    clear HAD HRR hE0
    go_wp2_with (first | (go_at_call 13; refine (CN.out _ _).mono ?_))
    rintro e w4 ⟨rfl, hg⟩
    replace HG : Hid (w.grownBy w4 none) := gb_trans HG.out hg
    clear hg
    go_wp2
    go_ret
    exact ⟨rfl, HG.out⟩
  | true =>
    have hE0 : E = 0 := by simpa using hz
    subst hE0
    have HQ := HRR.out rfl
    replace HRR : Hid (SsAt w3 (.slice o n c) Q ∧ Q.map (·.map teOf) = S ∧ Q.length ≤ 201 ∧ ∀ L ∈ Q, L.length ≤ 1000 ∧ ∀ x ∈ L, TqOk x) := HQ
    clear HQ hz
    obtain ⟨s1, s2, s3, s4, s5⟩ := STv.out
    go_wp2_with (first | (go_at_call 19; refine (CS.out _).mono ?_))
    rintro e w4 ⟨rfl, hg⟩
    replace STv : Hid (St A v1 v2 v3 v4 v5 w4) := STv.out.grow hg
    replace HG : Hid (w.grownBy w4 none) := gb_trans HG.out hg
    replace HRR : Hid (SsAt w4 (.slice o n c) Q ∧ Q.map (·.map teOf) = S ∧ Q.length ≤ 201 ∧ ∀ L ∈ Q, L.length ≤ 1000 ∧ ∀ x ∈ L, TqOk x) := ⟨HRR.out.1.grow hg, HRR.out.2⟩
    clear hg s1 s2 s3 s4 s5
    cases sd with
    | false =>
      obtain ⟨rfl, rfl, rfl⟩ := HAD.out.2.1 rfl rfl
      clear HAD HRR STv
      go_wp2_with (first | (go_at_call 13; refine (CN.out _ _).mono ?_))
      rintro e w5 ⟨rfl, hg⟩
      replace HG : Hid (w.grownBy w5 none) := gb_trans HG.out hg
      clear hg
      go_wp2
      go_ret
      exact ⟨rfl, HG.out⟩
    | true =>
      obtain ⟨rfl, rfl, rfl⟩ := HAD.out.2.2 rfl rfl
      have HQA : Hid (admQ Q v = b) := by show _ = _; rw [admQ_S, HRR.out.2.1]; exact Hπ.out
      clear HAD
      obtain ⟨s1, s2, s3, s4, s5⟩ := STv.out
      go_wp2_with (first | (go_at_call 20; refine (CQ.out _ Q _ HRR.out.1 HRR.out.2.2.1 HRR.out.2.2.2).mono ?_))
      rintro e w5 ⟨rfl, hg⟩
      replace HG : Hid (w.grownBy w5 none) := gb_trans HG.out hg
      clear hg s1 s2 s3 s4 s5 HRR STv
      rw [HQA.out]
      clear HQA Hπ
      cases b with
      | false =>
        go_wp2_with (first | (go_at_call 13; refine (CN.out _ _).mono ?_))
        rintro e w6 ⟨rfl, hg⟩
        replace HG : Hid (w.grownBy w6 none) := gb_trans HG.out hg
        clear hg
        go_wp2
        go_ret
        exact ⟨rfl, HG.out⟩
      | true =>
        go_wp2_with (first | (go_at_call 13; refine (CN.out _ _).mono ?_))
        rintro e w6 ⟨rfl, hg⟩
        replace HG : Hid (w.grownBy w6 none) := gb_trans HG.out hg
        clear hg
        go_wp2
        go_ret
        exact ⟨rfl, HG.out⟩
end Go.Proofs.YtegapdmbpkfpmaaGreatDoor

/-
  A version among the arguments: opened, shut, weighed.
-/
namespace Go.Proofs.YtegapdmbpkfpmaaGreatDoor
open Go.ChangeShapes Go.WideShapes Go.ChangeAt Go.RowKit Go.Joins
open Go.ChangeMaps (open_string shut_string)
set_option linter.unusedVariables false

theorem cellsVer : Tryz.prog.cellsOf 39 = 5 := by kernel_rfl
theorem array5 {α : Type} {cs : Array α} (h : cs.size = 5) : ∃ c0 c1 c2 c3 c4, cs = #[c0, c1, c2, c3, c4] := by
  obtain ⟨l⟩ := cs
  match l, h with
  | [c0, c1, c2, c3, c4], _ => exact ⟨c0, c1, c2, c3, c4, rfl⟩
/-- how a version reads -/
def datV {H : Type} (a1 a2 a3 : Int) (a4 a5 : ByteArray) : DataW H := .agg [.lit (.int .i64 a1), .lit (.int .i64 a2), .lit (.int .i64 a3), .lit (.string a4.data.toList), .lit (.string a5.data.toList)]
def wfV (a1 a2 a3 : Int) (a4 a5 : ByteArray) : Prop := (Lit.int .i64 a1).wf = true ∧ (Lit.int .i64 a2).wf = true ∧ (Lit.int .i64 a3).wf = true ∧ a4.size ≤ maxLen ∧ a5.size ≤ maxLen

set_option maxRecDepth 100000 in
set_option maxHeartbeats 800000 in
theorem open_ver {H : Type} {enc : TypeId × Value → H} {w : World} {base : Nat} {spare : Nat → Bool} {held : Bool} {r : Reach} {b0 : Nat} {v : Value} {d : DataW H} {p : List MemPlace}
    (hv : Value.okWide Tryz.prog w r b0 39 v) (h : DataW.Trod enc Tryz.prog w base spare held 39 v d p) :
    ∃ (a1 a2 a3 : Int) (a4 a5 : ByteArray), v = .agg #[.int .i64 a1, .int .i64 a2, .int .i64 a3, .string a4, .string a5] ∧ d = datV a1 a2 a3 a4 a5 ∧ p = [] ∧ wfV a1 a2 a3 a4 a5 := by
  have hu := Tryz.underlying39
  obtain ⟨cs, rfl, hsz⟩ := okWide_struct hu hv
  have hsz' : cs.size = 5 := by rw [hsz]; exact cellsVer
  obtain ⟨c0, c1, c2, c3, c4, rfl⟩ := array5 hsz'
  obtain ⟨fuel, hf⟩ := h
  obtain ⟨xs, n, _, hx, hl, hlen, hfs⟩ := DataW.trod_struct hu hf
  simp only [Prod.mk.injEq] at hx
  obtain ⟨rfl, rfl⟩ := hx
  match xs, hlen with
  | [y0, y1, y2, y3, y4], _ =>
    have k3 : Tryz.prog.cellsOf 3 = 1 := by kernel_rfl
    have k9 : Tryz.prog.cellsOf 9 = 1 := by kernel_rfl
    have g0 := hfs 0 _ rfl
    have g1 := hfs 1 _ rfl
    have g2 := hfs 2 _ rfl
    have g3 := hfs 3 _ rfl
    have g4 := hfs 4 _ rfl
    simp [Value.cells, k3, k9] at g0 g1 g2 g3 g4
    obtain ⟨a1, e1, rfl, w1⟩ := DataW.trod_int Tryz.underlying3 g0
    obtain ⟨a2, e2, rfl, w2⟩ := DataW.trod_int Tryz.underlying3 g1
    obtain ⟨a3, e3, rfl, w3⟩ := DataW.trod_int Tryz.underlying3 g2
    obtain ⟨a4, e4, rfl, w4⟩ := DataW.trod_string Tryz.underlying9 g3
    obtain ⟨a5, e5, rfl, w5⟩ := DataW.trod_string Tryz.underlying9 g4
    simp at e1 e2 e3 e4 e5
    subst e1 e2 e3 e4 e5
    exact ⟨a1, a2, a3, a4, a5, rfl, rfl, rfl, w1, w2, w3, w4, w5⟩

set_option maxRecDepth 100000 in
set_option maxHeartbeats 800000 in
theorem shut_ver {H : Type} {enc : TypeId × Value → H} {w : World} {base : Nat} {spare : Nat → Bool} {held : Bool} {a1 a2 a3 : Int} {a4 a5 : ByteArray} (h : wfV a1 a2 a3 a4 a5) :
    DataW.Trod enc Tryz.prog w base spare held 39 (.agg #[.int .i64 a1, .int .i64 a2, .int .i64 a3, .string a4, .string a5]) (datV a1 a2 a3 a4 a5) [] := by
  have hu := Tryz.underlying39
  have k3 : Tryz.prog.cellsOf 3 = 1 := by kernel_rfl
  have k9 : Tryz.prog.cellsOf 9 = 1 := by kernel_rfl
  have u3 := Tryz.underlying3
  have u9 := Tryz.underlying9
  obtain ⟨h1, h2, h3, h4, h5⟩ := h
  refine ⟨2, ?_⟩
  have := trod_struct_mk (enc := enc) (w := w) (base := base) (spare := spare) (held := held) (n := 1) (cs := [.int .i64 a1, .int .i64 a2, .int .i64 a3, .string a4, .string a5])
    (xs := [(.lit (.int .i64 a1), []), (.lit (.int .i64 a2), []), (.lit (.int .i64 a3), []), (.lit (.string a4.data.toList), []), (.lit (.string a5.data.toList), [])]) hu (by rw [cellsVer]; rfl) (by simp [k3, k9, DataW.trod, u3, u9, h1, h2, h3, h4, h5])
  simpa [Value.cells, datV] using this

end Go.Proofs.YtegapdmbpkfpmaaGreatDoor
