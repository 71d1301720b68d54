import Derived.Test.YtegapdmbpkfpmaaGreatDoorM42
import Derived.Test.YtegapdmbpkfpmaaGreatDoorM43
import Derived.Test.YtegapdmbpkfpmaaGreatDoorM05
/-
  The document's AdmitsAll, walked.
-/
namespace Go.Proofs.YtegapdmbpkfpmaaGreatDoor
open Go.RowKit
set_option linter.unusedVariables false

theorem keep13 {p0 p1 p2 p3 p4 p5 p6 p7 p8 p9 p10 p11 p12 : Addr} {c0 c1 c2 c3 c4 c5 c6 c7 c8 c9 c10 c11 c12 : Value} {w w' : World} (hg : w.grownBy w' none) (h : w.cell? p0 = some c0 ∧ w.cell? p1 = some c1 ∧ w.cell? p2 = some c2 ∧ w.cell? p3 = some c3 ∧ w.cell? p4 = some c4 ∧ w.cell? p5 = some c5 ∧ w.cell? p6 = some c6 ∧ w.cell? p7 = some c7 ∧ w.cell? p8 = some c8 ∧ w.cell? p9 = some c9 ∧ w.cell? p10 = some c10 ∧ w.cell? p11 = some c11 ∧ w.cell? p12 = some c12) : w'.cell? p0 = some c0 ∧ w'.cell? p1 = some c1 ∧ w'.cell? p2 = some c2 ∧ w'.cell? p3 = some c3 ∧ w'.cell? p4 = some c4 ∧ w'.cell? p5 = some c5 ∧ w'.cell? p6 = some c6 ∧ w'.cell? p7 = some c7 ∧ w'.cell? p8 = some c8 ∧ w'.cell? p9 = some c9 ∧ w'.cell? p10 = some c10 ∧ w'.cell? p11 = some c11 ∧ w'.cell? p12 = some c12 := by
  obtain ⟨h0, h1, h2, h3, h4, h5, h6, h7, h8, h9, h10, h11, h12⟩ := h
  exact ⟨hg.cell h0 (by simp), hg.cell h1 (by simp), hg.cell h2 (by simp), hg.cell h3 (by simp), hg.cell h4 (by simp), hg.cell h5 (by simp), hg.cell h6 (by simp), hg.cell h7 (by simp), hg.cell h8 (by simp), hg.cell h9 (by simp), hg.cell h10 (by simp), hg.cell h11 (by simp), hg.cell h12 (by simp)⟩
def TqAt (w : World) (p : Addr) (x : Tq) : Prop := w.cell? p = some (.int .i64 x.sg) ∧ w.cell? ⟨p.block, p.off + 1, none⟩ = some (.int .i64 x.m) ∧ w.cell? ⟨p.block, p.off + 2, none⟩ = some (.int .i64 x.a) ∧ w.cell? ⟨p.block, p.off + 3, none⟩ = some (.int .i64 x.b) ∧ w.cell? ⟨p.block, p.off + 4, none⟩ = some (.int .i64 x.c) ∧ w.cell? ⟨p.block, p.off + 5, none⟩ = some (.string x.p) ∧ w.cell? ⟨p.block, p.off + 6, none⟩ = some (.string x.q)
theorem TqAt.grow {w w' : World} {p : Addr} {x : Tq} (h : TqAt w p x) (hg : w.grownBy w' none) : TqAt w' p x := by
  obtain ⟨h0, h1, h2, h3, h4, h5, h6⟩ := h
  exact ⟨hg.cell h0 (by simp), hg.cell h1 (by simp), hg.cell h2 (by simp), hg.cell h3 (by simp), hg.cell h4 (by simp), hg.cell h5 (by simp), hg.cell h6 (by simp)⟩
theorem tq_of_cells {w : World} {a : Addr} {n : Nat} {s : Tq} (h : ∀ k v, (tqC s)[k]? = some v → w.cell? (a.add (n + k)) = some v) : TqAt w (a.add n) s :=
  ⟨by have := h 0 _ rfl; simpa using this, by have := h 1 _ rfl; rw [add_off a n 1 (by omega)] at this; exact this, by have := h 2 _ rfl; rw [add_off a n 2 (by omega)] at this; exact this, by have := h 3 _ rfl; rw [add_off a n 3 (by omega)] at this; exact this, by have := h 4 _ rfl; rw [add_off a n 4 (by omega)] at this; exact this, by have := h 5 _ rfl; rw [add_off a n 5 (by omega)] at this; exact this, by have := h 6 _ rfl; rw [add_off a n 6 (by omega)] at this; exact this⟩
def TsAt (w : World) (sl : Value) (L : List Tq) : Prop := (sl = .slice none 0 0 ∧ L = []) ∨ ∃ a cap, sl = .slice (some a) L.length cap ∧ L.length ≤ cap ∧ ∀ k (hk : k < L.length), TqAt w (a.add (k * 7)) L[k]
theorem TsAt.grow {w w' : World} {sl : Value} {L : List Tq} (h : TsAt w sl L) (hg : w.grownBy w' none) : TsAt w' sl L := by
  rcases h with h | ⟨a, cap, h1, h2, h3⟩
  · exact Or.inl h
  · exact Or.inr ⟨a, cap, h1, h2, fun k hk => (h3 k hk).grow hg⟩
def SsAt (w : World) (sv : Value) (A : List (List Tq)) : Prop := (sv = .slice none 0 0 ∧ A = []) ∨ ∃ a cap, sv = .slice (some a) A.length cap ∧ A.length ≤ cap ∧ ∀ i (hi : i < A.length), ∃ sl, w.cell? (a.add i) = some sl ∧ TsAt w sl A[i]
theorem SsAt.grow {w w' : World} {sv : Value} {A : List (List Tq)} (h : SsAt w sv A) (hg : w.grownBy w' none) : SsAt w' sv A := by
  rcases h with h | ⟨a, cap, h1, h2, h3⟩
  · exact Or.inl h
  · exact Or.inr ⟨a, cap, h1, h2, fun k hk => by obtain ⟨sl, h4, h5⟩ := h3 k hk; exact ⟨sl, hg.cell h4 (by simp), h5.grow hg⟩⟩
theorem tq_get (l : List Tq) : ∀ (i : Nat) (hi : i < l.length) (k : Nat) (u : Value), (tqC l[i])[k]? = some u → (l.flatMap tqC)[i * 7 + k]? = some u := by
  induction l with
  | nil => intro i hi; simp at hi
  | cons t l ih =>
    intro i hi k u h
    rw [List.flatMap_cons]
    have hl : (tqC t).length = 7 := rfl
    cases i with
    | zero =>
      simp only [List.getElem_cons_zero] at h
      have hk : k < (tqC t).length := (List.getElem?_eq_some_iff.1 h).1
      rw [Nat.zero_mul, Nat.zero_add, List.getElem?_append_left hk]
      exact h
    | succ i =>
      simp only [List.getElem_cons_succ] at h
      rw [List.getElem?_append_right (by rw [hl]; omega), hl, show (i + 1) * 7 + k - 7 = i * 7 + k by omega]
      exact ih i (by simpa using hi) k u h
theorem ot_ts {w : World} {base : Nat} {sl : Value} {L : List Tq} (h : OT w base sl L) : TsAt w sl L := by
  rcases h.2 with ⟨h1, h2⟩ | ⟨g, cap, cur, hv, hb, hc, h3, h4, h5, h6⟩
  · exact Or.inl ⟨h1, List.length_eq_zero_iff.1 h2⟩
  · refine Or.inr ⟨⟨g, 0, none⟩, cap, hv, h3, fun k hk => tq_of_cells fun q v hq => ?_⟩
    have h' := h
    unfold OT at h'
    rw [hv] at h'
    exact own_cells h' (k * 7 + q) v (tq_get L k hk q v hq)
theorem oa_ss {w : World} {base : Nat} {sv : Value} {A : List (List Tq)} (h : OA w base sv A) : SsAt w sv A := by
  obtain ⟨vals, h1, h2, h3⟩ := h
  rcases h1.2 with ⟨e1, e2⟩ | ⟨g, cap, cur, hv, hb, hc, e3, e4, e5, e6⟩
  · exact Or.inl ⟨e1, List.length_eq_zero_iff.1 e2⟩
  · refine Or.inr ⟨⟨g, 0, none⟩, cap, hv, e3, fun i hi => ?_⟩
    obtain ⟨o, n, c, h4, h5⟩ := h3 i hi
    rw [hv] at h1
    exact ⟨_, own_cells h1 i _ h4, ot_ts h5⟩
theorem adm_any (x : Tq) (hx : TqOk x) (v1 v2 v3 : Int) (v4 v5 : ByteArray) (w : World) (hv : v4.size ≤ 1048576) :
    Calls Tryz.prog 43 #[.agg #[.int .i64 x.sg, .int .i64 x.m, .int .i64 x.a, .int .i64 x.b, .int .i64 x.c, .string x.p, .string x.q], .agg #[.int .i64 v1, .int .i64 v2, .int .i64 v3, .string v4, .string v5]] w fun e w' => e = .returned (.bool (admB (teOf x) ⟨v1, v2, v3, v4.data.toList⟩)) ∧ w.grownBy w' none := by
  obtain ⟨sg, m, a, b, c, p, q⟩ := x
  have h1 := hx.s0
  have h2 := hx.m0
  have h3 := hx.sm
  simp only at h1 h2 h3
  have hm : m = 0 ∨ m = 1 ∨ m = 2 ∨ m = 3 := by omega
  rcases hm with rfl | rfl | rfl | rfl
  · exact adm0_any sg h1 a b c v1 v2 v3 p q v4 v5 w (by omega) hv
  · exact adm1_any sg h1 a b c v1 v2 v3 p q v4 v5 w (by omega) hv
  · exact adm2_any sg h1 a b c v1 v2 v3 p q v4 v5 w (by omega) hv
  · exact adm3_any sg h1 a b c v1 v2 v3 p q v4 v5 w (by omega) hv
def admQ (A : List (List Tq)) (v : V) : Bool := A.any fun L => L.all fun x => admB (teOf x) v
theorem admQ_S (A : List (List Tq)) (v : V) : admQ A v = admS (A.map (·.map teOf)) v := by
  unfold admQ admS admL
  rw [List.any_map]
  congr 1
  funext L
  simp [List.all_map, Function.comp_def]
set_option maxRecDepth 100000 in
set_option maxHeartbeats 3200000 in
theorem admAll_any (sv : Value) (A : List (List Tq)) (v1 v2 v3 : Int) (v4 v5 : ByteArray) (w : World) (h : SsAt w sv A) (hA : A.length ≤ 201) (hok : ∀ L ∈ A, L.length ≤ 1000 ∧ ∀ x ∈ L, TqOk x) (hv : v4.size ≤ 1048576) :
    Calls Tryz.prog 20 #[sv, .agg #[.int .i64 v1, .int .i64 v2, .int .i64 v3, .string v4, .string v5]] w fun e w' => e = .returned (.bool (admQ A ⟨v1, v2, v3, v4.data.toList⟩)) ∧ w.grownBy w' none := by
  have CA : Hid (∀ x w, TqOk x → Calls Tryz.prog 43 #[.agg #[.int .i64 x.sg, .int .i64 x.m, .int .i64 x.a, .int .i64 x.b, .int .i64 x.c, .string x.p, .string x.q], .agg #[.int .i64 v1, .int .i64 v2, .int .i64 v3, .string v4, .string v5]] w fun e w' => e = .returned (.bool (admB (teOf x) ⟨v1, v2, v3, v4.data.toList⟩)) ∧ w.grownBy w' none) := fun x w hx => adm_any x hx v1 v2 v3 v4 v5 w hv
  obtain ⟨v, hvv⟩ : ∃ v : V, v = ⟨v1, v2, v3, v4.data.toList⟩ := ⟨_, rfl⟩
  rw [← hvv] at CA ⊢
  obtain ⟨R, hR⟩ : ∃ R, admQ A v = R := ⟨_, rfl⟩
  have HR : Hid (admQ A v = R) := hR
  rw [hR]
  have HOK : Hid (∀ L ∈ A, L.length ≤ 1000 ∧ ∀ x ∈ L, TqOk x) := hok
  clear hR hvv hv hok
  rcases h with ⟨rfl, rfl⟩ | ⟨a, cap, rfl, hcap, hcells⟩
  · have HRF : Hid (R = false) := HR.out.symm
    go_enter Tryz.func20, Tryz.ntmps20
    go_wp2
    go_loopw [5] (fun vi wr => vi = .int .i64 0 ∧ w.grownBy wr none) (fun vi _ => 0)
    case atStart => exact ⟨rfl, gb_alloc (gb_refl _ _) _⟩
    case round =>
      obtain ⟨rfl, hg⟩ := hrel
      have HG : Hid (w.grownBy wr none) := hg
      clear hg
      go_wp2
      go_ret
      exact ⟨ret_bool HRF.out.symm, HG.out⟩
  · obtain ⟨N, hN⟩ : ∃ N, A.length = N := ⟨_, rfl⟩
    have HN : Hid (A.length = N) := hN
    have HC : Hid (∀ i (hi : i < A.length), ∃ sl, w.cell? (a.add i) = some sl ∧ TsAt w sl A[i]) := hcells
    rw [hN] at hcap hA ⊢
    clear hcells hN
    go_enter Tryz.func20, Tryz.ntmps20
    go_wp2
    obtain ⟨V0, hV0⟩ : ∃ V0, w.heap.size = V0 := ⟨_, rfl⟩
    obtain ⟨W, hW⟩ : ∃ W, w.alloc (.cells #[.int .i64 v1, .int .i64 v2, .int .i64 v3, .string v4, .string v5] 39) = W := ⟨_, rfl⟩
    have HG0 : Hid (w.grownBy W none) := by show w.grownBy W none; rw [← hW]; exact gb_alloc (gb_refl w none) _
    have STv : Hid (St V0 v1 v2 v3 v4 v5 W) := by show St _ _ _ _ _ _ W; rw [← hW, ← hV0]; exact st_row (t := 39) (heap_alloc_new w _)
    try rw [hW]
    try rw [hV0]
    clear hW hV0
    go_loopw [5] (fun vi wr => ∃ i : Nat, vi = .int .i64 i ∧ i ≤ N ∧ (∀ j (hj : j < A.length), j < i → (A[j].all fun x => admB (teOf x) v) = false) ∧ W.grownBy wr none) (fun vi _ => N - (intOf vi).toNat)
    case atStart => exact ⟨0, rfl, Nat.zero_le _, fun j hj h => absurd h (by omega), gb_refl _ _⟩
    case round =>
      rename World => w0
      obtain ⟨i, rfl, hi, hp, hg⟩ := hrel
      have HP : Hid (∀ j (hj : j < A.length), j < i → (A[j].all fun x => admB (teOf x) v) = false) := hp
      have HG : Hid (W.grownBy w0 none) := hg
      clear hp hg
      by_cases hlt : i < N
      · have hlA : i < A.length := by rw [HN.out]; exact hlt
        obtain ⟨L, hL⟩ : ∃ L, A[i] = L := ⟨_, rfl⟩
        obtain ⟨sl, hsl, hts⟩ := HC.out i hlA
        rw [hL] at hts
        have HLo : Hid (L.length ≤ 1000 ∧ ∀ x ∈ L, TqOk x) := by have := HOK.out A[i] (List.getElem_mem hlA); rw [hL] at this; exact this
        have HAL : Hid (A[i] = L) := hL
        have hcw : w0.cell? (a.add i) = some sl := (HG.out.cell (HG0.out.cell hsl (by simp)) (by simp))
        have HTS : Hid (TsAt w0 sl L) := (hts.grow HG0.out).grow HG.out
        have NEXT : Hid (∀ r : Bool, (L.all fun x => admB (teOf x) v) = r → (r = true → R = true) ∧ (r = false → ∀ j (hj : j < A.length), j < i + 1 → (A[j].all fun x => admB (teOf x) v) = false)) := by
          intro r hr
          constructor
          · intro h
            rw [← HR.out]; unfold admQ
            rw [List.any_eq_true]
            exact ⟨A[i], List.getElem_mem hlA, by rw [hL, hr]; exact h⟩
          · intro h j hj hji
            by_cases hji' : j < i
            · exact HP.out j hj hji'
            · have e : j = i := by omega
              subst e
              rw [hL, hr]; exact h
        clear hts hsl hL
        rcases HTS.out with ⟨rfl, hLn⟩ | ⟨q, c1, rfl, hc1, hcell⟩
        · have HRT : Hid (R = true) := (NEXT.out true (by rw [hLn]; rfl)).1 rfl
          have HCW : Hid (W.grownBy w0 none) := HG.out
          clear hLn HTS
          go_wp2
          go_loopw [6, 7] (fun va vk wk => va = .bool true ∧ vk = .int .i64 0 ∧ w0.grownBy wk none) (fun _ vk _ => 0)
          case atStart => exact ⟨rfl, rfl, gb_refl _ _⟩
          case round =>
            obtain ⟨rfl, rfl, hgk⟩ := hrel
            have hcw2 : wr.cell? (a.add i) = some (.slice none 0 0) := hgk.cell hcw (by simp)
            have HGK : Hid (w0.grownBy wr none) := hgk
            clear hgk hcw
            go_wp2
            go_ret
            exact ⟨ret_bool HRT.out.symm, gb_trans HG0.out (gb_trans HG.out HGK.out)⟩
        · obtain ⟨n1, hn1⟩ : ∃ n1, L.length = n1 := ⟨_, rfl⟩
          have HN1 : Hid (L.length = n1 ∧ n1 ≤ 1000) := ⟨hn1, by have := HLo.out.1; omega⟩
          have hn2 : n1 ≤ 1000 := HN1.out.2
          have HCE : Hid (∀ k (hk : k < L.length), TqAt w0 (q.add (k * 7)) L[k]) := hcell
          rw [hn1] at hcw hc1
          clear hcell hn1 HTS
          go_wp2
          go_loopw [6, 7] (fun va vk wk => ∃ k : Nat, vk = .int .i64 k ∧ k ≤ n1 ∧ va = .bool ((L.take k).all fun x => admB (teOf x) v) ∧ w0.grownBy wk none) (fun _ vk _ => n1 - (intOf vk).toNat)
          case atStart => exact ⟨0, rfl, Nat.zero_le _, rfl, gb_refl _ _⟩
          case round =>
            obtain ⟨k, rfl, hk, rfl, hgk⟩ := hrel
            have hcw2 : wr.cell? (a.add i) = some (.slice (some q) n1 c1) := hgk.cell hcw (by simp)
            have HGK : Hid (w0.grownBy wr none) := hgk
            have HCW : Hid (w0.cell? (a.add i) = some (.slice (some q) n1 c1)) := hcw
            clear hgk hcw
            by_cases hkl : k < n1
            · have hkL : k < L.length := by rw [HN1.out.1]; exact hkl
              obtain ⟨x, hx⟩ : ∃ x, L[k] = x := ⟨_, rfl⟩
              have HE : Hid (TqAt wr (q.add (k * 7)) x) := by show TqAt wr _ x; rw [← hx]; exact (HCE.out k hkL).grow HGK.out
              have hxo : TqOk x := by rw [← hx]; exact HLo.out.2 _ (List.getElem_mem hkL)
              obtain ⟨r, hr⟩ : ∃ r, admB (teOf x) v = r := ⟨_, rfl⟩
              have CX : Hid (∀ w, Calls Tryz.prog 43 #[.agg #[.int .i64 x.sg, .int .i64 x.m, .int .i64 x.a, .int .i64 x.b, .int .i64 x.c, .string x.p, .string x.q], .agg #[.int .i64 v1, .int .i64 v2, .int .i64 v3, .string v4, .string v5]] w fun e w' => e = .returned (.bool r) ∧ w.grownBy w' none) := fun w => by rw [← hr]; exact CA.out x w hxo
              obtain ⟨al, hal⟩ : ∃ al, ((L.take k).all fun x => admB (teOf x) v) = al := ⟨_, rfl⟩
              have HNA : Hid (((L.take (k + 1)).all fun x => admB (teOf x) v) = (al && r)) := by
                show _ = _
                rw [List.take_succ_eq_append_getElem hkL, List.all_append, hal, hx]
                simp [hr]
              rw [hal]
              have STk : Hid (St V0 v1 v2 v3 v4 v5 wr) := (STv.out.grow HG.out).grow HGK.out
              clear hx hxo hr hal
              obtain ⟨e0, e1, e2, e3, e4, e5, e6⟩ := HE.out
              obtain ⟨s1, s2, s3, s4, s5⟩ := STk.out
              go_wp2
              go_region_held3 (fun w' => w'.cell? (a.add i) = some (.slice (some q) n1 c1) ∧ w'.cell? (q.add (k * 7)) = some (.int .i64 x.sg) ∧ w'.cell? ⟨(q.add (k * 7)).block, (q.add (k * 7)).off + 1, none⟩ = some (.int .i64 x.m) ∧ w'.cell? ⟨(q.add (k * 7)).block, (q.add (k * 7)).off + 2, none⟩ = some (.int .i64 x.a) ∧ w'.cell? ⟨(q.add (k * 7)).block, (q.add (k * 7)).off + 3, none⟩ = some (.int .i64 x.b) ∧ w'.cell? ⟨(q.add (k * 7)).block, (q.add (k * 7)).off + 4, none⟩ = some (.int .i64 x.c) ∧ w'.cell? ⟨(q.add (k * 7)).block, (q.add (k * 7)).off + 5, none⟩ = some (.string x.p) ∧ w'.cell? ⟨(q.add (k * 7)).block, (q.add (k * 7)).off + 6, none⟩ = some (.string x.q) ∧ w'.cell? ⟨V0, 0, none⟩ = some (.int .i64 v1) ∧ w'.cell? ⟨V0, 1, none⟩ = some (.int .i64 v2) ∧ w'.cell? ⟨V0, 2, none⟩ = some (.int .i64 v3) ∧ w'.cell? ⟨V0, 3, none⟩ = some (.string v4) ∧ w'.cell? ⟨V0, 4, none⟩ = some (.string v5)) (first | (simp only [cell_drew2]; exact ⟨hcw2, e0, e1, e2, e3, e4, e5, e6, s1, s2, s3, s4, s5⟩) | exact keep13 (by assumption) (by assumption)) (first | (go_at_call 43; refine (CX.out _).mono ?_; rintro e w1 ⟨rfl, hg1⟩))
              have HGK1 : Hid (w0.grownBy w1 none) := gb_trans HGK.out (gb_undrew hg1)
              clear hg1 e0 e1 e2 e3 e4 e5 e6 s1 s2 s3 s4 s5 hcw2
              cases al with
              | true =>
                go_wp2
                go_roundw
                case rel => exact ⟨k + 1, by go_num, by omega, by rw [HNA.out]; rfl, HGK1.out⟩
                case measure => simp [intOf]; omega
              | false =>
                go_wp2
                go_roundw
                case rel => exact ⟨k + 1, by go_num, by omega, by rw [HNA.out]; rfl, HGK1.out⟩
                case measure => simp [intOf]; omega
            · have hkn : k = n1 := by omega
              subst hkn
              have hfull : L.take k = L := List.take_of_length_le (by rw [HN1.out.1]; exact Nat.le_refl _)
              rw [hfull]
              obtain ⟨r, hr⟩ : ∃ r, (L.all fun x => admB (teOf x) v) = r := ⟨_, rfl⟩
              have HNR := NEXT.out r hr
              have HNX : Hid ((r = true → R = true) ∧ (r = false → ∀ j (hj : j < A.length), j < i + 1 → (A[j].all fun x => admB (teOf x) v) = false)) := HNR
              rw [hr]
              clear hr hfull HNR hk hkl
              cases r with
              | true =>
                go_wp2
                go_ret
                exact ⟨ret_bool (HNX.out.1 (by first | rfl | trivial)).symm, gb_trans HG0.out (gb_trans HG.out HGK.out)⟩
              | false =>
                go_wp2
                go_roundw
                case rel => exact ⟨i + 1, by go_num, by omega, HNX.out.2 (by first | rfl | trivial), gb_trans HG.out HGK.out⟩
                case measure => simp [intOf]; omega
      · have HRF : Hid (R = false) := by
          show R = false
          rw [← HR.out]; unfold admQ
          rw [List.any_eq_false]
          intro t ht
          obtain ⟨j, hj, rfl⟩ := List.getElem_of_mem ht
          rw [HP.out j hj (by rw [HN.out] at hj; omega)]; decide
        clear hi
        go_wp2
        go_ret
        exact ⟨ret_bool HRF.out.symm, gb_trans HG0.out HG.out⟩
end Go.Proofs.YtegapdmbpkfpmaaGreatDoor

/-
  An errno as a number, walked.
-/
namespace Go.Proofs.YtegapdmbpkfpmaaGreatDoor
open Go.RowKit
set_option linter.unusedVariables false

set_option maxHeartbeats 400000 in
theorem lnum_any (n : Int) (w : World) : Calls Tryz.prog 13 #[.int .i64 n] w fun e w' => e = .returned (.int .i64 n) ∧ w' = w := by
  go_enter Tryz.func13, Tryz.ntmps13
  go_wp2
  go_ret
  exact ⟨rfl, rfl⟩
theorem lnum_gb (n : Int) (w : World) : Calls Tryz.prog 13 #[.int .i64 n] w fun e w' => e = .returned (.int .i64 n) ∧ w.grownBy w' none := by
  refine (lnum_any n w).mono ?_
  rintro e w' ⟨rfl, rfl⟩
  exact ⟨rfl, gb_refl _ _⟩

end Go.Proofs.YtegapdmbpkfpmaaGreatDoor
