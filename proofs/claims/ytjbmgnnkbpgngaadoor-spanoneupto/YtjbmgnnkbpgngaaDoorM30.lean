import Derived.Test.YtjbmgnnkbpgngaaDoorM28
import Derived.Test.YtjbmgnnkbpgngaaDoorM29
import Derived.Test.YtjbmgnnkbpgngaaDoorRows
import Derived.Test.YtjbmgnnkbpgngaaDoorM05
import Derived.ProofKit
import Derived.OpenShut
import Derived.ShutString
import Derived.SizedLaws
import Derived.Lib.SmallJoins
/-
  SpanOne, walked.
-/
namespace Go.Proofs.YtjbmgnnkbpgngaaDoor
open Go.RowKit
set_option linter.unusedVariables false

/-- what Normal answers -/
def NPost (σ : Bool) (w : World) (e : Ending) (w' : World) : Prop := w.grownBy w' none ∧ ((σ = false ∧ e = .returned (.tuple #[.slice none 0 0, .int .i64 2])) ∨ (σ = true ∧ ∃ o n c N, e = .returned (.tuple #[.slice o n c, .int .i64 0]) ∧ SpS w' (.slice o n c) N ∧ NF N))
theorem sweep_npost {ch : Int → Bool} {Ls : List (List Sp)} {w : World} {e : Ending} {w' : World} (hl2 : Ls.length ≤ 2) (hsz : ∀ l ∈ Ls, l.length ≤ 1048576 ∧ ∀ s ∈ l, smallS s) (h : SweepPost ch Ls w e w') : NPost (Ls.all (·.all soundS)) w e w' := by
  refine ⟨h.1, ?_⟩
  rcases h.2 with ⟨h1, h2⟩ | ⟨h1, E, vs, h2, h3, h4, h5, _⟩
  · exact Or.inl ⟨Bool.eq_false_iff.2 h1, h2⟩
  · obtain ⟨o, n, c, rfl⟩ := sps_slice h5
    exact Or.inr ⟨h1, o, n, c, _, h4, h5, sweep_nf ch Ls hl2 hsz h1 E h2 h3⟩
theorem cNormal (sl : Value) (L : List Sp) (w : World) (h : SpS w sl L) (hL : L.length ≤ 1048576) (hsz : ∀ s ∈ L, smallS s) : Calls Tryd.prog 6 #[sl] w (NPost (L.all soundS) w) := by
  refine (normal_any sl L w h hL hsz).mono ?_
  intro e w' hp
  have := sweep_npost (by simp) (by intro l hl; simp at hl; subst hl; exact ⟨hL, hsz⟩) hp
  simpa using this

set_option maxRecDepth 100000 in
set_option maxHeartbeats 6400000 in
theorem oneLaw (sl sm : Value) (L M : List Sp) (w : World) (h : SpS w sl L) (h' : SpS w sm M) (hL : L.length ≤ 1048576) (hsz : ∀ s ∈ L, smallS s) (hM : M.length ≤ 1048576) (hsm : ∀ s ∈ M, smallS s) :
    Calls Tryd.prog 4 #[sl, sm] w fun e w' => e = .returned (.bool true) ∧ w.grownBy w' none := by
  obtain ⟨σ, hσ⟩ : ∃ σ, L.all soundS = σ := ⟨_, rfl⟩
  obtain ⟨τ, hτ⟩ : ∃ σ, M.all soundS = σ := ⟨_, rfl⟩
  have AL : Hid (∀ w v, SpS w v L → Calls Tryd.prog 7 #[v] w fun e w' => ∃ v, e = .returned v ∧ SpS w' v L ∧ w.grownBy w' none) := fun w v h => cSpans v L w h hL
  have BL : Hid (∀ w v, SpS w v L → Calls Tryd.prog 5 #[v] w fun e w' => e = .returned (.bool σ) ∧ w.grownBy w' none) := fun w v h => by rw [← hσ]; exact cSoundR v L w h hL hsz
  have NL : Hid (∀ w v, SpS w v L → Calls Tryd.prog 6 #[v] w (NPost σ w)) := fun w v h => by rw [← hσ]; exact cNormal v L w h hL hsz
  have AM : Hid (∀ w v, SpS w v M → Calls Tryd.prog 7 #[v] w fun e w' => ∃ v, e = .returned v ∧ SpS w' v M ∧ w.grownBy w' none) := fun w v h => cSpans v M w h hM
  have BM : Hid (∀ w v, SpS w v M → Calls Tryd.prog 5 #[v] w fun e w' => e = .returned (.bool τ) ∧ w.grownBy w' none) := fun w v h => by rw [← hτ]; exact cSoundR v M w h hM hsm
  have NM : Hid (∀ w v, SpS w v M → Calls Tryd.prog 6 #[v] w (NPost τ w)) := fun w v h => by rw [← hτ]; exact cNormal v M w h hM hsm
  have CE : Hid (∀ N K a b w, NF N → SpS w a N → SpS w b K → Calls Tryd.prog 13 #[a, b] w fun e w' => (∃ r, e = .returned (.bool r) ∧ (r = true ↔ N = K)) ∧ w.grownBy w' none) := fun N K a b w hN h h' => cEqualG a b N K w h h' hN.len
  have CP : Hid (∀ N K C a b c w, NF N → NF K → NF C → SpS w a N → SpS w b K → SpS w c C → Calls Tryd.prog 15 #[a, b, c] w fun e w' => e = .returned (.bool (partsL N K C)) ∧ w.grownBy w' none) := fun N K C a b c w h1 h2 h3 ha hb hc => cParts a b c N K C w ha hb hc h1.len h1.small h2.len h2.small h3.len h3.small
  have CN : Hid (∀ E w, Calls Tryd.prog 8 #[.int .i64 E] w fun e w' => e = .returned (.int .i64 E) ∧ w.grownBy w' none) := fun E w => lnum_gb E w
  have HA : Hid (SpS w sl L) := h
  have HB : Hid (SpS w sm M) := h'
  have HG : Hid (w.grownBy w none) := gb_refl w none
  clear h h' hL hsz hM hsm hσ hτ
  go_enter Tryd.func4, Tryd.ntmps4
  go_wp2_with (first | (go_at_call 5; refine (BL.out _ _ HA.out).mono ?_))
  rintro e w1 ⟨rfl, hg⟩
  replace HG : Hid (w.grownBy w1 none) := gb_trans HG.out hg
  replace HA : Hid (SpS w1 sl L) := HA.out.grow hg
  replace HB : Hid (SpS w1 sm M) := HB.out.grow hg
  clear hg
  go_wp2_with (first | (go_at_call 5; refine (BM.out _ _ HB.out).mono ?_))
  rintro e w2 ⟨rfl, hg⟩
  replace HG : Hid (w.grownBy w2 none) := gb_trans HG.out hg
  replace HA : Hid (SpS w2 sl L) := HA.out.grow hg
  replace HB : Hid (SpS w2 sm M) := HB.out.grow hg
  clear hg
  go_wp2_with (first | (go_at_call 7; refine (AL.out _ _ HA.out).mono ?_))
  rintro e w3 ⟨m, rfl, hm, hg⟩
  replace HG : Hid (w.grownBy w3 none) := gb_trans HG.out hg
  replace HA : Hid (SpS w3 sl L) := HA.out.grow hg
  replace HB : Hid (SpS w3 sm M) := HB.out.grow hg
  clear hg
  have HM : Hid (SpS w3 m L) := hm
  clear hm
  go_wp2_with (first | (go_at_call 6; refine (NL.out _ _ HM.out).mono ?_))
  rintro e w4 ⟨hg, hn⟩
  clear HM HA
  replace HG : Hid (w.grownBy w4 none) := gb_trans HG.out hg
  replace HB : Hid (SpS w4 sm M) := HB.out.grow hg
  clear hg
  rcases hn with ⟨rfl, rfl⟩ | ⟨rfl, o1, n1, c1, N1, rfl, hs1, hf1⟩
  · go_wp2_with (first | (go_at_call 7; refine (AM.out _ _ HB.out).mono ?_))
    rintro e w5 ⟨m2, rfl, hm, hg⟩
    replace HG : Hid (w.grownBy w5 none) := gb_trans HG.out hg
    replace HB : Hid (SpS w5 sm M) := HB.out.grow hg
    clear hg
    have HM : Hid (SpS w5 m2 M) := hm
    clear hm
    go_wp2_with (first | (go_at_call 6; refine (NM.out _ _ HM.out).mono ?_))
    rintro e w6 ⟨hg, hn⟩
    clear HM HB
    replace HG : Hid (w.grownBy w6 none) := gb_trans HG.out hg
    clear hg
    rcases hn with ⟨rfl, rfl⟩ | ⟨rfl, o2, n2, c2, N2, rfl, hs2, hf2⟩
    · go_wp2_with (first | (go_at_call 8; refine (CN.out _ _).mono ?_))
      rintro e w7 ⟨rfl, hg⟩
      replace HG : Hid (w.grownBy w7 none) := gb_trans HG.out hg
      clear hg
      go_wp2_with (first | (go_at_call 8; refine (CN.out _ _).mono ?_))
      rintro e w8 ⟨rfl, hg⟩
      replace HG : Hid (w.grownBy w8 none) := gb_trans HG.out hg
      clear hg
      go_wp2
      go_ret
      exact ⟨rfl, HG.out⟩
    · go_wp2_with (first | (go_at_call 8; refine (CN.out _ _).mono ?_))
      rintro e w7 ⟨rfl, hg⟩
      replace HG : Hid (w.grownBy w7 none) := gb_trans HG.out hg
      clear hg
      go_wp2_with (first | (go_at_call 8; refine (CN.out _ _).mono ?_))
      rintro e w8 ⟨rfl, hg⟩
      replace HG : Hid (w.grownBy w8 none) := gb_trans HG.out hg
      clear hg
      go_wp2
      go_ret
      exact ⟨rfl, HG.out⟩
  · have H1 : Hid (SpS w4 (.slice o1 n1 c1) N1) := hs1
    have F1 : Hid (NF N1) := hf1
    clear hs1 hf1
    go_wp2_with (first | (go_at_call 7; refine (AM.out _ _ HB.out).mono ?_))
    rintro e w5 ⟨m2, rfl, hm, hg⟩
    replace HG : Hid (w.grownBy w5 none) := gb_trans HG.out hg
    replace HB : Hid (SpS w5 sm M) := HB.out.grow hg
    replace H1 : Hid (SpS w5 (.slice o1 n1 c1) N1) := H1.out.grow hg
    clear hg
    have HM : Hid (SpS w5 m2 M) := hm
    clear hm
    go_wp2_with (first | (go_at_call 6; refine (NM.out _ _ HM.out).mono ?_))
    rintro e w6 ⟨hg, hn⟩
    clear HM HB
    replace HG : Hid (w.grownBy w6 none) := gb_trans HG.out hg
    replace H1 : Hid (SpS w6 (.slice o1 n1 c1) N1) := H1.out.grow hg
    clear hg
    rcases hn with ⟨rfl, rfl⟩ | ⟨rfl, o2, n2, c2, N2, rfl, hs2, hf2⟩
    · go_wp2_with (first | (go_at_call 8; refine (CN.out _ _).mono ?_))
      rintro e w7 ⟨rfl, hg⟩
      replace HG : Hid (w.grownBy w7 none) := gb_trans HG.out hg
      clear hg
      go_wp2_with (first | (go_at_call 8; refine (CN.out _ _).mono ?_))
      rintro e w8 ⟨rfl, hg⟩
      replace HG : Hid (w.grownBy w8 none) := gb_trans HG.out hg
      clear hg
      go_wp2
      go_ret
      exact ⟨rfl, HG.out⟩
    · have H2 : Hid (SpS w6 (.slice o2 n2 c2) N2) := hs2
      have F2 : Hid (NF N2) := hf2
      clear hs2 hf2
      go_wp2_with (first | (go_at_call 13; refine (CE.out N1 N2 _ _ _ F1.out H1.out H2.out).mono ?_))
      rintro e w7 ⟨⟨r, rfl, hr⟩, hg⟩
      have HR := nf_one F1.out F2.out hr
      clear hr
      obtain ⟨p, hp⟩ : ∃ p, partsL N1 N2 N1 = p := ⟨_, rfl⟩
      obtain ⟨q, hq⟩ : ∃ p, partsL N1 N2 N2 = p := ⟨_, rfl⟩
      rw [hp, hq] at HR
      have CP1 : Hid (∀ w, SpS w (.slice o1 n1 c1) N1 → SpS w (.slice o2 n2 c2) N2 → Calls Tryd.prog 15 #[.slice o1 n1 c1, .slice o2 n2 c2, .slice o1 n1 c1] w fun e w' => e = .returned (.bool p) ∧ w.grownBy w' none) := fun w ha hb => by rw [← hp]; exact CP.out _ _ _ _ _ _ w F1.out F2.out F1.out ha hb ha
      have CP2 : Hid (∀ w, SpS w (.slice o1 n1 c1) N1 → SpS w (.slice o2 n2 c2) N2 → Calls Tryd.prog 15 #[.slice o1 n1 c1, .slice o2 n2 c2, .slice o2 n2 c2] w fun e w' => e = .returned (.bool q) ∧ w.grownBy w' none) := fun w ha hb => by rw [← hq]; exact CP.out _ _ _ _ _ _ w F1.out F2.out F2.out ha hb hb
      have HRR : Hid ((r != (p || q)) = true) := HR
      clear HR hp hq
      replace HG : Hid (w.grownBy w7 none) := gb_trans HG.out hg
      replace H1 : Hid (SpS w7 (.slice o1 n1 c1) N1) := H1.out.grow hg
      replace H2 : Hid (SpS w7 (.slice o2 n2 c2) N2) := H2.out.grow hg
      clear hg
      go_wp2_with (first | (go_at_call 15; refine (CP1.out _ H1.out H2.out).mono ?_))
      rintro e w8 ⟨rfl, hg⟩
      replace HG : Hid (w.grownBy w8 none) := gb_trans HG.out hg
      replace H1 : Hid (SpS w8 (.slice o1 n1 c1) N1) := H1.out.grow hg
      replace H2 : Hid (SpS w8 (.slice o2 n2 c2) N2) := H2.out.grow hg
      clear hg
      go_wp2_with (first | (go_at_call 15; refine (CP2.out _ H1.out H2.out).mono ?_))
      rintro e w9 ⟨rfl, hg⟩
      replace HG : Hid (w.grownBy w9 none) := gb_trans HG.out hg
      replace H1 : Hid (SpS w9 (.slice o1 n1 c1) N1) := H1.out.grow hg
      replace H2 : Hid (SpS w9 (.slice o2 n2 c2) N2) := H2.out.grow hg
      clear hg
      cases r with
      | false =>
        cases p with
        | false =>
          cases q with
          | false =>
            exact absurd HRR.out (by decide)
          | true =>
            clear HRR
            go_wp2
            go_ret
            exact ⟨rfl, HG.out⟩
        | true =>
          cases q with
          | false =>
            clear HRR
            go_wp2
            go_ret
            exact ⟨rfl, HG.out⟩
          | true =>
            clear HRR
            go_wp2
            go_ret
            exact ⟨rfl, HG.out⟩
      | true =>
        cases p with
        | false =>
          cases q with
          | false =>
            clear HRR
            go_wp2
            go_ret
            exact ⟨rfl, HG.out⟩
          | true =>
            exact absurd HRR.out (by decide)
        | true =>
          cases q with
          | false =>
            exact absurd HRR.out (by decide)
          | true =>
            exact absurd HRR.out (by decide)
end Go.Proofs.YtjbmgnnkbpgngaaDoor

/-
  A version among the arguments: opened, shut, weighed.
-/
namespace Go.Proofs.YtjbmgnnkbpgngaaDoor
open Go.ChangeShapes Go.WideShapes Go.ChangeAt Go.RowKit Go.Joins
open Go.ChangeMaps (open_string shut_string)
set_option linter.unusedVariables false

theorem cellsVer : Tryd.prog.cellsOf 24 = 5 := by kernel_rfl
theorem array5 {α : Type} {cs : Array α} (h : cs.size = 5) : ∃ c0 c1 c2 c3 c4, cs = #[c0, c1, c2, c3, c4] := by
  obtain ⟨l⟩ := cs
  match l, h with
  | [c0, c1, c2, c3, c4], _ => exact ⟨c0, c1, c2, c3, c4, rfl⟩
/-- how a version reads -/
def datV {H : Type} (a1 a2 a3 : Int) (a4 a5 : ByteArray) : DataW H := .agg [.lit (.int .i64 a1), .lit (.int .i64 a2), .lit (.int .i64 a3), .lit (.string a4.data.toList), .lit (.string a5.data.toList)]
def wfV (a1 a2 a3 : Int) (a4 a5 : ByteArray) : Prop := (Lit.int .i64 a1).wf = true ∧ (Lit.int .i64 a2).wf = true ∧ (Lit.int .i64 a3).wf = true ∧ a4.size ≤ maxLen ∧ a5.size ≤ maxLen

set_option maxRecDepth 100000 in
set_option maxHeartbeats 800000 in
theorem open_ver {H : Type} {enc : TypeId × Value → H} {w : World} {base : Nat} {spare : Nat → Bool} {held : Bool} {r : Reach} {b0 : Nat} {v : Value} {d : DataW H} {p : List MemPlace}
    (hv : Value.okWide Tryd.prog w r b0 24 v) (h : DataW.Trod enc Tryd.prog w base spare held 24 v d p) :
    ∃ (a1 a2 a3 : Int) (a4 a5 : ByteArray), v = .agg #[.int .i64 a1, .int .i64 a2, .int .i64 a3, .string a4, .string a5] ∧ d = datV a1 a2 a3 a4 a5 ∧ p = [] ∧ wfV a1 a2 a3 a4 a5 := by
  have hu := Tryd.underlying24
  obtain ⟨cs, rfl, hsz⟩ := okWide_struct hu hv
  have hsz' : cs.size = 5 := by rw [hsz]; exact cellsVer
  obtain ⟨c0, c1, c2, c3, c4, rfl⟩ := array5 hsz'
  obtain ⟨fuel, hf⟩ := h
  obtain ⟨xs, n, _, hx, hl, hlen, hfs⟩ := DataW.trod_struct hu hf
  simp only [Prod.mk.injEq] at hx
  obtain ⟨rfl, rfl⟩ := hx
  match xs, hlen with
  | [y0, y1, y2, y3, y4], _ =>
    have k3 : Tryd.prog.cellsOf 3 = 1 := by kernel_rfl
    have k9 : Tryd.prog.cellsOf 9 = 1 := by kernel_rfl
    have g0 := hfs 0 _ rfl
    have g1 := hfs 1 _ rfl
    have g2 := hfs 2 _ rfl
    have g3 := hfs 3 _ rfl
    have g4 := hfs 4 _ rfl
    simp [Value.cells, k3, k9] at g0 g1 g2 g3 g4
    obtain ⟨a1, e1, rfl, w1⟩ := DataW.trod_int Tryd.underlying3 g0
    obtain ⟨a2, e2, rfl, w2⟩ := DataW.trod_int Tryd.underlying3 g1
    obtain ⟨a3, e3, rfl, w3⟩ := DataW.trod_int Tryd.underlying3 g2
    obtain ⟨a4, e4, rfl, w4⟩ := DataW.trod_string Tryd.underlying9 g3
    obtain ⟨a5, e5, rfl, w5⟩ := DataW.trod_string Tryd.underlying9 g4
    simp at e1 e2 e3 e4 e5
    subst e1 e2 e3 e4 e5
    exact ⟨a1, a2, a3, a4, a5, rfl, rfl, rfl, w1, w2, w3, w4, w5⟩

set_option maxRecDepth 100000 in
set_option maxHeartbeats 800000 in
theorem shut_ver {H : Type} {enc : TypeId × Value → H} {w : World} {base : Nat} {spare : Nat → Bool} {held : Bool} {a1 a2 a3 : Int} {a4 a5 : ByteArray} (h : wfV a1 a2 a3 a4 a5) :
    DataW.Trod enc Tryd.prog w base spare held 24 (.agg #[.int .i64 a1, .int .i64 a2, .int .i64 a3, .string a4, .string a5]) (datV a1 a2 a3 a4 a5) [] := by
  have hu := Tryd.underlying24
  have k3 : Tryd.prog.cellsOf 3 = 1 := by kernel_rfl
  have k9 : Tryd.prog.cellsOf 9 = 1 := by kernel_rfl
  have u3 := Tryd.underlying3
  have u9 := Tryd.underlying9
  obtain ⟨h1, h2, h3, h4, h5⟩ := h
  refine ⟨2, ?_⟩
  have := trod_struct_mk (enc := enc) (w := w) (base := base) (spare := spare) (held := held) (n := 1) (cs := [.int .i64 a1, .int .i64 a2, .int .i64 a3, .string a4, .string a5])
    (xs := [(.lit (.int .i64 a1), []), (.lit (.int .i64 a2), []), (.lit (.int .i64 a3), []), (.lit (.string a4.data.toList), []), (.lit (.string a5.data.toList), [])]) hu (by rw [cellsVer]; rfl) (by simp [k3, k9, DataW.trod, u3, u9, h1, h2, h3, h4, h5])
  simpa [Value.cells, datV] using this

theorem sized_ver {H : Type} {ts : List TypeId} {ds : List (DataW H)} (h : (DataW.weightsEach Tryd.prog ts ds).all (· ≤ reachBytes) = true) {j : Nat} {a1 a2 a3 : Int} {a4 a5 : ByteArray} (ht : ts[j]? = some 24) (hd : ds[j]? = some (datV a1 a2 a3 a4 a5)) :
    a4.size ≤ reachBytes ∧ a5.size ≤ reachBytes := by
  have hu := Tryd.underlying24
  constructor
  · have := List.all_eq_true.1 h _ (DataW.weights_mem_each ht hd a4.data.toList.length (by simp [datV, DataW.weights, DataW.weightsEach, hu]))
    simpa using this
  · have := List.all_eq_true.1 h _ (DataW.weights_mem_each ht hd a5.data.toList.length (by simp [datV, DataW.weights, DataW.weightsEach, hu]))
    simpa using this
theorem reach_small {n : Nat} (h : n ≤ reachBytes) : n < 2 ^ 62 := by have := reachBytes_lt; omega
end Go.Proofs.YtjbmgnnkbpgngaaDoor
