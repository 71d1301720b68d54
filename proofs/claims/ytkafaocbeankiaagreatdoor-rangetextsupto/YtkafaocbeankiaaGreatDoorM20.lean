import Derived.Test.YtkafaocbeankiaaGreatDoorM19
/-
  spans of the law, walked.
-/
namespace Go.Proofs.YtkafaocbeankiaaGreatDoor
open Go.RowKit
set_option linter.unusedVariables false

theorem infoSp : (Tryz.prog.info? 39).map (fun i => (i.zero, i.size, i.bytes)) = some (some (.agg #[.int .i64 0, .int .i64 0, .int .i64 0, .string ⟨#[]⟩, .string ⟨#[]⟩, .int .i64 0, .int .i64 0, .int .i64 0, .string ⟨#[]⟩, .string ⟨#[]⟩, .bool false]), 11, 120) := by kernel_rfl
theorem own_keep {w w' : World} {base : Nat} {e : TypeId} {size : Nat} {v : Value} {n : Nat} {xs : List Value} (h : w.ownsRow base e size v n xs) (hg : w.grownBy w' none) : w'.ownsRow base e size v n xs :=
  h.kept hg (by cases v.ownBlock <;> simp)
theorem news_one (s : Sp) : ∀ u ∈ spC s, u.oneCell' = true := by
  intro u hu
  simp only [spC, List.mem_cons, List.not_mem_nil, or_false] at hu
  rcases hu with rfl | rfl | rfl | rfl | rfl | rfl | rfl | rfl | rfl | rfl | rfl <;> rfl
theorem cell_lt {w : World} {a : Addr} {v : Value} (h : w.cell? a = some v) : a.block < w.heap.size := by
  unfold World.cell? at h
  cases hb : w.heap[a.block]? with
  | none => rw [hb] at h; simp at h
  | some o => exact (Array.getElem?_eq_some_iff.1 hb).1
theorem keepE {p : Addr} {s : Sp} {r : Option Nat} {w w' : World} (hg : w.grownBy w' r) (hn : some p.block ≠ r) (h : w.cell? p = some (.int .i64 s.f1) ∧ w.cell? ⟨p.block, p.off + 1, none⟩ = some (.int .i64 s.f2) ∧ w.cell? ⟨p.block, p.off + 2, none⟩ = some (.int .i64 s.f3) ∧ w.cell? ⟨p.block, p.off + 3, none⟩ = some (.string s.f4) ∧ w.cell? ⟨p.block, p.off + 4, none⟩ = some (.string s.f5) ∧ w.cell? ⟨p.block, p.off + 5, none⟩ = some (.int .i64 s.t1) ∧ w.cell? ⟨p.block, p.off + 6, none⟩ = some (.int .i64 s.t2) ∧ w.cell? ⟨p.block, p.off + 7, none⟩ = some (.int .i64 s.t3) ∧ w.cell? ⟨p.block, p.off + 8, none⟩ = some (.string s.t4) ∧ w.cell? ⟨p.block, p.off + 9, none⟩ = some (.string s.t5) ∧ w.cell? ⟨p.block, p.off + 10, none⟩ = some (.bool s.o)) : w'.cell? p = some (.int .i64 s.f1) ∧ w'.cell? ⟨p.block, p.off + 1, none⟩ = some (.int .i64 s.f2) ∧ w'.cell? ⟨p.block, p.off + 2, none⟩ = some (.int .i64 s.f3) ∧ w'.cell? ⟨p.block, p.off + 3, none⟩ = some (.string s.f4) ∧ w'.cell? ⟨p.block, p.off + 4, none⟩ = some (.string s.f5) ∧ w'.cell? ⟨p.block, p.off + 5, none⟩ = some (.int .i64 s.t1) ∧ w'.cell? ⟨p.block, p.off + 6, none⟩ = some (.int .i64 s.t2) ∧ w'.cell? ⟨p.block, p.off + 7, none⟩ = some (.int .i64 s.t3) ∧ w'.cell? ⟨p.block, p.off + 8, none⟩ = some (.string s.t4) ∧ w'.cell? ⟨p.block, p.off + 9, none⟩ = some (.string s.t5) ∧ w'.cell? ⟨p.block, p.off + 10, none⟩ = some (.bool s.o) := by
  obtain ⟨h0, h1, h2, h3, h4, h5, h6, h7, h8, h9, h10⟩ := h
  exact ⟨hg.cell h0 hn, hg.cell h1 hn, hg.cell h2 hn, hg.cell h3 hn, hg.cell h4 hn, hg.cell h5 hn, hg.cell h6 hn, hg.cell h7 hn, hg.cell h8 hn, hg.cell h9 hn, hg.cell h10 hn⟩
theorem below_gbn {B : Nat} {a w w' : World} (h : Below B a w) (hB : B ≤ w.heap.size) (hg : w.grownBy w' none) : Below B a w' :=
  ⟨hg.os.trans h.os, hg.tape.trans h.tape, hg.output.trans h.output, Nat.le_trans h.size hg.size, fun k hk => (hg.block k (Nat.lt_of_lt_of_le hk hB) (by simp)).trans (h.block k hk)⟩
def SpansPost (L : List Sp) (w : World) (e : Ending) (w' : World) : Prop := ∃ v, e = .returned v ∧ w'.ownsRow w.heap.size 39 11 v L.length (L.flatMap spC) ∧ Below w.heap.size w w'

set_option maxRecDepth 100000 in
set_option maxHeartbeats 1600000 in
theorem spans_at (a : Addr) (cap : Nat) (L : List Sp) (w : World) (hL : L.length ≤ 1048576) (hcap : L.length ≤ cap) (h : SpAt w a L) :
    Calls Tryz.prog 5 #[.slice (some a) L.length cap] w (SpansPost L w) := by
  have HA : Hid (SpAt w a L) := h
  clear h
  have hinfo := infoSp
  obtain ⟨i0, hi0, hii⟩ := Option.map_eq_some_iff.1 hinfo
  simp only [Prod.mk.injEq] at hii
  obtain ⟨hz0, hz1, hzb⟩ := hii
  clear hinfo
  go_enter Tryz.func5, Tryz.ntmps5
  go_wp2
  go_loopw [3, 4] (fun vm vi wr => ∃ i : Nat, vi = .int .i64 i ∧ i ≤ L.length ∧ wr.ownsRow w.heap.size 39 11 vm i ((L.take i).flatMap spC) ∧ Below w.heap.size w wr) (fun _ vi _ => L.length - (intOf vi).toNat)
  case atStart => exact ⟨0, rfl, Nat.zero_le _, World.ownsRow_nil _ _ _ _, Below.refl _ _⟩
  case round =>
    obtain ⟨i, rfl, hi, hown, hb⟩ := hrel
    by_cases hlt : i < L.length
    · obtain ⟨s, hs⟩ : ∃ s, L[i] = s := ⟨_, rfl⟩
      have HE : Hid (EltAt wr (a.add (i * 11)) s) := by show EltAt wr _ s; rw [← hs]; exact (HA.out i hlt).grow ⟨hb.os, hb.tape, hb.output, hb.size, fun k hk _ => hb.block k hk⟩
      obtain ⟨e0, e1, e2, e3, e4, e5, e6, e7, e8, e9, e10⟩ := HE.out
      have HFAR : Hid (some (a.add (i * 11)).block ≠ u3.ownBlock) := by
        show _ ≠ _
        intro e
        have h1 := (hown.lt _ e.symm).1
        have h2 := (HA.out i hlt).1
        have h3 : (a.add (i * 11)).block < w.heap.size := cell_lt h2
        omega
      have HTK : Hid ((L.take (i + 1)).flatMap spC = (L.take i).flatMap spC ++ spC s) := by
        show _ = _
        rw [List.take_succ_eq_append_getElem hlt, List.flatMap_append, hs]; simp
      have CF : Hid (∀ w, Calls Tryz.prog 14 #[.agg #[.int .i64 s.f1, .int .i64 s.f2, .int .i64 s.f3, .string s.f4, .string s.f5]] w fun e w' => e = .returned (.agg #[.int .i64 s.f1, .int .i64 s.f2, .int .i64 s.f3, .string s.f4, .string s.f5]) ∧ w.grownBy w' none) := fun w => vers_any _ _ _ _ _ w
      have CT : Hid (∀ w, Calls Tryz.prog 14 #[.agg #[.int .i64 s.t1, .int .i64 s.t2, .int .i64 s.t3, .string s.t4, .string s.t5]] w fun e w' => e = .returned (.agg #[.int .i64 s.t1, .int .i64 s.t2, .int .i64 s.t3, .string s.t4, .string s.t5]) ∧ w.grownBy w' none) := fun w => vers_any _ _ _ _ _ w
      have hzz := hb.size
      go_wp2
      go_region_held3 (fun w' => w'.cell? (a.add (i * 11)) = some (.int .i64 s.f1) ∧ w'.cell? ⟨(a.add (i * 11)).block, (a.add (i * 11)).off + 1, none⟩ = some (.int .i64 s.f2) ∧ w'.cell? ⟨(a.add (i * 11)).block, (a.add (i * 11)).off + 2, none⟩ = some (.int .i64 s.f3) ∧ w'.cell? ⟨(a.add (i * 11)).block, (a.add (i * 11)).off + 3, none⟩ = some (.string s.f4) ∧ w'.cell? ⟨(a.add (i * 11)).block, (a.add (i * 11)).off + 4, none⟩ = some (.string s.f5) ∧ w'.cell? ⟨(a.add (i * 11)).block, (a.add (i * 11)).off + 5, none⟩ = some (.int .i64 s.t1) ∧ w'.cell? ⟨(a.add (i * 11)).block, (a.add (i * 11)).off + 6, none⟩ = some (.int .i64 s.t2) ∧ w'.cell? ⟨(a.add (i * 11)).block, (a.add (i * 11)).off + 7, none⟩ = some (.int .i64 s.t3) ∧ w'.cell? ⟨(a.add (i * 11)).block, (a.add (i * 11)).off + 8, none⟩ = some (.string s.t4) ∧ w'.cell? ⟨(a.add (i * 11)).block, (a.add (i * 11)).off + 9, none⟩ = some (.string s.t5) ∧ w'.cell? ⟨(a.add (i * 11)).block, (a.add (i * 11)).off + 10, none⟩ = some (.bool s.o)) ((first | exact keepE (by assumption) (by first | exact HFAR.out | simp) (by assumption) | go_keep)) (first | (refine step_append_lies _ (by rfl) _ _ _ (by rfl) w.heap.size 39 i0 _ 11 120 Tryz.underlying26 hi0 hz0 hz1 hzb (by rfl) (by decide) u3 i ((L.take i).flatMap spC) (by rfl) ((own_keep (own_keep hown (gb_undrew hg1)) hg2).alloc _) _ 1 1 (spC s) (by rfl) (by rfl) (World.news_of_block (heap_alloc_new _ _)) (news_one s) (by omega) (by unfold maxLen; omega) (by omega) (by have q1 := hg1.size; have q2 := hg2.size; simp at q1 ⊢; omega) _ rfl ?_; intro g cap1 w3 hown3 hgrow hat hlt3) | (go_at_call_of 14 (Value.string s.f4); refine (CF.out _).mono ?_; rintro e w1 ⟨rfl, hg1⟩) | (go_at_call_of 14 (Value.string s.t4); refine (CT.out _).mono ?_; rintro e w2 ⟨rfl, hg2⟩))
      have hb2 : Below w.heap.size w w2 := below_gbn (below_gbn hb hzz (gb_undrew hg1)) (by have := hg1.size; simp at this; omega) hg2
      have hz2 : w.heap.size ≤ w2.heap.size := hb2.size
      have HB3 : Hid (Below w.heap.size w w3) := (hb2.alloc hz2 _).grown hgrow (by simp; omega) (fun q hq => (hown.lt q hq).1)
      have HO3 : Hid (w3.ownsRow w.heap.size 39 11 (.slice (some ⟨g, 0, none⟩) (i + 1) cap1) (i + 1) ((L.take (i + 1)).flatMap spC)) := by show World.ownsRow _ _ _ _ _ _ _; rw [HTK.out]; exact hown3
      clear hown3 hgrow hat hb2 hz2 hown hb hg1 hg2 hlt3 e0 e1 e2 e3 e4 e5 e6 e7 e8 e9 e10 hs
      go_wp2
      go_roundw
      case rel => exact ⟨i + 1, by go_num, by omega, HO3.out, HB3.out⟩
      case measure => simp [intOf]; omega
    · have hil : i = L.length := by omega
      have HO : Hid (wr.ownsRow w.heap.size 39 11 u3 L.length (L.flatMap spC)) := by
        show World.ownsRow _ _ _ _ _ _ _
        rw [hil, List.take_length] at hown
        exact hown
      have HB : Hid (Below w.heap.size w wr) := hb
      clear hown hb hil hi
      go_wp2
      refine bodyPost_ret (results_tmp (t := 2) rfl _ _ _) rfl ⟨u3, rfl, HO.out, HB.out⟩

set_option maxHeartbeats 400000 in
theorem spans_nil (w : World) : Calls Tryz.prog 5 #[.slice none 0 0] w (SpansPost [] w) := by
  go_enter Tryz.func5, Tryz.ntmps5
  go_wp2
  go_loopw [3, 4] (fun vm vi wr => vi = .int .i64 0 ∧ vm = .slice none 0 0 ∧ Below w.heap.size w wr) (fun _ vi _ => 0)
  case atStart => exact ⟨rfl, rfl, Below.refl _ _⟩
  case round =>
    obtain ⟨rfl, rfl, hb⟩ := hrel
    have HB : Hid (Below w.heap.size w wr) := hb
    clear hb
    go_wp2
    refine bodyPost_ret (results_tmp (t := 2) rfl _ _ _) rfl ⟨_, rfl, World.ownsRow_nil _ _ _ _, HB.out⟩
end Go.Proofs.YtkafaocbeankiaaGreatDoor

/-
  equal of the law, walked, of two lists that are the same.
-/
namespace Go.Proofs.YtkafaocbeankiaaGreatDoor
open Go.RowKit
set_option linter.unusedVariables false

end Go.Proofs.YtkafaocbeankiaaGreatDoor

/-
  SpanHolds, walked.
-/
namespace Go.Proofs.YtkafaocbeankiaaGreatDoor
open Go.RowKit
set_option linter.unusedVariables false

/-- the slice holds the spans -/
def SpS (w : World) (sl : Value) (L : List Sp) : Prop := (sl = .slice none 0 0 ∧ L = []) ∨ ∃ a cap, sl = .slice (some a) L.length cap ∧ L.length ≤ cap ∧ SpAt w a L
theorem SpS.grow {w w' : World} {sl : Value} {L : List Sp} (h : SpS w sl L) (hg : w.grownBy w' none) : SpS w' sl L := by
  rcases h with h | ⟨a, cap, h1, h2, h3⟩
  · exact Or.inl h
  · exact Or.inr ⟨a, cap, h1, h2, h3.grow hg⟩
theorem flat_get (L : List Sp) : ∀ (i : Nat) (hi : i < L.length) (k : Nat) (v : Value), (spC L[i])[k]? = some v → (L.flatMap spC)[i * 11 + k]? = some v := by
  induction L with
  | nil => intro i hi; simp at hi
  | cons s L ih =>
    intro i hi k v h
    rw [List.flatMap_cons]
    have hl : (spC s).length = 11 := rfl
    cases i with
    | zero =>
      simp only [List.getElem_cons_zero] at h
      have hk : k < (spC s).length := (List.getElem?_eq_some_iff.1 h).1
      rw [Nat.zero_mul, Nat.zero_add, List.getElem?_append_left hk]
      exact h
    | succ i =>
      simp only [List.getElem_cons_succ] at h
      rw [List.getElem?_append_right (by rw [hl]; omega), hl, show (i + 1) * 11 + k - 11 = i * 11 + k by omega]
      exact ih i (by simpa using hi) k v h
theorem sps_own {w : World} {base : Nat} {v : Value} {L : List Sp} (h : w.ownsRow base 39 11 v L.length (L.flatMap spC)) : SpS w v L := by
  rcases h.2 with ⟨h1, h2⟩ | ⟨g, cap, cur, h1, hb, hg, hn, hm, hs, ht⟩
  · exact Or.inl ⟨h1, List.length_eq_zero_iff.1 h2⟩
  · refine Or.inr ⟨⟨g, 0, none⟩, cap, h1, hn, fun i hi => elt_of_cells fun k u hu => ?_⟩
    have := flat_get L i hi k u hu
    exact h.cells (g := g) (by rw [h1]; rfl) (i * 11 + k) u this

theorem cSpans (sl : Value) (L : List Sp) (w : World) (h : SpS w sl L) (hL : L.length ≤ 1048576) :
    Calls Tryz.prog 5 #[sl] w fun e w' => ∃ v, e = .returned v ∧ SpS w' v L ∧ w.grownBy w' none := by
  rcases h with ⟨rfl, rfl⟩ | ⟨a, cap, rfl, h2, h3⟩
  · refine (spans_nil w).mono ?_
    rintro e w' ⟨v, rfl, ho, hb⟩
    exact ⟨v, rfl, sps_own ho, below_gb' hb⟩
  · refine (spans_at a cap L w hL h2 h3).mono ?_
    rintro e w' ⟨v, rfl, ho, hb⟩
    exact ⟨v, rfl, sps_own ho, below_gb' hb⟩
theorem cSoundR (sl : Value) (L : List Sp) (w : World) (h : SpS w sl L) (hL : L.length ≤ 1048576) (hsz : ∀ s ∈ L, smallS s) :
    Calls Tryz.prog 6 #[sl] w fun e w' => e = .returned (.bool (L.all soundS)) ∧ w.grownBy w' none := by
  rcases h with ⟨rfl, rfl⟩ | ⟨a, cap, rfl, h2, h3⟩
  · exact soundSpans_nil w
  · exact soundSpans_at a cap L w (by omega) h2 h3 hsz
theorem cSoundP (sl : Value) (L : List Sp) (w : World) (h : SpS w sl L) (hL : L.length ≤ 1048576) (hsz : ∀ s ∈ L, smallS s) :
    Calls Tryz.prog 33 #[sl] w fun e w' => e = .returned (.bool (L.all soundS)) ∧ w.grownBy w' none := by
  rcases h with ⟨rfl, rfl⟩ | ⟨a, cap, rfl, h2, h3⟩
  · exact psound_nil w
  · exact psound_at a cap L w (by omega) h2 h3 hsz
theorem cHoldsR (sl : Value) (L : List Sp) (v1 v2 v3 : Int) (v4 v5 : ByteArray) (w : World) (h : SpS w sl L) (hL : L.length ≤ 1048576) (hsz : ∀ s ∈ L, smallS s) (hv : v4.size ≤ 1048576) :
    Calls Tryz.prog 28 #[sl, .agg #[.int .i64 v1, .int .i64 v2, .int .i64 v3, .string v4, .string v5]] w fun e w' => e = .returned (.bool (holdsL L ⟨v1, v2, v3, v4.data.toList⟩)) ∧ w.grownBy w' none := by
  rcases h with ⟨rfl, rfl⟩ | ⟨a, cap, rfl, h2, h3⟩
  · exact rholds_nil v1 v2 v3 v4 v5 w
  · exact rholds_at a cap L v1 v2 v3 v4 v5 w (by omega) h2 h3 hsz hv
end Go.Proofs.YtkafaocbeankiaaGreatDoor
