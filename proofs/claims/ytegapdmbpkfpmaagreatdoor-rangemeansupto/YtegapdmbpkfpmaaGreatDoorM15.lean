import Derived.Test.YtegapdmbpkfpmaaGreatDoorM07
/-
  Growth, with the draws counted; digits alone.
-/
namespace Go.Proofs.YtegapdmbpkfpmaaGreatDoor
open Go.RowKit
set_option linter.unusedVariables false
/-- grown, and no draw taken back -/
def Gr (w w' : World) : Prop := w.grownBy w' none ∧ w.drawn ≤ w'.drawn
theorem gr_refl (w : World) : Gr w w := ⟨gb_refl w none, Nat.le_refl _⟩
theorem gr_drew {w w' : World} (h : Gr w w') (n : Nat) : Gr w (w'.drewN n) := ⟨gb_drew h.1 n, Nat.le_trans h.2 (by simp [World.drewN])⟩
theorem gr_trans {w w1 w2 : World} (h : Gr w w1) (h' : Gr w1 w2) : Gr w w2 := ⟨gb_trans h.1 h'.1, Nat.le_trans h.2 h'.2⟩
theorem gr_alloc {w w' : World} (h : Gr w w') (o : Obj) : Gr w (w'.alloc o) := ⟨gb_alloc h.1 o, h.2⟩
theorem gr_bytes (w : World) (e : TypeId) (s : ByteArray) : Gr w (Lib.bytesWorld w e s) := ⟨gb_bytes w e s, Nat.le_succ w.drawn⟩
end Go.Proofs.YtegapdmbpkfpmaaGreatDoor
namespace Go.Proofs.YtegapdmbpkfpmaaGreatDoor.G
open Go.RowKit
set_option maxHeartbeats 400000 in
theorem isDigits_any (s : ByteArray) (w : World) (hs : s.size < 2 ^ 62) :
    Calls Tryz.prog 112 #[.string s] w fun e w' => e = .returned (.bool (numT s.data.toList)) ∧ Gr w w' := by
  have kc := fun (w : World) => Lib.run_convert_string_bytes (P := Tryz.prog) w 9 120 5 s Tryz.underlying9 Tryz.underlying120 Tryz.underlying5
  obtain ⟨W, hW⟩ : ∃ W, Lib.bytesWorld w 5 s = W := ⟨_, rfl⟩
  have HC : Hid (∀ j, (hj : j < s.size) → W.cell? ⟨w.heap.size, j, none⟩ = some (.int .u8 (s[j].toNat : Int))) := by
    show ∀ j, (hj : j < s.size) → W.cell? ⟨w.heap.size, j, none⟩ = some (.int .u8 (s[j].toNat : Int))
    intro j hj
    rw [← hW, Lib.bytesWorld_cell w _ s j hj]
    have : s.data.toList.getD j 0 = s[j] := by
      rw [List.getD_eq_getElem?_getD, get_data s j hj]; rfl
    rw [this]
  have HG : Hid (Gr w W) := by show Gr w W; rw [← hW]; exact gr_bytes w _ s
  have kw := kc w
  rw [hW] at kw
  clear kc hW
  go_enter Tryz.func112, Tryz.ntmps112
  go_wp2
  go_loop [8] (fun i => ∃ k : Nat, k ≤ s.size ∧ i = .int .i64 k ∧ ∀ j, (hj : j < s.size) → j < k → isD s[j] = true) (fun i => s.size - (intOf i).toNat)
  case atStart => exact ⟨0, Nat.zero_le _, rfl, fun j hj h => absurd h (by omega)⟩
  case round =>
    obtain ⟨k, hk, rfl, hp⟩ := hrel
    have HP : Hid (∀ j, (hj : j < s.size) → j < k → isD s[j] = true) := hp
    clear hp
    by_cases hlt : k < s.size
    · have ck := HC.out k hlt
      cases hd : isD s[k] with
      | true =>
        go_wp2_with (go_at_call 138; refine (isDigit_any _ _).mono ?_; rintro e w' ⟨rfl, rfl⟩)
        go_round
        case rel =>
          refine ⟨k + 1, by omega, by go_num, fun j hj hjk => ?_⟩
          by_cases hjk' : j < k
          · exact HP.out j hj hjk'
          · have e : j = k := by omega
            subst e
            exact hd
        case measure => simp [intOf]; omega
      | false =>
        have HN : Hid (numT s.data.toList = false) := by
          show numT s.data.toList = false
          unfold numT
          have : s.data.toList.all isD = false := by
            rw [List.all_eq_false]
            exact ⟨s[k], List.mem_of_getElem? (get_data s k hlt), by simp [hd]⟩
          rw [this, Bool.and_false]
        go_wp2_with (go_at_call 138; refine (isDigit_any _ _).mono ?_; rintro e w' ⟨rfl, rfl⟩)
        go_ret
        exact ⟨ret_bool HN.out.symm, HG.out⟩
    · have hks : k = s.size := by omega
      have HA : Hid (s.data.toList.all isD = true) := by
        show s.data.toList.all isD = true
        rw [List.all_eq_true]
        intro c hc
        obtain ⟨j, hj, rfl⟩ := List.getElem_of_mem hc
        exact HP.out j (by simpa using hj) (by simp at hj; have : s.size = s.data.size := rfl; omega)
      clear hks hk
      go_wp2
      go_ret
      refine ⟨ret_bool ?_, HG.out⟩
      unfold numT
      rw [Lib.toList_data, HA.out, Bool.and_true]

end Go.Proofs.YtegapdmbpkfpmaaGreatDoor.G

/-
  Parts behind their interface, walked.
-/
namespace Go.Proofs.YtegapdmbpkfpmaaGreatDoor.G
open Go.RowKit
set_option linter.unusedVariables false

/-- a part as the program holds it -/
def partV (l : List UInt8) : Value := if numT l then .iface 169 (.string ⟨(bareT l).toArray⟩) else .iface 171 (.string ⟨l.toArray⟩)

set_option maxHeartbeats 400000 in
theorem partOf_any (s : ByteArray) (w : World) (hs : s.size < 2 ^ 62) :
    Calls Tryz.prog 99 #[.string s] w fun e w' => e = .returned (partV s.data.toList) ∧ Gr w w' := by
  unfold partV
  cases hn : numT s.data.toList with
  | true =>
    have HN : Hid (numT s.data.toList = true) := hn
    clear hn
    rw [if_pos rfl]
    go_enter Tryz.func99, Tryz.ntmps99
    go_wp2_with (first | (go_at_call 112; refine (isDigits_any _ _ hs).mono ?_; rw [HN.out]; rintro e w1 ⟨rfl, hg1⟩) | (go_at_call 115; refine (trim_any _ _).mono ?_; rintro e w' ⟨rfl, rfl⟩))
    go_ret
    exact ⟨rfl, hg1⟩
  | false =>
    have HN : Hid (numT s.data.toList = false) := hn
    clear hn
    rw [if_neg (by simp)]
    go_enter Tryz.func99, Tryz.ntmps99
    go_wp2_with (first | (go_at_call 112; refine (isDigits_any _ _ hs).mono ?_; rw [HN.out]; rintro e w1 ⟨rfl, hg1⟩))
    go_ret
    exact ⟨rfl, hg1⟩

theorem taNN (b : ByteArray) (w : World) : (Instr.typeAssert (.iface 169 (.string b)) 157 169 true).run Tryz.prog w = .ok (.tuple #[.string b, .bool true]) w := by kernel_rfl
theorem taWN (b : ByteArray) (w : World) : (Instr.typeAssert (.iface 171 (.string b)) 157 169 true).run Tryz.prog w = .ok (.tuple #[.string ⟨#[]⟩, .bool false]) w := by kernel_rfl
theorem taWW (b : ByteArray) (w : World) : (Instr.typeAssert (.iface 171 (.string b)) 157 171 true).run Tryz.prog w = .ok (.tuple #[.string b, .bool true]) w := by kernel_rfl
theorem taNW (b : ByteArray) (w : World) : (Instr.typeAssert (.iface 169 (.string b)) 157 171 true).run Tryz.prog w = .ok (.tuple #[.string ⟨#[]⟩, .bool false]) w := by kernel_rfl

set_option maxHeartbeats 400000 in
theorem orderNN_eq (a b : ByteArray) (w : World) (h : a.size = b.size) : Calls Tryz.prog 202 #[.string a, .iface 169 (.string b)] w fun e w' => e = .returned (.int .i64 (Lib.compareBytes a.data.toList b.data.toList)) ∧ ∃ n, w' = w.drewN n := by
  have ta := taNN b
  have hd : ((a.size : Int) == (b.size : Int)) = true := by simp; omega
  clear h
  go_enter Tryz.func202, Tryz.ntmps202
  go_wp2_with (first | (go_at_call 203; refine (cmpN_any _ _ _).mono ?_; rintro e w' ⟨rfl, rfl⟩))
  go_ret
  exact ⟨rfl, 0, rfl⟩
set_option maxHeartbeats 400000 in
theorem orderNN_ne (a b : ByteArray) (w : World) (h : ¬ a.size = b.size) : Calls Tryz.prog 202 #[.string a, .iface 169 (.string b)] w fun e w' => e = .returned (.int .i64 (Lib.compareInt a.size b.size)) ∧ ∃ n, w' = w.drewN n := by
  have ta := taNN b
  have hd : ((a.size : Int) == (b.size : Int)) = false := by simp; omega
  clear h
  go_enter Tryz.func202, Tryz.ntmps202
  go_wp2_with (first | (go_at_call 75; refine (cmpInt_any _ _ _).mono ?_; rintro e w' ⟨rfl, rfl⟩))
  go_ret
  exact ⟨rfl, 0, rfl⟩
set_option maxHeartbeats 400000 in
theorem orderNW (a b : ByteArray) (w : World) : Calls Tryz.prog 202 #[.string a, .iface 171 (.string b)] w fun e w' => e = .returned (.int .i64 (-1)) ∧ ∃ n, w' = w.drewN n := by
  have ta := taWN b
  go_enter Tryz.func202, Tryz.ntmps202
  go_wp2
  go_ret
  exact ⟨rfl, 0, rfl⟩
set_option maxHeartbeats 400000 in
theorem orderWN (a b : ByteArray) (w : World) : Calls Tryz.prog 205 #[.string a, .iface 169 (.string b)] w fun e w' => e = .returned (.int .i64 1) ∧ ∃ n, w' = w.drewN n := by
  have ta := taNW b
  go_enter Tryz.func205, Tryz.ntmps205
  go_wp2
  go_ret
  exact ⟨rfl, 0, rfl⟩
set_option maxHeartbeats 400000 in
theorem orderWW (a b : ByteArray) (w : World) : Calls Tryz.prog 205 #[.string a, .iface 171 (.string b)] w fun e w' => e = .returned (.int .i64 (Lib.compareBytes a.data.toList b.data.toList)) ∧ ∃ n, w' = w.drewN n := by
  have ta := taWW b
  go_enter Tryz.func205, Tryz.ntmps205
  go_wp2_with (first | (go_at_call 206; refine (cmpW_any _ _ _).mono ?_; rintro e w' ⟨rfl, rfl⟩))
  go_ret
  exact ⟨rfl, 0, rfl⟩
end Go.Proofs.YtegapdmbpkfpmaaGreatDoor.G

/-
  Two Pres, walked.
-/
namespace Go.Proofs.YtegapdmbpkfpmaaGreatDoor.G
open Go.RowKit
set_option linter.unusedVariables false

theorem emp_t {a : ByteArray} (h : a.size = 0) : a.toList.isEmpty = true := by
  rw [Lib.toList_data, List.isEmpty_iff]; exact List.length_eq_zero_iff.1 (by simpa using h)
theorem emp_f {a : ByteArray} (h : a.size ≠ 0) : a.toList.isEmpty = false := by
  rw [Lib.toList_data]
  cases hl : a.data.toList with
  | nil => exact absurd (show a.size = 0 from by show a.data.size = 0; rw [← Array.length_toList, hl]; rfl) h
  | cons c l => rfl

set_option maxHeartbeats 400000 in
theorem pre_e (a b : ByteArray) (w : World) (h : a.size = 0 ∨ b.size = 0) :
    Calls Tryz.prog 76 #[.string a, .string b] w fun e w' => e = .returned (.int .i64 (preC a.data.toList b.data.toList)) ∧ Gr w w' := by
  have HE : Hid (preC a.data.toList b.data.toList = Lib.compareInt b.size a.size) := by
    show preC a.data.toList b.data.toList = Lib.compareInt b.size a.size
    rw [pre_empty]
    · simp
    · rcases h with h | h
      · left; exact List.length_eq_zero_iff.1 (by simpa using h)
      · right; exact List.length_eq_zero_iff.1 (by simpa using h)
  rw [HE.out]
  by_cases ha : a.size = 0
  · have c1 := emp_t ha
    have HA : Hid (a.size = 0) := ha
    clear h ha
    go_enter Tryz.func76, Tryz.ntmps76
    go_wp2_with (first | (go_at_call 75; refine (cmpInt_any _ _ _).mono ?_; rintro e w' ⟨rfl, rfl⟩))
    all_goals (go_ret; exact ⟨rfl, gr_refl _⟩)
  · have c1 := emp_f ha
    have c2 := emp_t (h.resolve_left ha)
    clear h ha
    go_enter Tryz.func76, Tryz.ntmps76
    go_wp2_with (first | (go_at_call 75; refine (cmpInt_any _ _ _).mono ?_; rintro e w' ⟨rfl, rfl⟩))
    all_goals (go_ret; exact ⟨rfl, gr_refl _⟩)

def sizeV : Value → Nat
  | .string s => s.size
  | _ => 0

theorem part_order (P Q : List UInt8) :
    (∃ X1 T2 X2, partV P = .iface 169 (.string X1) ∧ partV Q = .iface T2 (.string X2) ∧ ∀ w, Calls Tryz.prog 202 #[.string X1, .iface T2 (.string X2)] w fun e w' => e = .returned (.int .i64 (partC P Q)) ∧ ∃ n, w' = w.drewN n) ∨
    (∃ X1 T2 X2, partV P = .iface 171 (.string X1) ∧ partV Q = .iface T2 (.string X2) ∧ ∀ w, Calls Tryz.prog 205 #[.string X1, .iface T2 (.string X2)] w fun e w' => e = .returned (.int .i64 (partC P Q)) ∧ ∃ n, w' = w.drewN n) := by
  cases hp : numT P with
  | true =>
    left
    cases hq : numT Q with
    | true =>
      refine ⟨⟨(bareT P).toArray⟩, _, ⟨(bareT Q).toArray⟩, by unfold partV; rw [hp]; rfl, by unfold partV; rw [hq]; rfl, fun w => ?_⟩
      rw [partC_nn hp hq]
      have s1 : (⟨(bareT P).toArray⟩ : ByteArray).size = (bareT P).length := by show (bareT P).toArray.size = _; simp
      have s2 : (⟨(bareT Q).toArray⟩ : ByteArray).size = (bareT Q).length := by show (bareT Q).toArray.size = _; simp
      by_cases h : ((bareT P).length : Int) = (bareT Q).length
      · rw [if_pos h]; exact orderNN_eq _ _ w (by rw [s1, s2]; omega)
      · rw [if_neg h]
        have := orderNN_ne ⟨(bareT P).toArray⟩ ⟨(bareT Q).toArray⟩ w (by rw [s1, s2]; omega)
        rw [s1, s2] at this; exact this
    | false =>
      refine ⟨⟨(bareT P).toArray⟩, _, ⟨Q.toArray⟩, by unfold partV; rw [hp]; rfl, by unfold partV; rw [hq]; rfl, fun w => ?_⟩
      rw [partC_nw hp hq]; exact orderNW _ _ w
  | false =>
    right
    cases hq : numT Q with
    | true =>
      refine ⟨⟨P.toArray⟩, _, ⟨(bareT Q).toArray⟩, by unfold partV; rw [hp]; rfl, by unfold partV; rw [hq]; rfl, fun w => ?_⟩
      rw [partC_wn hp hq]; exact orderWN _ _ w
    | false =>
      refine ⟨⟨P.toArray⟩, _, ⟨Q.toArray⟩, by unfold partV; rw [hp]; rfl, by unfold partV; rw [hq]; rfl, fun w => ?_⟩
      rw [partC_ww hp hq]; exact orderWW _ _ w

set_option maxHeartbeats 4000000 in
set_option maxRecDepth 100000 in
theorem pre_f (a b : ByteArray) (w : World) (ha : a.size ≠ 0) (hb : b.size ≠ 0) (hs : a.size < 2 ^ 62) (hs' : b.size < 2 ^ 62) :
    Calls Tryz.prog 76 #[.string a, .string b] w fun e w' => e = .returned (.int .i64 (listC partC (splitD a.data.toList) (splitD b.data.toList))) ∧ Gr w w' := by
  have c1 := emp_f ha
  have c2 := emp_f hb
  obtain ⟨R, hR⟩ : ∃ R, R = listC partC (splitD a.data.toList) (splitD b.data.toList) := ⟨_, rfl⟩
  rw [← hR]
  have HR : Hid (R = listC partC (splitD a.data.toList) (splitD b.data.toList)) := hR
  clear hR ha hb
  go_enter Tryz.func76, Tryz.ntmps76
  go_wp2_with (fail)
  go_loopw [0, 1] (fun va vb wr => ∃ x y : ByteArray, va = .string x ∧ vb = .string y ∧ x.size < 2 ^ 62 ∧ y.size < 2 ^ 62 ∧ R = listC partC (splitD x.data.toList) (splitD y.data.toList) ∧ Gr w wr) (fun va _ _ => sizeV va)
  case atStart => exact ⟨a, b, rfl, rfl, hs, hs', HR.out, gr_refl _⟩
  case round =>
    obtain ⟨x, y, rfl, rfl, hx, hy, hr, hgb⟩ := hrel
    have HX : Hid (R = listC partC (splitD x.data.toList) (splitD y.data.toList)) := hr
    have HG : Hid (Gr w wr) := hgb
    have HB : Hid (x.size < 2 ^ 62 ∧ y.size < 2 ^ 62) := ⟨hx, hy⟩
    obtain ⟨P1, hP1⟩ : ∃ P1, P1 = cut1 x.data.toList := ⟨_, rfl⟩
    obtain ⟨P2, hP2⟩ : ∃ P2, P2 = cut2 x.data.toList := ⟨_, rfl⟩
    obtain ⟨P3, hP3⟩ : ∃ P3, P3 = cut3 x.data.toList := ⟨_, rfl⟩
    obtain ⟨Q1, hQ1⟩ : ∃ Q1, Q1 = cut1 y.data.toList := ⟨_, rfl⟩
    obtain ⟨Q2, hQ2⟩ : ∃ Q2, Q2 = cut2 y.data.toList := ⟨_, rfl⟩
    obtain ⟨Q3, hQ3⟩ : ∃ Q3, Q3 = cut3 y.data.toList := ⟨_, rfl⟩
    have HP : Hid (P1 = cut1 x.data.toList ∧ P2 = cut2 x.data.toList ∧ P3 = cut3 x.data.toList) := ⟨hP1, hP2, hP3⟩
    have HQ : Hid (Q1 = cut1 y.data.toList ∧ Q2 = cut2 y.data.toList ∧ Q3 = cut3 y.data.toList) := ⟨hQ1, hQ2, hQ3⟩
    have C1 := fun w => cut_any x w hx
    rw [← hP1, ← hP2, ← hP3] at C1
    have C2 := fun w => cut_any y w hy
    rw [← hQ1, ← hQ2, ← hQ3] at C2
    have p1 : (⟨P1.toArray⟩ : ByteArray).size < 2 ^ 62 := by
      have := cut1_len x.data.toList
      rw [← hP1] at this; show P1.toArray.size < _; simp at this ⊢; omega
    have q1 : (⟨Q1.toArray⟩ : ByteArray).size < 2 ^ 62 := by
      have := cut1_len y.data.toList
      rw [← hQ1] at this; show Q1.toArray.size < _; simp at this ⊢; omega
    have D1 : Hid (∀ w, Calls Tryz.prog 99 #[.string ⟨P1.toArray⟩] w fun e w' => e = .returned (partV P1) ∧ Gr w w') := fun w => partOf_any ⟨P1.toArray⟩ w p1
    have D2 : Hid (∀ w, Calls Tryz.prog 99 #[.string ⟨Q1.toArray⟩] w fun e w' => e = .returned (partV Q1) ∧ Gr w w') := fun w => partOf_any ⟨Q1.toArray⟩ w q1
    have HC1 : Hid (∀ w, Calls Tryz.prog 98 #[.string x, .string ⟨#[46]⟩] w fun e w' => e = .returned (.tuple #[.string ⟨P1.toArray⟩, .string ⟨P2.toArray⟩, .bool P3]) ∧ ∃ n, w' = w.drewN n) := C1
    have HC2 : Hid (∀ w, Calls Tryz.prog 98 #[.string y, .string ⟨#[46]⟩] w fun e w' => e = .returned (.tuple #[.string ⟨Q1.toArray⟩, .string ⟨Q2.toArray⟩, .bool Q3]) ∧ ∃ n, w' = w.drewN n) := C2
    clear hP1 hP2 hP3 hQ1 hQ2 hQ3 C1 C2 p1 q1 hr hgb hx hy
    obtain ⟨O, hO⟩ : ∃ O, O = partC P1 Q1 := ⟨_, rfl⟩
    have HS : Hid (R = if O = 0 then (if P3 = true then (if Q3 = true then listC partC (splitD P2) (splitD Q2) else 1) else (if Q3 = true then -1 else 0)) else O) := by
      show R = _
      have h1 := HP.out
      have h2 := HQ.out
      rw [HX.out, list_step, ← h1.1, ← h1.2.1, ← h1.2.2, ← h2.1, ← h2.2.1, ← h2.2.2, ← hO]
    have HL : Hid ((P3 = true → P2.length < x.size) ∧ P2.length < 2 ^ 62 ∧ Q2.length < 2 ^ 62) := by
      have h1 := HP.out
      have h2 := HQ.out
      have h3 := HB.out
      have z1 : x.data.toList.length = x.size := by simp
      have z2 : y.data.toList.length = y.size := by simp
      have l1 := cut2_len x.data.toList
      have l2 := cut2_len y.data.toList
      rw [← h1.2.1] at l1
      rw [← h2.2.1] at l2
      refine ⟨fun h => ?_, by omega, by omega⟩
      have := (cut_yes (h1.2.2 ▸ h : cut3 x.data.toList = true)).2
      rw [← h1.2.1] at this
      omega
    rcases part_order P1 Q1 with ⟨X1, T2, X2, hv1, hv2, ho⟩ | ⟨X1, T2, X2, hv1, hv2, ho⟩
    · rw [← hO] at ho
      rw [hv1] at D1
      rw [hv2] at D2
      have H0 : Hid (∀ w, Calls Tryz.prog 202 #[.string X1, .iface T2 (.string X2)] w fun e w' => e = .returned (.int .i64 O) ∧ ∃ n, w' = w.drewN n) := ho
      clear ho hv1 hv2 hO
      have na : ∀ w, (nilAhead 357 169 (.string X1) "pantry/ver.order").run Tryz.prog w = .ok (some false) w := fun w => by kernel_rfl
      have hm : ∀ w, (method 357 169 (.string X1) "pantry/ver.order").run Tryz.prog w = .ok (202, .string X1) w := fun w => by kernel_rfl
      go_wp2_with (go_at_call 98; refine (HC1.out _).mono ?_)
      rintro e w1 ⟨rfl, n1, rfl⟩
      go_wp2_with (go_at_call 98; refine (HC2.out _).mono ?_)
      rintro e w1 ⟨rfl, n2, rfl⟩
      go_wp2
      go_region_with (first | (go_at_call_of 99 (Value.string ⟨P1.toArray⟩); refine (D1.out _).mono ?_; rintro e w3 ⟨rfl, hg3⟩) | (go_at_call_of 99 (Value.string ⟨Q1.toArray⟩); refine (D2.out _).mono ?_; rintro e w4 ⟨rfl, hg4⟩) | (go_at_call 202; refine (H0.out _).mono ?_; rintro e w5 ⟨rfl, n5, rfl⟩))
      all_goals
        have GB : Hid (Gr w w4) := gr_trans (gr_trans (gr_drew HG.out _) hg3) hg4
        clear hg3 hg4 na hm
        cases hz : (O == 0) with
        | false =>
          have HZ : Hid (R = O) := by
            show R = O
            rw [HS.out, if_neg (by simpa using hz)]
          go_wp2
          go_ret
          exact ⟨ret_int HZ.out.symm, gr_drew GB.out _⟩
        | true =>
          have HZ : Hid (O = 0) := by
            show O = 0
            simpa using hz
          cases P3 with
          | true =>
            cases Q3 with
            | true =>
              go_wp2
              go_roundw
              case rel =>
                refine ⟨⟨P2.toArray⟩, ⟨Q2.toArray⟩, rfl, rfl, ?_, ?_, ?_, gr_drew GB.out _⟩
                · show P2.toArray.size < _
                  have := HL.out.2.1; simpa using this
                · show Q2.toArray.size < _
                  have := HL.out.2.2; simpa using this
                · rw [HS.out, if_pos HZ.out]; rfl
              case measure =>
                have := HL.out.1 rfl
                show P2.toArray.size < x.size
                simpa using this
            | false =>
              have HE : Hid (R = 1) := by show R = 1; rw [HS.out, if_pos HZ.out]; rfl
              go_wp2
              go_ret
              exact ⟨ret_int HE.out.symm, gr_drew GB.out _⟩
          | false =>
            cases Q3 with
            | true =>
              have HE : Hid (R = -1) := by show R = -1; rw [HS.out, if_pos HZ.out]; rfl
              go_wp2
              go_ret
              exact ⟨ret_int HE.out.symm, gr_drew GB.out _⟩
            | false =>
              have HE : Hid (R = 0) := by show R = 0; rw [HS.out, if_pos HZ.out]; rfl
              go_wp2
              go_ret
              exact ⟨ret_int HE.out.symm, gr_drew GB.out _⟩
    · rw [← hO] at ho
      rw [hv1] at D1
      rw [hv2] at D2
      have H0 : Hid (∀ w, Calls Tryz.prog 205 #[.string X1, .iface T2 (.string X2)] w fun e w' => e = .returned (.int .i64 O) ∧ ∃ n, w' = w.drewN n) := ho
      clear ho hv1 hv2 hO
      have na : ∀ w, (nilAhead 357 171 (.string X1) "pantry/ver.order").run Tryz.prog w = .ok (some false) w := fun w => by kernel_rfl
      have hm : ∀ w, (method 357 171 (.string X1) "pantry/ver.order").run Tryz.prog w = .ok (205, .string X1) w := fun w => by kernel_rfl
      go_wp2_with (go_at_call 98; refine (HC1.out _).mono ?_)
      rintro e w1 ⟨rfl, n1, rfl⟩
      go_wp2_with (go_at_call 98; refine (HC2.out _).mono ?_)
      rintro e w1 ⟨rfl, n2, rfl⟩
      go_wp2
      go_region_with (first | (go_at_call_of 99 (Value.string ⟨P1.toArray⟩); refine (D1.out _).mono ?_; rintro e w3 ⟨rfl, hg3⟩) | (go_at_call_of 99 (Value.string ⟨Q1.toArray⟩); refine (D2.out _).mono ?_; rintro e w4 ⟨rfl, hg4⟩) | (go_at_call 205; refine (H0.out _).mono ?_; rintro e w5 ⟨rfl, n5, rfl⟩))
      all_goals
        have GB : Hid (Gr w w4) := gr_trans (gr_trans (gr_drew HG.out _) hg3) hg4
        clear hg3 hg4 na hm
        cases hz : (O == 0) with
        | false =>
          have HZ : Hid (R = O) := by
            show R = O
            rw [HS.out, if_neg (by simpa using hz)]
          go_wp2
          go_ret
          exact ⟨ret_int HZ.out.symm, gr_drew GB.out _⟩
        | true =>
          have HZ : Hid (O = 0) := by
            show O = 0
            simpa using hz
          cases P3 with
          | true =>
            cases Q3 with
            | true =>
              go_wp2
              go_roundw
              case rel =>
                refine ⟨⟨P2.toArray⟩, ⟨Q2.toArray⟩, rfl, rfl, ?_, ?_, ?_, gr_drew GB.out _⟩
                · show P2.toArray.size < _
                  have := HL.out.2.1; simpa using this
                · show Q2.toArray.size < _
                  have := HL.out.2.2; simpa using this
                · rw [HS.out, if_pos HZ.out]; rfl
              case measure =>
                have := HL.out.1 rfl
                show P2.toArray.size < x.size
                simpa using this
            | false =>
              have HE : Hid (R = 1) := by show R = 1; rw [HS.out, if_pos HZ.out]; rfl
              go_wp2
              go_ret
              exact ⟨ret_int HE.out.symm, gr_drew GB.out _⟩
          | false =>
            cases Q3 with
            | true =>
              have HE : Hid (R = -1) := by show R = -1; rw [HS.out, if_pos HZ.out]; rfl
              go_wp2
              go_ret
              exact ⟨ret_int HE.out.symm, gr_drew GB.out _⟩
            | false =>
              have HE : Hid (R = 0) := by show R = 0; rw [HS.out, if_pos HZ.out]; rfl
              go_wp2
              go_ret
              exact ⟨ret_int HE.out.symm, gr_drew GB.out _⟩

theorem pre_any (a b : ByteArray) (w : World) (hs : a.size < 2 ^ 62) (hs' : b.size < 2 ^ 62) :
    Calls Tryz.prog 76 #[.string a, .string b] w fun e w' => e = .returned (.int .i64 (preC a.data.toList b.data.toList)) ∧ Gr w w' := by
  by_cases h : a.size = 0 ∨ b.size = 0
  · exact pre_e a b w h
  · have ha : a.size ≠ 0 := fun e => h (Or.inl e)
    have hb : b.size ≠ 0 := fun e => h (Or.inr e)
    rw [pre_full a.data.toList b.data.toList (fun e => ha (by show a.data.size = 0; rw [← Array.length_toList, e]; rfl)) (fun e => hb (by show b.data.size = 0; rw [← Array.length_toList, e]; rfl))]
    exact pre_f a b w ha hb hs hs'
end Go.Proofs.YtegapdmbpkfpmaaGreatDoor.G
