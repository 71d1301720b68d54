/-
  The document's schedule.
-/
import Derived.Test.YtfgjlfdiljlfnaaDoorR2
import Derived.Test.YtfgjlfdiljlfnaaDoorP4
import Derived.Deep.RegionHeld3
import Derived.Deep.RegionLaw
import Derived.Deep.AppendLies
namespace Go.Proofs.YtfgjlfdiljlfnaaDoor
open Go.RowKit
set_option linter.unusedVariables false

theorem info3 : (Tryd.prog.info? 3).map (fun i => (i.zero, i.size, i.bytes)) = some (some (.int .i64 0), 1, 8) := by kernel_rfl
/-- the number of the first k of four bytes. -/
def partK (c : List UInt8) (i : Nat) : Nat → Int
  | 0 => 0
  | k + 1 => partK c i k * 256 + ((nb c (4 * i + k)).toNat : Int)
theorem nb_lt (c : List UInt8) (j : Nat) : (nb c j).toNat < 256 := (nb c j).toNat_lt
theorem partK_bd (c : List UInt8) (i : Nat) : ∀ k, 0 ≤ partK c i k ∧ partK c i k < 256 ^ k
  | 0 => by simp [partK]
  | k + 1 => by
    have h := partK_bd c i k
    have hb := nb_lt c (4 * i + k)
    rw [partK, Int.pow_succ]
    omega
theorem partK_word (c : List UInt8) (i : Nat) : partK c i 4 = pWord c i := by
  unfold pWord
  rw [wordN _ _ _ _ (nb_lt _ _) (nb_lt _ _) (nb_lt _ _) (nb_lt _ _)]
  simp [partK]
def l64 (l : List Int) : List Value := l.map (Value.int .i64)
def wsK (c : List UInt8) (i : Nat) : List Int := (List.range i).map (pWord c)
theorem wsK_len (c : List UInt8) (i : Nat) : (wsK c i).length = i := by simp [wsK]
theorem wsK_succ (c : List UInt8) (i : Nat) : wsK c (i + 1) = wsK c i ++ [pWord c i] := by simp [wsK, List.range_succ]
theorem wsK_16 (c : List UInt8) : wsK c 16 = pWords c 16 := by
  unfold wsK pWords
  apply List.map_congr_left
  intro i hi
  rw [if_pos (by simpa using hi)]

set_option maxHeartbeats 2000000 in
set_option maxRecDepth 100000 in
theorem schedule_any (c : List UInt8) (hc : c.length = 64) (w : World) :
    Calls Tryd.prog 34 #[.string ⟨c.toArray⟩] w fun e w' => ∃ g cap, e = .returned (.slice (some ⟨g, 0, none⟩) 64 cap) ∧ w'.ownsRow w.heap.size 3 1 (.slice (some ⟨g, 0, none⟩) 64 cap) 64 (l64 (pSp (pWords c 16) 48)) ∧ Below w.heap.size w w' := by
  obtain ⟨i0, hi, hz0, hz1, hzb⟩ := info_parts info3
  obtain ⟨s, hs⟩ : ∃ s : ByteArray, s = ⟨c.toArray⟩ := ⟨_, rfl⟩
  have hs64 : s.size = 64 := by rw [hs]; show c.toArray.size = 64; simp [hc]
  have HB : Hid (∀ j, (hj : j < s.size) → s[j] = nb c j) := fun j hj => by
    subst hs
    show c.toArray[j] = _
    unfold nb
    have hj' : j < c.length := by have : (⟨c.toArray⟩ : ByteArray).size = c.length := (by show c.toArray.size = _; simp); omega
    simp [hj']
  rw [← hs]
  have hsz1 : 64 ≤ s.size := by omega
  have hsz2 : s.size ≤ 64 := by omega
  clear hs hs64
  go_enter Tryd.func34, Tryd.ntmps34
  go_wp2
  go_loopw [3, 4, 5, 6] (fun v i x kk wr => ∃ k : Nat, k ≤ 16 ∧ i = .int .i64 k ∧ wr.ownsRow w.heap.size 3 1 v k (l64 (wsK c k)) ∧ Below w.heap.size w wr) (fun _ i _ _ _ => 16 - (intOf i).toNat)
  case atStart => exact ⟨0, by omega, rfl, World.ownsRow_nil _ _ _ _, Below.refl _ _⟩
  case round =>
    obtain ⟨k, hk, rfl, hrow, hbl⟩ := hrel
    have hzz := hbl.size
    by_cases hlt : k < 16
    · go_wp2
      go_loop [5, 6] (fun x q => ∃ j : Nat, j ≤ 4 ∧ q = .int .i64 j ∧ x = .int .i64 (partK c k j)) (fun _ q => 4 - (intOf q).toNat)
      case atStart => exact ⟨0, by omega, rfl, rfl⟩
      case round =>
        obtain ⟨j, hj, rfl, rfl⟩ := hrel
        have hpb := partK_bd c k j
        by_cases hj4 : j < 4
        · have hp2 : partK c k j < 16777216 := by
            have : (256 : Int) ^ j ≤ 256 ^ 3 := by
              have := Nat.pow_le_pow_right (n := 256) (by omega) (show j ≤ 3 by omega)
              exact_mod_cast this
            have h3 : (256 : Int) ^ 3 = 16777216 := by decide
            omega
          have hp0 := hpb.1
          have hjs : 4 * k + j < s.size := by omega
          have hbt := s[4 * k + j].toNat_lt
          have HV : Hid (partK c k (j + 1) = partK c k j * 256 + (s[4 * k + j].toNat : Int)) := by
            show partK c k (j + 1) = _
            rw [HB.out _ hjs]; rfl
          have a0 : (0 : Int) ≤ 4 * (k : Int) + (j : Int) := by omega
          have a1 : 4 * (k : Int) + (j : Int) < (s.size : Int) := by omega
          clear hpb
          go_wp2
          go_round
          case rel => exact ⟨j + 1, by omega, by go_num, by rw [HV.out]⟩
          case measure => simp [intOf]; omega
        · obtain rfl : j = 4 := by omega
          obtain ⟨X, hX⟩ : ∃ X, partK c k 4 = X := ⟨_, rfl⟩
          have HX : Hid (X = pWord c k) := by show X = pWord c k; rw [← hX]; exact partK_word c k
          rw [hX]
          clear hX hpb
          go_wp2_with (first | (at_builtin; refine wpList_append_own _ rfl _ _ 46 rfl w.heap.size 3 i0 (.int .i64 0) 1 8 Tryd.underlying46 hi hz0 hz1 hzb rfl (by decide) _ _ _ rfl (hrow.alloc _) ⟨wr.heap.size, 0, none⟩ 1 1 [.int .i64 X] rfl rfl (cell_one_new _ _ _) (by simp [Value.oneCell']) (by unfold maxLen; omega) (by omega) (by simp; omega) ?_; intro v' w1 hown' hgrow _))
          have hb1 : Below w.heap.size w w1 := (hbl.alloc hzz _).grown hgrow (by simp; omega) (fun q hq => (hrow.lt q hq).1)
          have HO : Hid (w1.ownsRow w.heap.size 3 1 v' (k + 1) (l64 (wsK c (k + 1)))) := by
            show w1.ownsRow w.heap.size 3 1 v' (k + 1) (l64 (wsK c (k + 1)))
            rw [wsK_succ, ← HX.out]
            simpa [l64] using hown'
          clear hown' hgrow hrow
          go_wp2
          go_roundw
          case rel => exact ⟨k + 1, by omega, by go_num, HO.out, hb1⟩
          case measure => simp [intOf]; omega
    · have hke : k = 16 := by omega
      rw [hke, wsK_16] at hrow
      obtain ⟨WD, hWD⟩ : ∃ WD, pWords c 16 = WD := ⟨_, rfl⟩
      rw [hWD] at hrow
      have hWl : WD.length = 16 := by rw [← hWD]; exact pWords_len _ _
      have hWo : ∀ x ∈ WD, 0 ≤ x ∧ x < 4294967296 := by
        rw [← hWD]
        intro x hx
        simp only [pWords, List.mem_map] at hx
        obtain ⟨i, _, rfl⟩ := hx
        split
        · exact bok _ _ _
        · omega
      have HWD : Hid (pWords c 16 = WD) := hWD
      have HWo : Hid (∀ x ∈ WD, 0 ≤ x ∧ x < 4294967296) := hWo
      have HWl : Hid (WD.length = 16) := hWl
      obtain ⟨g0, cap0, rfl⟩ : ∃ g cap, u3 = .slice (some ⟨g, 0, none⟩) 16 cap := by
        rcases hrow.2 with ⟨_, h0⟩ | ⟨g, cap, cur, hv, _⟩
        · omega
        · exact ⟨g, cap, hv⟩
      have e16 : WD = (pSp WD 0).take 16 := by
        show WD = (sp0 WD).take 16
        unfold sp0
        rw [List.take_append_of_le_length (by omega), List.take_of_length_le (by omega)]
      have hrow0 : wr.ownsRow w.heap.size 3 1 (.slice (some ⟨g0, 0, none⟩) 16 cap0) 16 (l64 ((pSp WD 0).take 16)) := by rw [← e16]; exact hrow
      clear hWD hWo hWl e16 hrow hke
      go_wp2
      go_loopw [3, 7] (fun v i wr => ∃ n k g cap : Nat, n ≤ 48 ∧ k = 16 + n ∧ i = .int .i64 k ∧ v = .slice (some ⟨g, 0, none⟩) k cap ∧ wr.ownsRow w.heap.size 3 1 v k (l64 ((pSp WD n).take k)) ∧ Below w.heap.size w wr) (fun _ i _ => 64 - (intOf i).toNat)
      case atStart => exact ⟨0, 16, g0, cap0, by omega, rfl, rfl, rfl, hrow0, hbl⟩
      case round =>
        obtain ⟨n, k, g, cap, hn, hkn, rfl, rfl, hrow, hbr⟩ := hrel
        clear hrow0
        have hz2 := hbr.size
        have HK : Hid (k = 16 + n) := hkn
        have hk16 : 16 ≤ k := by omega
        have hk64 : k ≤ 64 := by omega
        obtain ⟨l, hl⟩ : ∃ l, l = pSp WD n := ⟨_, rfl⟩
        have hll : l.length = 64 := by rw [hl]; exact pSp_len WD HWl.out n
        have HL : Hid (l = pSp WD n) := hl
        have hlw : ∀ x ∈ l, 0 ≤ x ∧ x < 4294967296 := by rw [hl]; exact pSp_ok WD HWo.out n
        have x15 := nth_ok l hlw (k - 15)
        have x2 := nth_ok l hlw (k - 2)
        have x16 := nth_ok l hlw (k - 16)
        have x7 := nth_ok l hlw (k - 7)
        rw [← hl] at hrow
        have hcell : ∀ j, j < k → wr.cell? ⟨g, j, none⟩ = some (.int .i64 (nth l j)) := by
          intro j hj
          rw [hrow.cellAt j (by omega)]
          unfold l64 nth
          have hjl : j < l.length := by omega
          simp [hj, hjl]
        by_cases hlt : k < 64
        · have hgz := (hrow.lt g rfl)
          have c15 := hcell (k - 15) (by omega)
          have c2 := hcell (k - 2) (by omega)
          have c16 := hcell (k - 16) (by omega)
          have c7 := hcell (k - 7) (by omega)
          have hm2 : (2 : Int) ≤ (k : Int) := by omega
          have hm7 : (7 : Int) ≤ (k : Int) := by omega
          have hm15 : (15 : Int) ≤ (k : Int) := by omega
          have hm16 : (16 : Int) ≤ (k : Int) := by omega
          have hi2 : (0 : Int) ≤ (k : Int) - 15 := by omega
          have hi3 : (0 : Int) ≤ (k : Int) - 2 := by omega
          have hi4 : (0 : Int) ≤ (k : Int) - 16 := by omega
          have hi5 : (0 : Int) ≤ (k : Int) - 7 := by omega
          have hj2 : (k : Int) - 15 < (k : Int) := by omega
          have hj3 : (k : Int) - 2 < (k : Int) := by omega
          have hj4 : (k : Int) - 16 < (k : Int) := by omega
          have hj5 : (k : Int) - 7 < (k : Int) := by omega
          have w16 : IntKind.i64.wrap ((k : Int) - 16) = (k : Int) - 16 := wr64 _ (by omega) (by omega)
          have w7 : IntKind.i64.wrap ((k : Int) - 7) = (k : Int) - 7 := wr64 _ (by omega) (by omega)
          have t16 : ((k : Int) - 16).toNat = k - 16 := by omega
          have t7 : ((k : Int) - 7).toNat = k - 7 := by omega
          obtain ⟨N15, hN15⟩ : ∃ N, nth l (k - 15) = N := ⟨_, rfl⟩
          obtain ⟨N2, hN2⟩ : ∃ N, nth l (k - 2) = N := ⟨_, rfl⟩
          obtain ⟨N16, hN16⟩ : ∃ N, nth l (k - 16) = N := ⟨_, rfl⟩
          obtain ⟨N7, hN7⟩ : ∃ N, nth l (k - 7) = N := ⟨_, rfl⟩
          rw [hN15] at c15 x15
          rw [hN2] at c2 x2
          rw [hN16] at c16 x16
          rw [hN7] at c7 x7
          obtain ⟨AU, hAU⟩ : ∃ A, bits BinOp.xor IntKind.u32 (bits BinOp.xor IntKind.u32 (pRot N15 7) (pRot N15 18)) (N15 / 8) = A := ⟨_, rfl⟩
          obtain ⟨BU, hBU⟩ : ∃ A, bits BinOp.xor IntKind.u32 (bits BinOp.xor IntKind.u32 (pRot N2 17) (pRot N2 19)) (N2 / 1024) = A := ⟨_, rfl⟩
          have hA : bits BinOp.xor IntKind.i64 (bits BinOp.xor IntKind.i64 (pRot N15 7) (pRot N15 18)) (N15 / 8) = AU := by rw [x32 _ _ (rok _ _) (rok _ _), x32 _ _ (bok _ _ _) (by omega)]; exact hAU
          have hB : bits BinOp.xor IntKind.i64 (bits BinOp.xor IntKind.i64 (pRot N2 17) (pRot N2 19)) (N2 / 1024) = BU := by rw [x32 _ _ (rok _ _) (rok _ _), x32 _ _ (bok _ _ _) (by omega)]; exact hBU
          have bA : 0 ≤ AU ∧ AU < 4294967296 := by rw [← hAU]; exact bok _ _ _
          have bB : 0 ≤ BU ∧ BU < 4294967296 := by rw [← hBU]; exact bok _ _ _
          obtain ⟨NW, hNW⟩ : ∃ N, (N16 + AU + N7 + BU) % 4294967296 = N := ⟨_, rfl⟩
          have HNW : Hid (pNew l k = NW) := by
            show pNew l k = NW
            unfold pNew
            rw [hN15, hN2, hN16, hN7, hAU, hBU, ← hNW]
            omega
          have C37 : Hid (∀ wx, Calls Tryd.prog 37 #[.int .i64 (N16 + AU + N7 + BU)] wx fun e w' => e = .returned (.int .i64 NW) ∧ w' = wx) := fun wx => by rw [← hNW]; exact word_any _ wx (by omega) (by omega)
          have v1 : IntKind.i64.wrap (N16 + AU) = N16 + AU := wr64 _ (by omega) (by omega)
          have v2 : IntKind.i64.wrap (N16 + AU + N7) = N16 + AU + N7 := wr64 _ (by omega) (by omega)
          have v3 : IntKind.i64.wrap (N16 + AU + N7 + BU) = N16 + AU + N7 + BU := wr64 _ (by omega) (by omega)
          clear hl hlw hcell hN15 hN2 hN16 hN7 hAU hBU hNW hkn
          go_wp2_with (go_at_call 36; refine (refRot_any _ _ _ (by omega) (by omega) (by simp)).mono ?_; rintro e w' ⟨rfl, q, hq⟩; subst w')
          go_region_law (first | ((refine step_append_lies _ (by rfl) _ _ _ (by rfl) w.heap.size 3 i0 (.int .i64 0) 1 8 Tryd.underlying46 hi hz0 hz1 hzb rfl (by decide) (.slice (some ⟨g, 0, none⟩) k cap) k (l64 (List.take k l)) (by rfl) (hrow.alloc (.cells #[.int .i64 NW] 3)) ⟨wr.heap.size, 0, none⟩ 1 1 [.int .i64 NW] (by rfl) (by rfl) (cell_one_new _ _ _) (by simp [Value.oneCell']) (by omega) (by unfold maxLen; omega) (by omega) (by simp; omega) _ rfl ?_; intro gg cap1 w1 hown1 hgrow hat hlt1)) | (go_simp; go_at_call 37; refine (C37.out _).mono ?_; rintro e w' ⟨rfl, rfl⟩))
          all_goals
            have hb1 : Below w.heap.size w w1 := ((below_drewN hbr _).alloc hz2 _).grown hgrow (by simp; omega) (fun q hq => (hrow.lt q hq).1)
            have HO : Hid (w1.ownsRow w.heap.size 3 1 (.slice (some ⟨gg, 0, none⟩) (k + 1) cap1) (k + 1) (l64 ((pSp WD (n + 1)).take (k + 1)))) := by
              show w1.ownsRow _ _ _ _ _ _
              have e : pSp WD (n + 1) = l.set k (pNew l k) := by
                show (pSp WD n).set (16 + n) (pNew (pSp WD n) (16 + n)) = _
                rw [← HL.out, ← HK.out]
              rw [e, HNW.out]
              have e2 : (l.set k NW).take (k + 1) = l.take k ++ [NW] := by
                rw [List.take_succ_eq_append_getElem (by simp; omega)]
                simp [List.take_set_of_le]
              rw [e2]
              simpa [l64] using hown1
            clear hown1 hgrow hrow hat hlt1
            go_wp2
            go_roundw
            case rel => exact ⟨n + 1, k + 1, gg, cap1, by have := HK.out; omega, by have := HK.out; omega, by go_num, rfl, HO.out, hb1⟩
            case measure => simp [intOf]; omega
        · have hn48 : n = 48 := by have := HK.out; omega
          have HK6 : Hid (k = 64) := by show k = 64; omega
          have HO : Hid (wr.ownsRow w.heap.size 3 1 (.slice (some ⟨g, 0, none⟩) 64 cap) 64 (l64 (pSp (pWords c 16) 48))) := by
            show wr.ownsRow _ _ _ _ _ _
            rw [HWD.out, ← hn48, ← HL.out]
            rw [HK6.out] at hrow
            rw [List.take_of_length_le (by omega)] at hrow
            exact hrow
          clear hrow hl hlw hcell hkn hn48
          go_wp2
          refine bodyPost_ret (results_tmp (t := 2) rfl _ _ _) rfl ⟨g, cap, ?_, HO.out, hbr⟩
          show Ending.returned (.slice (some ⟨g, 0, none⟩) k cap) = _
          rw [HK6.out]
end Go.Proofs.YtfgjlfdiljlfnaaDoor
