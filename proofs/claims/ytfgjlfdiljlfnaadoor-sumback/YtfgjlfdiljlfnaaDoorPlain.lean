/-
  The plain functions: signs, the first wrong one, the bytes that signs tell. No walk here.
-/
import Derived.WalkKit
import Derived.WalkSpells
namespace Go.Proofs.YtfgjlfdiljlfnaaDoor
open Go.RowKit

/-- which number a sign has; -1: it is none. -/
def sg (c : Int) : Int := if 48 ≤ c ∧ c ≤ 57 then c - 48 else if 97 ≤ c ∧ c ≤ 102 then c - 87 else -1
theorem sg_lo (c : Int) : -1 ≤ sg c := by unfold sg; split; omega; split; omega; omega
theorem sg_hi (c : Int) : sg c ≤ 15 := by unfold sg; split; omega; split; omega; omega
theorem sg_nonneg (c : Int) : 0 ≤ sg c ↔ (48 ≤ c ∧ c ≤ 57) ∨ (97 ≤ c ∧ c ≤ 102) := by unfold sg; split; omega; split; omega; omega
theorem sg_dig (c : Int) (h0 : 0 ≤ sg c) (h : c ≤ 57) : sg c = c - 48 := by rw [sg_nonneg] at h0; unfold sg; rw [if_pos (by omega)]
theorem sg_let (c : Int) (h0 : 0 ≤ sg c) (h : 57 < c) : sg c = c - 87 := by rw [sg_nonneg] at h0; unfold sg; rw [if_neg (by omega), if_pos (by omega)]
theorem sg_97 (c : Int) (h0 : 0 ≤ sg c) (h : 57 < c) : 97 ≤ c := by rw [sg_nonneg] at h0; omega
theorem sg_up (c : Int) (h0 : 0 ≤ sg c) : 48 ≤ c ∧ c ≤ 102 := by rw [sg_nonneg] at h0; omega
/-- whether a byte is a sign. -/
def okS (b : UInt8) : Bool := decide (0 ≤ sg b.toNat)
theorem okS_iff (b : UInt8) : okS b = true ↔ 0 ≤ sg b.toNat := by simp [okS]
/-- where the first wrong sign stands; the length: there is none. -/
def fw (l : List UInt8) : Nat := l.findIdx (fun b => !okS b)
theorem fw_le (l : List UInt8) : fw l ≤ l.length := List.findIdx_le_length
theorem fw_at (l : List UInt8) (k : Nat) (hk : k < l.length) (hp : ∀ j, (hj : j < k) → okS (l[j]'(by omega)) = true) (hb : okS l[k] = false) : fw l = k := by
  unfold fw
  rw [List.findIdx_eq hk]
  exact ⟨by simp [hb], fun j hj => by simpa using hp j hj⟩
theorem fw_all (l : List UInt8) (hp : ∀ j, (hj : j < l.length) → okS l[j] = true) : fw l = l.length := by
  unfold fw
  rw [List.findIdx_eq_length]
  intro x hx
  obtain ⟨j, hj, rfl⟩ := List.getElem_of_mem hx
  simpa using hp j hj
theorem okS_of_fw (l : List UInt8) (h : ¬ fw l < l.length) (j : Nat) (hj : j < l.length) : okS l[j] = true := by
  have hf : fw l = l.length := by have := fw_le l; omega
  have := List.not_of_lt_findIdx (p := fun b => !okS b) (xs := l) (i := j) (by unfold fw at hf; omega)
  simpa using this

theorem okS_below (l : List UInt8) (j : Nat) (hj : j < fw l) (hz : j < l.length) : okS l[j] = true := by
  have := List.not_of_lt_findIdx (p := fun b => !okS b) (xs := l) (i := j) hj
  simpa using this
theorem okS_fw (l : List UInt8) (h : fw l < l.length) : okS l[fw l] = false := by
  have := List.findIdx_getElem (p := fun b => !okS b) (xs := l) (w := h)
  exact Bool.not_eq_true' (okS l[fw l]) ▸ this

/-- the byte that two signs tell. -/
def two (a b : UInt8) : UInt8 := UInt8.ofNat ((sg a.toNat).toNat * 16 + (sg b.toNat).toNat)
/-- the bytes that signs tell. -/
def dec : List UInt8 → List UInt8
  | a :: b :: r => two a b :: dec r
  | _ => []
theorem dec_snoc : ∀ (k : Nat) (l : List UInt8) (a b : UInt8), l.length = 2 * k → dec (l ++ [a, b]) = dec l ++ [two a b]
  | 0, [], a, b, _ => rfl
  | k + 1, x :: y :: r, a, b, h => by
    have := dec_snoc k r a b (by simp at h; omega)
    simp [dec, this]
  | 0, _ :: _, _, _, h => by simp at h
  | _ + 1, [], _, _, h => by simp at h
  | _ + 1, [_], _, _, h => by simp at h; omega
theorem dec_length : ∀ (k : Nat) (l : List UInt8), l.length = 2 * k → (dec l).length = k
  | 0, [], _ => rfl
  | k + 1, x :: y :: r, h => by
    have := dec_length k r (by simp at h; omega)
    simp [dec, this]
  | 0, _ :: _, h => by simp at h
  | _ + 1, [], h => by simp at h
  | _ + 1, [_], h => by simp at h; omega
theorem take_two (l : List UInt8) (k : Nat) (h : k + 1 < l.length) : l.take (k + 2) = l.take k ++ [l[k], l[k + 1]] := by
  rw [List.take_succ_eq_append_getElem (i := k + 1) (by omega), List.take_succ_eq_append_getElem (i := k) (by omega), List.append_assoc]
  rfl
theorem dec_take (l : List UInt8) (k : Nat) (h : 2 * k + 1 < l.length) : dec (l.take (2 * k + 2)) = dec (l.take (2 * k)) ++ [two l[2 * k] l[2 * k + 1]] := by
  rw [take_two l (2 * k) h]
  exact dec_snoc k _ _ _ (by simp; omega)
theorem dec_even (l : List UInt8) (j : Nat) (hj : j % 2 = 0) (h : j + 1 < l.length) : dec (l.take (j + 2)) = dec (l.take j) ++ [two l[j] l[j + 1]] := by
  rw [take_two l j h]
  exact dec_snoc (j / 2) _ _ _ (by simp; omega)
theorem two_toNat (a b : UInt8) (ha : okS a = true) (hb : okS b = true) : ((two a b).toNat : Int) = sg a.toNat * 16 + sg b.toNat := by
  rw [okS_iff] at ha hb
  have h1 := sg_hi a.toNat
  have h2 := sg_hi b.toNat
  unfold two
  have e : UInt8.size = 256 := rfl
  rw [UInt8.toNat_ofNat_of_lt' (by rw [e]; omega)]
  omega

theorem two_of (a b : UInt8) (ha : 0 ≤ sg a.toNat) (hb : 0 ≤ sg b.toNat) : UInt8.ofNat (sg a.toNat * 16 + sg b.toNat).toNat = two a b := by
  unfold two
  congr 1
  omega
/-- what Bytes answers: bytes, an error's number, a place. -/
def bOut (l : List UInt8) : List UInt8 := if fw l < l.length then [] else if l.length % 2 = 1 then [] else dec l
def bErr (l : List UInt8) : Int := if fw l < l.length then 2 else if l.length % 2 = 1 then 2 else 0
def bAt (l : List UInt8) : Int := if fw l < l.length then fw l else if l.length % 2 = 1 then l.length else 0

def pre : List UInt8 := [115, 104, 97, 50, 53, 54, 58]
/-- whether a text is a digest. -/
def isDig (l : List UInt8) : Bool := decide (l.length = 71) && (l.take 7 == pre) && (decide (fw (l.drop 7) = (l.drop 7).length))
theorem ex7 (s : ByteArray) : (s.extract 0 7).toList = s.data.toList.take 7 := by
  rw [ByteArray.toList_eq, ByteArray.data_extract]
  simp
theorem dig_lead (l : List UInt8) (hl : l.length = 71) (h7 : l.take 7 = pre) : isDig l = decide (fw (l.drop 7) = (l.drop 7).length) := by
  unfold isDig; rw [hl, h7]; rfl
theorem fw_drop_no (l : List UInt8) (k : Nat) (h7 : 7 ≤ k) (hk : k < l.length) (hp : ∀ j, (hj : j < k) → 7 ≤ j → (hz : j < l.length) → okS l[j] = true) (hb : okS l[k] = false) : decide (fw (l.drop 7) = (l.drop 7).length) = false := by
  rw [fw_at (l.drop 7) (k - 7) (by simp; omega) (fun j hj => by rw [List.getElem_drop]; exact hp (7 + j) (by omega) (by omega) _) (by
    rw [List.getElem_drop]
    rw [← hb]
    congr 1
    congr 1
    omega)]
  simp
  omega
theorem fw_drop_yes (l : List UInt8) (hp : ∀ j, 7 ≤ j → (hz : j < l.length) → okS l[j] = true) : decide (fw (l.drop 7) = (l.drop 7).length) = true := by
  rw [fw_all (l.drop 7) (fun j hj => by rw [List.getElem_drop]; exact hp (7 + j) (by omega) _)]
  simp
theorem dig_not (l : List UInt8) (h7 : ¬ l.take 7 = pre) : isDig l = false := by
  unfold isDig
  rw [show (l.take 7 == pre) = false from by simpa using h7]
  simp
end Go.Proofs.YtfgjlfdiljlfnaaDoor
