import Derived.Test.YtjbkjeabobccaabGreatDoorNumPrints3
import Derived.Test.YtjbkjeabobccaabGreatDoorNumBig15
namespace Go.Proofs.YtjbkjeabobccaabGreatDoor
open Go.RowKit Go.Sort Go.Lib
set_option linter.unusedVariables false

theorem rd_some : ∀ (l : List UInt8) (n v : Int), rd l n = some v → v = val l n
  | [], n, v, h => by simpa [rd, val] using h.symm
  | c :: l, n, v, h => by
    rw [rd] at h
    split at h
    · cases h
    · exact rd_some l _ v h
/-- What a row of digits tells, held against the greatest number. -/
theorem rdR_val (l : List UInt8) (h : l.all isDig = true) : rdR l = if val l 0 ≤ 9223372036854775807 then (val l 0, true) else ((rdR l).1, false) := by
  by_cases hv : val l 0 ≤ 9223372036854775807
  · rw [if_pos hv]
    unfold rdR
    rw [rd_val l 0 h (by omega) hv]
    simp [hv]
  · rw [if_neg hv]
    unfold rdR
    split
    · rfl
    · rename_i n hn
      have := rd_some l 0 n hn
      subst this
      simp [hv]
theorem isDig_ne {c : UInt8} (h : isDig c = true) : c ≠ 46 ∧ c ≠ 45 := by
  constructor <;> (rintro rfl; revert h; decide)
theorem digB_of {l : List UInt8} (h : l.all isDig = true) (hn : l ≠ []) : isDigB l = true := by simp [isDigB, h, hn]
theorem digB_mem {l : List UInt8} {c : UInt8} (hm : c ∈ l) (hc : isDig c = false) : isDigB l = false := by
  have : l.all isDig = false := by
    rw [Bool.eq_false_iff]
    intro ha
    have := List.all_eq_true.1 ha _ hm
    rw [hc] at this; cases this
  simp [isDigB, this]
/-- The part ahead of the first point. -/
theorem cut_first (l : List UInt8) : (Lib.cut l [46]).1 = l.takeWhile (· != 46) := by
  unfold Lib.cut
  have key : ∀ l : List UInt8, (Lib.index l [46] = -1 ∧ l.takeWhile (· != 46) = l) ∨ (0 ≤ Lib.index l [46] ∧ l.take (Lib.index l [46]).toNat = l.takeWhile (· != 46)) := by
    intro l
    induction l with
    | nil => left; simp [Lib.index]
    | cons c l ih =>
      by_cases hc : c = 46
      · subst hc; right; simp [Lib.index, List.isPrefixOf]
      · have hc' : (46 == c) = false := by simp only [beq_eq_false_iff_ne]; exact fun h => hc h.symm
        have hn : (c != 46) = true := by simpa using hc
        rcases ih with ⟨h1, h2⟩ | ⟨h1, h2⟩
        · left; simp [Lib.index, List.isPrefixOf, hc', h1, hn, h2]
        · right
          rw [Lib.index]
          simp only [List.isPrefixOf, hc', Bool.false_and, Bool.false_eq_true, if_false]
          rw [if_neg (by simp; omega)]
          refine ⟨by omega, ?_⟩
          rw [show (Lib.index l [46] + 1).toNat = (Lib.index l [46]).toNat + 1 by omega, List.take_succ_cons, h2]
          simp [hn]
  rcases key l with ⟨h1, h2⟩ | ⟨h1, h2⟩
  · rw [if_neg (by omega)]; exact h2.symm
  · rw [if_pos h1]; exact h2

/-- How a text begins. -/
structure Signed (l pre T : List UInt8) (neg : Bool) : Prop where
  eq : l = pre ++ T
  yes : neg = true → pre = [45]
  no : neg = false → pre = [] ∧ l.head? ≠ some 45
theorem Signed.parts {l pre T : List UInt8} {neg : Bool} (h : Signed l pre T neg) : Lib.hasPrefix l [45] = neg ∧ Lib.trimPrefix l [45] = T := by
  cases neg
  · obtain ⟨h1, h2⟩ := h.no rfl
    have e := h.eq
    rw [h1, List.nil_append] at e
    subst e
    cases l with
    | nil => simp [Lib.hasPrefix, Lib.trimPrefix, List.isPrefixOf]
    | cons c l =>
      have hc : (45 == c) = false := by simp only [beq_eq_false_iff_ne]; intro e; exact h2 (by simp [← e])
      simp [Lib.hasPrefix, Lib.trimPrefix, List.isPrefixOf, hc]
  · have e := h.eq
    rw [h.yes rfl] at e
    subst e
    exact pre_neg T
def Ends (r : List UInt8) : Prop := r = [] ∨ ∃ c t, r = c :: t ∧ isDig c = false
theorem tw_digits {D r : List UInt8} (hD : D.all isDig = true) (c : UInt8) (t : List UInt8) (hr : r = c :: t) (hc : c ≠ 46) : (D ++ r).takeWhile (· != 46) = D ++ c :: t.takeWhile (· != 46) := by
  have hall : ∀ a ∈ D, (a != 46) = true := fun a ha => by
    have := (isDig_ne (List.all_eq_true.1 hD a ha)).1
    simpa using this
  rw [List.takeWhile_append_of_pos hall, hr]
  simp [hc]
/-- No number: it does not begin with a digit. -/
theorem parse_no1 {l pre T : List UInt8} {neg : Bool} (h : Signed l pre T neg) (hr : Ends T) : parseR l = (0, false) := by
  obtain ⟨h1, h2⟩ := h.parts
  unfold parseR
  simp only [h2]
  rw [if_pos]
  rw [cut_first]
  rcases hr with rfl | ⟨c, t, rfl, hc⟩
  · rfl
  · by_cases h46 : c = 46
    · subst h46; simp [isDigB]
    · exact digB_mem (c := c) (by simp [h46]) hc
/-- No number: something else stands behind the digits. -/
theorem parse_no2 {l pre D t : List UInt8} {c : UInt8} {neg : Bool} (h : Signed l pre (D ++ c :: t) neg) (hD : D.all isDig = true) (hc : isDig c = false) (h46 : c ≠ 46) : parseR l = (0, false) := by
  obtain ⟨h1, h2⟩ := h.parts
  unfold parseR
  simp only [h2]
  rw [if_pos]
  rw [cut_first, tw_digits hD c t rfl h46]
  exact digB_mem (c := c) (by simp) hc
/-- No number: the fraction is none, or too long, or goes on with something else. -/
theorem parse_no3 {l pre D E : List UInt8} {neg : Bool} (h : Signed l pre (D ++ 46 :: E) neg) (hD : D.all isDig = true) (hE : isDigB E = false ∨ 6 < E.length) : parseR l = (0, false) := by
  obtain ⟨h1, h2⟩ := h.parts
  unfold parseR
  simp only [h2, cut_hit D E hD]
  split
  · rfl
  · rw [if_pos ⟨trivial, hE⟩]
/-- A number: its digits, its fraction's, and noughts. -/
theorem parse_yes {l pre T D E : List UInt8} {neg : Bool} (h : Signed l pre T neg) (hD : D.all isDig = true) (hD0 : D ≠ []) (hE : E.all isDig = true) (hE6 : E.length ≤ 6)
    (hT : (T = D ∧ E = []) ∨ (T = D ++ 46 :: E ∧ E ≠ [])) :
    parseR l = if val (D ++ E ++ List.replicate (6 - E.length) 48) 0 ≤ 9223372036854775807 then (if neg then -(val (D ++ E ++ List.replicate (6 - E.length) 48) 0) else val (D ++ E ++ List.replicate (6 - E.length) 48) 0, true) else (0, false) := by
  obtain ⟨h1, h2⟩ := h.parts
  have hall : (D ++ E ++ List.replicate (6 - E.length) 48).all isDig = true := by
    rw [List.all_append, List.all_append, hD, hE]
    simp [List.all_replicate]
    right; decide
  have hR := rdR_val _ hall
  have hcut : (Lib.cut T [46]).1 = D ∧ (Lib.cut T [46]).2.1 = E ∧ ((Lib.cut T [46]).2.2 = true → E ≠ []) := by
    rcases hT with ⟨rfl, rfl⟩ | ⟨rfl, hn⟩
    · rw [cut_miss T hD]; simp
    · rw [cut_hit D E hD]; exact ⟨rfl, rfl, fun _ => hn⟩
  obtain ⟨c1, c2, c3⟩ := hcut
  unfold parseR
  simp only [h1, h2, c1, c2]
  rw [if_neg (by rw [digB_of hD hD0]; simp)]
  rw [if_neg (by rintro ⟨a1, a2 | a2⟩; rw [digB_of hE (c3 a1)] at a2; cases a2; omega)]
  by_cases hv : val (D ++ E ++ List.replicate (6 - E.length) 48) 0 ≤ 9223372036854775807
  · rw [if_pos hv] at hR
    rw [hR, if_neg (by simp), if_pos hv]
  · rw [if_neg hv] at hR
    rw [if_pos (by rw [hR]), if_neg hv]

/-! How great a row of digits can be. -/
theorem val_bd : ∀ (l : List UInt8) (n : Int), l.all isDig = true → 0 ≤ n → 0 ≤ val l n ∧ val l n < (n + 1) * 10 ^ l.length
  | [], n, _, h => by simp [val]; omega
  | c :: l, n, h, h0 => by
    simp only [List.all_cons, Bool.and_eq_true] at h
    have hc : 48 ≤ (c.toNat : Int) ∧ (c.toNat : Int) ≤ 57 := by have := h.1; simp [isDig] at this; omega
    obtain ⟨i1, i2⟩ := val_bd l (n * 10 + ((c.toNat : Int) - 48)) h.2 (by omega)
    refine ⟨i1, Int.lt_of_lt_of_le i2 ?_⟩
    rw [List.length_cons, Int.pow_succ, Int.mul_comm (10 ^ l.length) 10, ← Int.mul_assoc]
    exact Int.mul_le_mul_of_nonneg_right (by omega) (Int.le_of_lt (Int.pow_pos (by omega)))
theorem val_len (l : List UInt8) (h : l.all isDig = true) : (repr (val l 0).toNat).length ≤ l.length := by
  obtain ⟨h0, h1⟩ := val_bd l 0 h (by omega)
  apply repr_len_le
  have h2 : (val l 0).toNat < 10 ^ l.length := by
    have e : ((10 ^ l.length : Nat) : Int) = (10 : Int) ^ l.length := by simp
    omega
  exact Nat.lt_of_lt_of_le h2 (Nat.pow_le_pow_left (by omega) _)
theorem val_snoc (l : List UInt8) (c : UInt8) (n : Int) : val (l ++ [c]) n = val l n * 10 + ((c.toNat : Int) - 48) := by rw [val_append]; rfl
end Go.Proofs.YtjbkjeabobccaabGreatDoor
