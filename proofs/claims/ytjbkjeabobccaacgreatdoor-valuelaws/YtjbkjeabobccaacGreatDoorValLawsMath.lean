import Derived.Test.YtjbkjeabobccaacGreatDoorValOper
namespace Go.Proofs.YtjbkjeabobccaacGreatDoor
open Go.RowKit Go.Sort Go.Lib
set_option linter.unusedVariables false

/-! Comparisons are an order (B5). -/
theorem cmpI_anti (x y : Int) : Lib.compareInt x y = -Lib.compareInt y x := by
  unfold Lib.compareInt
  by_cases h1 : x < y
  · rw [if_pos h1, if_neg (by omega), if_pos h1]
  · by_cases h2 : x > y
    · rw [if_neg h1, if_pos h2, if_pos (by omega)]; rfl
    · rw [if_neg h1, if_neg h2, if_neg (by omega), if_neg (by omega)]; rfl
theorem cmpB_anti : ∀ (l m : List UInt8), Lib.compareBytes l m = -Lib.compareBytes m l
  | [], [] => by simp [Lib.compareBytes]
  | [], _ :: _ => by simp [Lib.compareBytes]
  | _ :: _, [] => by simp [Lib.compareBytes]
  | a :: l, b :: m => by
    rcases Nat.lt_trichotomy a.toNat b.toNat with h | h | h
    · have h' : a < b := UInt8.lt_iff_toNat_lt.2 h
      rw [cmp_lt h', cmp_gt h']
    · have e : a = b := UInt8.toNat_inj.1 h
      subst e
      rw [cmp_same, cmp_same]
      exact cmpB_anti l m
    · have h' : b < a := UInt8.lt_iff_toNat_lt.2 h
      rw [cmp_gt h', cmp_lt h']; rfl
theorem ord_anti (k1 n1 : Int) (t1 : ByteArray) (k2 n2 : Int) (t2 : ByteArray) : ordI k1 n1 t1 k2 n2 t2 = -ordI k2 n2 t2 k1 n1 t1 := by
  have hT : ordT t1 t2 = -ordT t2 t1 := cmpB_anti _ _
  have hN := cmpI_anti n1 n2
  have hK := cmpI_anti k1 k2
  by_cases a4 : k1 = 4
  · simp [ordI, a4]
  by_cases b4 : k2 = 4
  · simp [ordI, b4]
  by_cases a0 : k1 = 0
  · subst a0
    by_cases b0 : k2 = 0
    · subst b0; simpa [ordI] using hN
    · by_cases b2 : k2 = 2
      · subst b2; simpa [ordI] using hT
      · simpa [ordI, b4, b0, b2] using hN
  by_cases b0 : k2 = 0
  · subst b0
    by_cases a2 : k1 = 2
    · subst a2; simpa [ordI] using hT
    · simpa [ordI, a4, a0, a2] using hN
  by_cases c : k1 = k2
  · subst c
    by_cases a2 : k1 = 2
    · subst a2; simpa [ordI] using hT
    · simpa [ordI, a4, a0, a2] using hN
  · have c' : ¬ k2 = k1 := fun e => c e.symm
    simpa [ordI, a4, b4, a0, b0, c, c'] using hK
theorem ord_self (k n : Int) (t : ByteArray) : ordI k n t k n t = 0 := by
  have := ord_anti k n t k n t
  omega
theorem cmpI_trans (x y z : Int) (h1 : Lib.compareInt x y ≤ 0) (h2 : Lib.compareInt y z ≤ 0) : Lib.compareInt x z ≤ 0 ∧ (Lib.compareInt x z = 0 → Lib.compareInt x y = 0 ∧ Lib.compareInt y z = 0) := by
  unfold Lib.compareInt at *
  by_cases a : x < y <;> by_cases b : x > y <;> by_cases c : y < z <;> by_cases d : y > z <;> by_cases e : x < z <;> by_cases f : x > z <;> simp [a, b, c, d, e, f] at h1 h2 ⊢ <;> omega
theorem cmpB_trans : ∀ (l m p : List UInt8), Lib.compareBytes l m ≤ 0 → Lib.compareBytes m p ≤ 0 → Lib.compareBytes l p ≤ 0 ∧ (Lib.compareBytes l p = 0 → Lib.compareBytes l m = 0 ∧ Lib.compareBytes m p = 0)
  | [], [], [], _, _ => by simp [Lib.compareBytes]
  | [], [], _ :: _, _, _ => by simp [Lib.compareBytes]
  | [], _ :: _, [], _, h => by simp [Lib.compareBytes] at h
  | [], _ :: _, _ :: _, _, _ => by simp [Lib.compareBytes]
  | _ :: _, [], _, h, _ => by simp [Lib.compareBytes] at h
  | _ :: _, _ :: _, [], _, h => by simp [Lib.compareBytes] at h
  | a :: l, b :: m, c :: p, h1, h2 => by
    rcases Nat.lt_trichotomy a.toNat b.toNat with h | h | h
    · rcases Nat.lt_trichotomy b.toNat c.toNat with g | g | g
      · rw [cmp_lt (UInt8.lt_iff_toNat_lt.2 (show a.toNat < c.toNat by omega))]; simp
      · rw [cmp_lt (UInt8.lt_iff_toNat_lt.2 (show a.toNat < c.toNat by omega))]; simp
      · rw [cmp_gt (UInt8.lt_iff_toNat_lt.2 g)] at h2; omega
    · have e : a = b := UInt8.toNat_inj.1 h
      subst e
      rcases Nat.lt_trichotomy a.toNat c.toNat with g | g | g
      · rw [cmp_lt (UInt8.lt_iff_toNat_lt.2 g)]; simp
      · have e : a = c := UInt8.toNat_inj.1 g
        subst e
        rw [cmp_same] at h1 h2 ⊢
        rw [cmp_same, cmp_same]
        exact cmpB_trans l m p h1 h2
      · rw [cmp_gt (UInt8.lt_iff_toNat_lt.2 g)] at h2; omega
    · rw [cmp_gt (UInt8.lt_iff_toNat_lt.2 h)] at h1; omega
/-- Of three that are something and no errors. -/
theorem ord_trans (k1 n1 : Int) (t1 : ByteArray) (k2 n2 : Int) (t2 : ByteArray) (k3 n3 : Int) (t3 : ByteArray) (a1 : 0 < k1) (a2 : 0 < k2) (a3 : 0 < k3) (b1 : k1 ≠ 4) (b2 : k2 ≠ 4) (b3 : k3 ≠ 4)
    (h1 : ordI k1 n1 t1 k2 n2 t2 ≤ 0) (h2 : ordI k2 n2 t2 k3 n3 t3 ≤ 0) : ordI k1 n1 t1 k3 n3 t3 ≤ 0 ∧ (ordI k1 n1 t1 k3 n3 t3 = 0 → ordI k1 n1 t1 k2 n2 t2 = 0 ∧ ordI k2 n2 t2 k3 n3 t3 = 0) := by
  have red : ∀ (k n : Int) (t : ByteArray) (k' n' : Int) (t' : ByteArray), 0 < k → 0 < k' → k ≠ 4 → k' ≠ 4 → ordI k n t k' n' t' = if k ≠ k' then Lib.compareInt k k' else if k = 2 then ordT t t' else Lib.compareInt n n' := by
    intro k n t k' n' t' p q r s
    unfold ordI
    rw [if_neg (by omega), if_neg (by omega), if_neg (by omega)]
  rw [red _ _ _ _ _ _ a1 a2 b1 b2] at h1
  rw [red _ _ _ _ _ _ a2 a3 b2 b3] at h2
  rw [red _ _ _ _ _ _ a1 a2 b1 b2, red _ _ _ _ _ _ a2 a3 b2 b3, red _ _ _ _ _ _ a1 a3 b1 b3]
  have hk : ∀ x y : Int, x ≠ y → Lib.compareInt x y ≤ 0 → x < y ∧ Lib.compareInt x y = -1 := by
    intro x y hne h
    unfold Lib.compareInt at h ⊢
    by_cases c : x < y
    · exact ⟨c, by rw [if_pos c]⟩
    · rw [if_neg c, if_pos (by omega)] at h; omega
  have hlt : ∀ x y : Int, x < y → Lib.compareInt x y = -1 := by
    intro x y c
    unfold Lib.compareInt
    rw [if_pos c]
  by_cases c : k1 = k2
  · subst c
    by_cases d : k1 = k3
    · subst d
      by_cases e : k1 = 2
      · subst e
        simp only [ne_eq, not_true_eq_false, if_false, if_true] at h1 h2 ⊢
        exact cmpB_trans _ _ _ h1 h2
      · simp only [ne_eq, not_true_eq_false, if_false, e] at h1 h2 ⊢
        exact cmpI_trans _ _ _ h1 h2
    · simp only [ne_eq, d, not_false_eq_true, if_true] at h2 ⊢
      rw [(hk _ _ d h2).2]
      exact ⟨by omega, fun h => by omega⟩
  · simp only [ne_eq, c, not_false_eq_true, if_true] at h1 ⊢
    have g := hk _ _ c h1
    by_cases d : k2 = k3
    · subst d
      simp only [c, not_false_eq_true, if_true]
      rw [g.2]
      exact ⟨by omega, fun h => by omega⟩
    · simp only [ne_eq, d, not_false_eq_true, if_true] at h2 ⊢
      have g2 := hk _ _ d h2
      have hne : ¬ k1 = k3 := by omega
      simp only [hne, not_false_eq_true, if_true]
      rw [hlt k1 k3 (by omega)]
      exact ⟨by omega, fun h => by omega⟩
/-- Sums and products do not hang on the order (B6). -/
theorem calc_turn (E1 E2 R1 R2 : Int) : (calcD E1 E2 R1 R2).1 = (calcD E2 E1 R1 R2).1 ∧ ((calcD E1 E2 R1 R2).1 = 1 → (calcD E1 E2 R1 R2).2 = (calcD E2 E1 R1 R2).2) := by
  unfold calcD
  by_cases a : E1 = 0 <;> by_cases b : E2 = 0 <;> simp [a, b]
theorem addR_turn (a b : Int) : addR a b = addR b a := by
  unfold addR
  rw [Int.add_comm b a]
  by_cases h : a < -9223372036854775807 ∨ b < -9223372036854775807 ∨ 9223372036854775807 < a + b ∨ a + b < -9223372036854775807
  · rw [if_pos h, if_pos (by omega)]
  · rw [if_neg h, if_neg (by omega)]
end Go.Proofs.YtjbkjeabobccaacGreatDoor
