import Derived.Test.YtjbkjeabobccaabGreatDoorNumAlive
namespace Go.Proofs.YtjbkjeabobccaabGreatDoor
open Go.RowKit Go.Lib
set_option linter.unusedVariables false

/-- The k digits of a number, the highest first. -/
def digs : Nat → Nat → List UInt8
  | 0, _ => []
  | k + 1, g => digs k (g / 10) ++ [UInt8.ofNat (48 + g % 10)]
theorem dec_digs : ∀ (k g : Nat), g < 10 ^ k → Lib.decDigits (10 ^ k + g) = 49 :: digs k g
  | 0, g, h => by
    have : g = 0 := by simpa using h
    subst this
    rw [Lib.decDigits]
    rfl
  | k + 1, g, h => by
    have hp : 0 < 10 ^ k := Nat.pow_pos (by omega)
    have e : 10 ^ (k + 1) = 10 * 10 ^ k := by rw [Nat.pow_succ]; omega
    rw [Lib.decDigits, dif_neg (by omega)]
    rw [show (10 ^ (k + 1) + g) / 10 = 10 ^ k + g / 10 by omega, show (10 ^ (k + 1) + g) % 10 = g % 10 by omega, dec_digs k (g / 10) (by omega)]
    rfl
theorem digs_head : ∀ (k g : Nat), g < 10 ^ (k + 1) → digs (k + 1) g = UInt8.ofNat (48 + g / 10 ^ k) :: digs k (g % 10 ^ k)
  | 0, g, h => by
    have : g < 10 := by simpa using h
    simp [digs, Nat.mod_eq_of_lt this]
  | k + 1, g, h => by
    have e : 10 ^ (k + 1) = 10 * 10 ^ k := by rw [Nat.pow_succ]; omega
    have e2 : 10 ^ (k + 1 + 1) = 10 * 10 ^ (k + 1) := by rw [Nat.pow_succ]; omega
    have ih := digs_head k (g / 10) (by omega)
    have d1 : g / 10 / 10 ^ k = g / 10 ^ (k + 1) := by rw [Nat.div_div_eq_div_mul, e]
    have d2 : g / 10 % 10 ^ k = g % 10 ^ (k + 1) / 10 := by
      rw [e, Nat.mod_mul_right_div_self]
    have d3 : g % 10 ^ (k + 1) % 10 = g % 10 := by rw [e, Nat.mod_mul_right_mod]
    rw [digs, ih, d1, d2]
    show _ = _ :: (digs k (g % 10 ^ (k + 1) / 10) ++ [UInt8.ofNat (48 + g % 10 ^ (k + 1) % 10)])
    rw [d3]
    rfl

theorem trim_cons (d : UInt8) (l : List UInt8) : Lib.trimRightB (d :: l) 48 = if Lib.trimRightB l 48 = [] ∧ d = 48 then [] else d :: Lib.trimRightB l 48 := by
  unfold Lib.trimRightB
  rw [List.reverse_cons, List.dropWhile_append]
  by_cases h : (List.dropWhile (· == 48) l.reverse) = []
  · simp only [h, List.isEmpty_nil, if_true, List.reverse_nil, true_and]
    by_cases hd : d = 48
    · simp [hd]
    · simp [hd]
  · have : (List.dropWhile (· == 48) l.reverse).isEmpty = false := by simpa using h
    simp [this, h]

/-- A fraction's digits, as long as something is left. -/
def emit : Nat → Nat → List UInt8
  | 0, _ => []
  | k + 1, f => if f = 0 then [] else UInt8.ofNat (48 + f / 100000) :: emit k (f % 100000 * 10)

theorem ofNat_48 (d : Nat) (h : d < 10) : UInt8.ofNat (48 + d) = 48 ↔ d = 0 := by
  have e : (UInt8.ofNat (48 + d)).toNat = 48 + d := by simp; omega
  constructor
  · intro hh
    rw [hh] at e
    have : (48 : UInt8).toNat = 48 := rfl
    omega
  · rintro rfl; rfl
theorem trim_zero : ∀ (k g : Nat), g < 10 ^ k → (Lib.trimRightB (digs k g) 48 = [] ↔ g = 0)
  | 0, g, h => by
    have : g = 0 := by simpa using h
    simp [this, digs, Lib.trimRightB]
  | k + 1, g, h => by
    have e : 10 ^ (k + 1) = 10 * 10 ^ k := by rw [Nat.pow_succ]; omega
    have hp : 0 < 10 ^ k := Nat.pow_pos (by omega)
    have hq : g / 10 ^ k < 10 := by rw [Nat.div_lt_iff_lt_mul hp]; omega
    have ih := trim_zero k (g % 10 ^ k) (Nat.mod_lt _ hp)
    rw [digs_head k g h, trim_cons]
    have dm := Nat.div_add_mod g (10 ^ k)
    have hb := ofNat_48 _ hq
    constructor
    · intro hh
      split at hh
      · rename_i hc
        rw [ih.1 hc.1, hb.1 hc.2] at dm
        simpa using dm.symm
      · cases hh
    · rintro rfl
      rw [if_pos ⟨ih.2 (by simp), hb.2 (by simp)⟩]

theorem emit_eq : ∀ (k m g : Nat), 10 ^ k * m = 1000000 → g < 10 ^ k → emit k (g * m) = Lib.trimRightB (digs k g) 48
  | 0, m, g, _, h => by
    simp [emit, digs, Lib.trimRightB]
  | k + 1, m, g, hm, h => by
    have e : 10 ^ (k + 1) = 10 * 10 ^ k := by rw [Nat.pow_succ]; omega
    have hp : 0 < 10 ^ k := Nat.pow_pos (by omega)
    have hm1 : 10 ^ k * m = 100000 := by rw [e, Nat.mul_assoc] at hm; omega
    have hm0 : 0 < m := by rcases Nat.eq_zero_or_pos m with h0 | h0; subst h0; omega; exact h0
    rw [digs_head k g h, trim_cons, emit]
    have hq : g / 10 ^ k < 10 := by rw [Nat.div_lt_iff_lt_mul hp]; omega
    have dm := Nat.div_add_mod g (10 ^ k)
    have hlt := Nat.mod_lt g hp
    have t0 := trim_zero k (g % 10 ^ k) hlt
    have d1 : g * m / 100000 = g / 10 ^ k := by rw [← hm1, Nat.mul_div_mul_right _ _ hm0]
    have d2 : g * m % 100000 = g % 10 ^ k * m := by rw [← hm1, Nat.mul_mod_mul_right]
    have ih := emit_eq k (m * 10) (g % 10 ^ k) (by rw [← Nat.mul_assoc, hm1]) hlt
    rw [d1, d2, Nat.mul_assoc, ih]
    have hb := ofNat_48 _ hq
    by_cases h0 : g = 0
    · subst h0
      rw [if_pos (by simp), if_pos ⟨t0.2 (by simp), hb.2 (by simp)⟩]
    · have hgm : g * m ≠ 0 := Nat.mul_ne_zero h0 (by omega)
      rw [if_neg hgm, if_neg]
      rintro ⟨h1, h2⟩
      rw [t0] at h1
      rw [hb] at h2
      rw [h1, h2] at dm
      simp at dm
      omega

/-- A number's fraction, as the document's own printer writes it. -/
theorem frac_emit (a : Nat) : fracL a = emit 6 (a % 1000000) := by
  have := emit_eq 6 1 (a % 1000000) (by decide) (Nat.mod_lt _ (by decide))
  rw [Nat.mul_one] at this
  rw [this]
  unfold fracL
  rw [show (1000000 : Nat) + a % 1000000 = 10 ^ 6 + a % 1000000 by rfl, dec_digs 6 _ (Nat.mod_lt _ (by decide))]
  rfl
theorem frac_empty (a : Nat) : (fracL a).isEmpty = decide (a % 1000000 = 0) := by
  rw [frac_emit, emit]
  by_cases h : a % 1000000 = 0 <;> simp [h]

/-! Read again it is the number. -/
def val : List UInt8 → Int → Int
  | [], n => n
  | c :: l, n => val l (n * 10 + ((c.toNat : Int) - 48))
theorem val_append : ∀ (l m : List UInt8) (n : Int), val (l ++ m) n = val m (val l n)
  | [], _, _ => rfl
  | _ :: l, m, _ => val_append l m _
theorem val_mono : ∀ (l : List UInt8) (n : Int), l.all isDig = true → 0 ≤ n → n ≤ val l n
  | [], _, _, _ => Int.le_refl _
  | c :: l, n, h, h0 => by
    simp only [List.all_cons, Bool.and_eq_true] at h
    have hc : 48 ≤ (c.toNat : Int) := by have := h.1; simp [isDig] at this; omega
    have := val_mono l (n * 10 + ((c.toNat : Int) - 48)) h.2 (by omega)
    show n ≤ val l _
    omega
theorem rd_val : ∀ (l : List UInt8) (n : Int), l.all isDig = true → 0 ≤ n → val l n ≤ 9223372036854775807 → rd l n = some (val l n)
  | [], _, _, _, _ => rfl
  | c :: l, n, h, h0, hv => by
    simp only [List.all_cons, Bool.and_eq_true] at h
    have hc : 48 ≤ (c.toNat : Int) := by have := h.1; simp [isDig] at this; omega
    have hm := val_mono l (n * 10 + ((c.toNat : Int) - 48)) h.2 (by omega)
    change val l _ ≤ _ at hv
    rw [rd, if_neg (by omega), rd_val l _ h.2 (by omega) hv]
    rfl
theorem dig_of (d : Nat) (h : d < 10) : isDig (UInt8.ofNat (48 + d)) = true ∧ (((UInt8.ofNat (48 + d)).toNat : Nat) : Int) - 48 = d := by
  have : (UInt8.ofNat (48 + d)).toNat = 48 + d := by simp; omega
  constructor
  · unfold isDig; rw [this]; simp; omega
  · rw [this]; omega
theorem digs_val : ∀ (k g : Nat) (n : Int), g < 10 ^ k → (digs k g).all isDig = true ∧ val (digs k g) n = n * 10 ^ k + g
  | 0, g, n, h => by
    have : g = 0 := by simpa using h
    subst this
    simp [digs, val]
  | k + 1, g, n, h => by
    have e : 10 ^ (k + 1) = 10 * 10 ^ k := by rw [Nat.pow_succ]; omega
    obtain ⟨h1, h2⟩ := digs_val k (g / 10) n (by omega)
    obtain ⟨g1, g2⟩ := dig_of (g % 10) (by omega)
    refine ⟨by rw [digs, List.all_append, h1, List.all_cons, g1]; rfl, ?_⟩
    rw [digs, val_append, h2]
    show (n * 10 ^ k + (g / 10 : Nat)) * 10 + _ = _
    rw [g2, Int.pow_succ, Int.add_mul, Int.mul_assoc]
    omega
theorem dec_val (u : Nat) : (Lib.decDigits u).all isDig = true ∧ ∀ n : Int, val (Lib.decDigits u) 0 = u := by
  induction u using Nat.strongRecOn with
  | ind u ih =>
  rw [Lib.decDigits]
  by_cases h : u < 10
  · rw [dif_pos h]
    obtain ⟨g1, g2⟩ := dig_of u h
    exact ⟨by rw [List.all_cons, g1]; rfl, fun _ => by show (0 : Int) * 10 + _ = _; rw [g2]; omega⟩
  · rw [dif_neg h]
    obtain ⟨h1, h2⟩ := ih (u / 10) (by omega)
    obtain ⟨g1, g2⟩ := dig_of (u % 10) (by omega)
    exact ⟨by rw [List.all_append, h1, List.all_cons, g1]; rfl, fun n => by rw [val_append, h2 n]; show ((u / 10 : Nat) : Int) * 10 + _ = _; rw [g2]; omega⟩
theorem trim_back : ∀ (l : List UInt8), Lib.trimRightB l 48 ++ List.replicate (l.length - (Lib.trimRightB l 48).length) 48 = l
  | [] => rfl
  | d :: l => by
    have ih := trim_back l
    have hle := trimRightB_le l 48
    rw [trim_cons]
    by_cases h : Lib.trimRightB l 48 = [] ∧ d = 48
    · rw [if_pos h]
      rw [h.1] at ih
      simp at ih
      simp [h.2, List.replicate_succ, ih]
    · rw [if_neg h]
      simp only [List.length_cons, List.cons_append]
      rw [show l.length + 1 - ((Lib.trimRightB l 48).length + 1) = l.length - (Lib.trimRightB l 48).length by omega, ih]
end Go.Proofs.YtjbkjeabobccaabGreatDoor
