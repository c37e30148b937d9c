import Derived.WalkKit
namespace Go.Proofs.YtjbkjeabobccaabGreatDoor
open Go.RowKit

/-- A number's digits of base 10000, the lowest first. -/
def reprF : Nat → Nat → List Int
  | 0, _ => []
  | k + 1, x => if x = 0 then [] else ((x % 10000 : Nat) : Int) :: reprF k (x / 10000)
def repr (x : Nat) : List Int := reprF x x
theorem reprF_any : ∀ (k j x : Nat), x ≤ k → x ≤ j → reprF k x = reprF j x
  | 0, 0, _, _, _ => rfl
  | 0, j + 1, x, h, _ => by
    have : x = 0 := by omega
    simp [reprF, this]
  | k + 1, 0, x, _, h => by
    have : x = 0 := by omega
    simp [reprF, this]
  | k + 1, j + 1, x, h, h' => by
    rw [reprF, reprF]
    by_cases h0 : x = 0
    · simp [h0]
    · rw [if_neg h0, if_neg h0, reprF_any k j (x / 10000) (by omega) (by omega)]
theorem repr_zero : repr 0 = [] := rfl
theorem repr_pos {x : Nat} (h : x ≠ 0) : repr x = ((x % 10000 : Nat) : Int) :: repr (x / 10000) := by
  unfold repr
  obtain ⟨k, rfl⟩ : ∃ k, x = k + 1 := ⟨x - 1, by omega⟩
  rw [reprF, if_neg h, reprF_any k ((k + 1) / 10000) _ (by omega) (Nat.le_refl _)]
theorem repr_nil {x : Nat} : repr x = [] ↔ x = 0 := by
  constructor
  · intro h
    rcases Nat.eq_zero_or_pos x with h0 | h0
    · exact h0
    · rw [repr_pos (by omega)] at h; cases h
  · rintro rfl; rfl

/-- What a row of digits is. -/
def valD : List Int → Int
  | [] => 0
  | d :: l => d + 10000 * valD l
def okD (l : List Int) : Prop := ∀ d ∈ l, 0 ≤ d ∧ d < 10000
theorem okD_cons {d : Int} {l : List Int} : okD (d :: l) ↔ (0 ≤ d ∧ d < 10000) ∧ okD l := by simp [okD]
theorem okD_append {l m : List Int} : okD (l ++ m) ↔ okD l ∧ okD m := by
  unfold okD
  constructor
  · intro h; exact ⟨fun d hd => h d (by simp [hd]), fun d hd => h d (by simp [hd])⟩
  · rintro ⟨h1, h2⟩ d hd
    rcases List.mem_append.1 hd with h | h
    · exact h1 d h
    · exact h2 d h
theorem valD_nonneg : ∀ (l : List Int), okD l → 0 ≤ valD l
  | [], _ => Int.le_refl _
  | d :: l, h => by
    have ⟨h1, h2⟩ := okD_cons.1 h
    have := valD_nonneg l h2
    simp only [valD]; omega
theorem repr_ok (x : Nat) : okD (repr x) ∧ valD (repr x) = x := by
  induction x using Nat.strongRecOn with
  | ind x ih =>
  by_cases h : x = 0
  · subst h; exact ⟨(by intro d hd; cases hd), rfl⟩
  · rw [repr_pos h]
    obtain ⟨h1, h2⟩ := ih (x / 10000) (by omega)
    refine ⟨okD_cons.2 ⟨by omega, h1⟩, ?_⟩
    rw [valD, h2]; omega

/-- Without the noughts at the high end. -/
def trimD : List Int → List Int
  | [] => []
  | d :: l => if trimD l = [] ∧ d = 0 then [] else d :: trimD l
theorem trim_repr : ∀ (l : List Int), okD l → trimD l = repr (valD l).toNat
  | [], _ => rfl
  | d :: l, h => by
    obtain ⟨h1, h2⟩ := okD_cons.1 h
    have ih := trim_repr l h2
    have hn := valD_nonneg l h2
    rw [trimD, ih, valD]
    by_cases h0 : (valD l).toNat = 0 ∧ d = 0
    · rw [if_pos ⟨repr_nil.2 h0.1, h0.2⟩, show (d + 10000 * valD l).toNat = 0 by omega]; rfl
    · rw [if_neg (fun hh => h0 ⟨repr_nil.1 hh.1, hh.2⟩), repr_pos (x := (d + 10000 * valD l).toNat) (by omega)]
      congr 1
      · omega
      · congr 1; omega
theorem trimD_snoc_zero : ∀ (l : List Int), trimD (l ++ [0]) = trimD l
  | [] => by simp [trimD]
  | d :: l => by rw [List.cons_append, trimD, trimD_snoc_zero l, trimD]
theorem trimD_snoc : ∀ (l : List Int) (d : Int), d ≠ 0 → trimD (l ++ [d]) = l ++ [d]
  | [], d, h => by simp [trimD, h]
  | e :: l, d, h => by rw [List.cons_append, trimD, trimD_snoc l d h]; simp

theorem repr_len_le (k : Nat) : ∀ (x : Nat), x < 10000 ^ k → (repr x).length ≤ k := by
  induction k with
  | zero =>
    intro x h
    have : x = 0 := by simpa using h
    subst this
    simp [repr_zero]
  | succ k ih =>
    intro x h
    by_cases h0 : x = 0
    · subst h0; simp [repr_zero]
    · rw [repr_pos h0]
      have := ih (x / 10000) (by rw [Nat.div_lt_iff_lt_mul (by omega)]; rw [Nat.pow_succ] at h; exact h)
      simp; omega
theorem repr_len_ge (k : Nat) : ∀ (x : Nat), 10000 ^ k ≤ x → k < (repr x).length := by
  induction k with
  | zero =>
    intro x h
    have : x ≠ 0 := by (simp at h; omega)
    rw [repr_pos this]
    simp
  | succ k ih =>
    intro x h
    have hp : 0 < 10000 ^ k := Nat.pow_pos (by omega)
    have e : 10000 ^ (k + 1) = 10000 * 10000 ^ k := by rw [Nat.pow_succ]; omega
    have h0 : x ≠ 0 := by omega
    rw [repr_pos h0]
    have := ih (x / 10000) (by rw [Nat.le_div_iff_mul_le (by omega)]; omega)
    simp; omega
theorem repr_len_lt {x y : Nat} (h : (repr x).length < (repr y).length) : x < y := by
  rcases Nat.lt_or_ge x y with h' | h'
  · exact h'
  · exfalso
    have : ∀ (x y : Nat), y ≤ x → (repr y).length ≤ (repr x).length := by
      intro x
      induction x using Nat.strongRecOn with
      | ind x ih =>
        intro y hy
        by_cases hy0 : y = 0
        · subst hy0; simp [repr_zero]
        · rw [repr_pos hy0, repr_pos (show x ≠ 0 by omega)]
          have := ih (x / 10000) (by omega) (y / 10000) (Nat.div_le_div_right hy)
          simp; omega
    have := this x y h'
    omega
theorem repr_drop (k : Nat) : ∀ x, (repr x).drop k = repr (x / 10000 ^ k) := by
  induction k with
  | zero => intro x; simp
  | succ k ih =>
    intro x
    by_cases h : x = 0
    · subst h; simp [repr_zero]
    · rw [repr_pos h, List.drop_succ_cons, ih, Nat.div_div_eq_div_mul, Nat.pow_succ, Nat.mul_comm]
theorem repr_at {k : Nat} {X x : Nat} (hX : (repr x).drop k = repr X) : (k < (repr x).length ↔ X ≠ 0) ∧ ∀ (h : k < (repr x).length), (repr x)[k] = ((X % 10000 : Nat) : Int) ∧ (repr x).drop (k + 1) = repr (X / 10000) := by
  have hk : k < (repr x).length ↔ X ≠ 0 := by
    have : ((repr x).drop k).length = (repr X).length := by rw [hX]
    rw [List.length_drop] at this
    constructor
    · rintro h rfl
      rw [repr_zero] at this
      simp at this; omega
    · intro h
      rw [repr_pos h] at this
      simp at this; omega
  refine ⟨hk, fun h => ?_⟩
  have h0 := hk.1 h
  rw [List.drop_eq_getElem_cons h, repr_pos h0] at hX
  exact ⟨(List.cons.inj hX).1, (List.cons.inj hX).2⟩
theorem valD_append : ∀ (l m : List Int), valD (l ++ m) = valD l + 10000 ^ l.length * valD m
  | [], m => by simp [valD]
  | d :: l, m => by
    simp only [List.cons_append, valD, valD_append l m, List.length_cons]
    rw [Int.pow_succ, Int.mul_add, Int.add_assoc, ← Int.mul_assoc, Int.mul_comm 10000 (10000 ^ l.length)]
theorem valD_lt : ∀ (l : List Int), okD l → valD l < 10000 ^ l.length
  | [], _ => by simp [valD]
  | d :: l, h => by
    obtain ⟨h1, h2⟩ := okD_cons.1 h
    have := valD_lt l h2
    simp only [valD, List.length_cons]
    rw [Int.pow_succ]; omega
end Go.Proofs.YtjbkjeabobccaabGreatDoor
