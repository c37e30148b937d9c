import Derived.Test.YtjbkjeabobccaabDoorNumMul
namespace Go.Proofs.YtjbkjeabobccaabDoor
open Go.RowKit Go.Sort Go.Lib

theorem addR_comm (a b : Int) : addR a b = addR b a := by
  unfold addR
  rw [Int.add_comm b a]
  by_cases h : a < -9223372036854775807 ∨ b < -9223372036854775807 ∨ 9223372036854775807 < a + b ∨ a + b < -9223372036854775807
  · rw [if_pos h, if_pos (by omega)]
  · rw [if_neg h, if_neg (by omega)]
theorem addR_two (a b : Int) : addR a b = (0, 6) ∨ (addR a b = (a + b, 0) ∧ -9223372036854775807 ≤ a ∧ -9223372036854775807 ≤ b ∧ a + b ≤ 9223372036854775807 ∧ -9223372036854775807 ≤ a + b) := by
  unfold addR
  split
  · exact .inl rfl
  · exact .inr ⟨rfl, by omega, by omega, by omega, by omega⟩
theorem subR_back (a b : Int) (h1 : -9223372036854775807 ≤ a) (h2 : -9223372036854775807 ≤ b) (h3 : a ≤ 9223372036854775807) (h4 : -9223372036854775807 ≤ a + b) : subR (a + b) b = (a, 0) := by
  unfold subR
  rw [if_neg (by omega), show a + b - b = a by omega]
theorem mulR_comm (a b : Int) : mulR a b = mulR b a := by
  unfold mulR
  rw [Int.mul_comm, show (decide (a < 0) != decide (b < 0)) = (decide (b < 0) != decide (a < 0)) from by cases decide (a < 0) <;> cases decide (b < 0) <;> rfl]
  by_cases h : a < -9223372036854775807 ∨ b < -9223372036854775807
  · rw [if_pos h, if_pos (by omega)]
  · rw [if_neg h, if_neg (by omega)]
theorem modR_cases (a b : Int) : (modR a b = (0, 6)) ∨ (modR a b = (0, 7)) ∨ ∃ r, modR a b = (r, 0) ∧ ((0 < b ∧ 0 ≤ r ∧ r < b) ∨ (b < 0 ∧ r ≤ 0 ∧ b < r)) := by
  unfold modR
  split
  · exact .inl rfl
  · split
    · exact .inr (.inl rfl)
    · rename_i h0
      have := fm_bd a b h0
      exact .inr (.inr ⟨_, rfl, by omega⟩)
theorem near_mul (t u : Int) (hu : 0 < u) : near (t * u) u = t := by
  unfold near
  rw [Int.mul_emod_left, Int.mul_ediv_cancel _ (by omega), if_neg (by omega)]
theorem signed_two (m : Int) (b : Bool) : signed m b = (0, 6) ∨ (signed m b = (if b then -m else m, 0) ∧ m ≤ 9223372036854775807) := by
  unfold signed
  split
  · rename_i h; exact .inr ⟨rfl, h⟩
  · exact .inl rfl
theorem roundR_two (a d : Int) (ha : a ≤ 9223372036854775807) : roundR a d = (0, 6) ∨ ∃ s, roundR a d = (s, 0) ∧ roundR s d = (s, 0) ∧ -9223372036854775807 ≤ s ∧ s ≤ 9223372036854775807 := by
  obtain ⟨u0, _⟩ := unit_bd d
  by_cases h : a < -9223372036854775807
  · exact .inl (if_pos h)
  · have nb := near_bd (a.natAbs : Int) (unitR d) (by omega) (by omega) u0
    have e : roundR a d = signed (near (a.natAbs : Int) (unitR d) * unitR d) (decide (a < 0)) := if_neg h
    rw [e]
    generalize near (a.natAbs : Int) (unitR d) = t at *
    have hT : 0 ≤ t * unitR d := Int.mul_nonneg nb.1 (by omega)
    rcases signed_two (t * unitR d) (decide (a < 0)) with h6 | ⟨h0, hle⟩
    · exact .inl h6
    · refine .inr ⟨_, h0, ?_⟩
      have key : ∀ s : Int, (s.natAbs : Int) = t * unitR d → roundR s d = (if s < 0 then -(t * unitR d) else t * unitR d, 0) := by
        intro s hs
        have e2 : roundR s d = signed (near (s.natAbs : Int) (unitR d) * unitR d) (decide (s < 0)) := if_neg (by omega)
        rw [e2, hs, near_mul _ _ u0]
        unfold signed
        rw [if_pos hle]
        simp
      by_cases hn : a < 0
      · simp only [hn, decide_true, if_true]
        have := key (-(t * unitR d)) (by omega)
        refine ⟨?_, by omega, by omega⟩
        rw [this]
        split <;> congr 1
        omega
      · simp only [hn, decide_false]
        have := key (t * unitR d) (by omega)
        refine ⟨?_, by simp; omega, by simp; omega⟩
        simp only [Bool.false_eq_true, if_false]
        rw [this, if_neg (by omega)]
theorem floorR_two (a : Int) : floorR a = (0, 6) ∨ ∃ u, floorR a = (u, 0) ∧ u ≤ a ∧ u.tmod 1000000 = 0 ∧ a - u < 1000000 ∧ -9223372036854775807 ≤ u := by
  unfold floorR
  split
  · exact .inl rfl
  · refine .inr ⟨_, rfl, by omega, ?_, by omega, by omega⟩
    exact Int.tmod_eq_zero_of_dvd (by omega)
theorem mulR_one (a : Int) (h : -9223372036854775807 ≤ a) (h' : a ≤ 9223372036854775807) : mulR a 1000000 = (a, 0) := by
  unfold mulR
  rw [if_neg (by omega), show (((1000000 : Int).natAbs : Nat) : Int) = 1000000 from rfl, near_mul _ _ (by omega)]
  unfold signed
  rw [if_pos (by omega)]
  by_cases hn : a < 0
  · simp [hn]; omega
  · simp [hn]; omega
end Go.Proofs.YtjbkjeabobccaabDoor
