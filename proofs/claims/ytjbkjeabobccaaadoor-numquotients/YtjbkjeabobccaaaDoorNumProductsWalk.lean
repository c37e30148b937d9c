import Derived.Test.YtjbkjeabobccaaaDoorNumBig18
import Derived.Test.YtjbkjeabobccaaaDoorNumMul
namespace Go.Proofs.YtjbkjeabobccaaaDoor
open Go.RowKit Go.Sort Go.Lib
set_option linter.unusedVariables false

theorem near_nat (x y : Nat) (hy : 0 < y) : near (x : Int) (y : Int) = (nearN x y : Int) := by
  have e1 : (x : Int) % y = ((x % y : Nat) : Int) := by omega
  have e2 : (x : Int) / y = ((x / y : Nat) : Int) := by omega
  have hm := Nat.mod_lt x hy
  unfold near nearN upN
  rw [e1, e2]
  by_cases h : y < x % y + x % y ∨ (x % y + x % y = y ∧ x / y % 2 = 1)
  · rw [if_pos (by omega), if_pos (by simpa using h)]; omega
  · rw [if_neg (by omega), if_neg (by simpa using h)]
theorem tz_sq (s t : Bool) (Q : Nat) (h : s = t ∨ Q = 0) : tz (sq s Q) = signed (Q : Int) t := by
  unfold tz signed sq
  rcases h with rfl | rfl
  · cases s <;> simp <;> split <;> split <;> first | rfl | omega
  · cases s <;> cases t <;> simp
theorem mulR_eq (a b : Int) (ha1 : -9223372036854775807 ≤ a) (hb1 : -9223372036854775807 ≤ b) : mulR a b = tz (nearZ (a * b) 1000000) := by
  unfold mulR nearZ
  rw [if_neg (by omega), show ((a.natAbs : Int) * b.natAbs) = (((a * b).natAbs : Nat) : Int) by rw [Int.natAbs_mul]; simp, show (1000000 : Int) = ((1000000 : Nat) : Int) from rfl, near_nat _ _ (by omega)]
  symm
  rw [show ((1000000 : Nat) : Int).natAbs = 1000000 from rfl]
  apply tz_sq
  unfold opp
  by_cases h : a.natAbs * b.natAbs = 0
  · right
    rw [Int.natAbs_mul, h]
    decide
  · left
    rw [sign_mul]
    simp [h]

theorem workTimes (a b : Int) (w : World) (ha1 : -9223372036854775808 ≤ a) (ha2 : a ≤ 9223372036854775807) (hb1 : -9223372036854775808 ≤ b) (hb2 : b ≤ 9223372036854775807) :
    Calls Tryd.prog 16 #[.int .u8 42, .int .i64 a, .int .i64 b] w fun e w' => e = .returned (.tuple #[.int .i64 (mulR a b).1, .int .i64 (mulR a b).2]) ∧ Below w.heap.size w w' := by
  by_cases h : a = -9223372036854775808 ∨ b = -9223372036854775808
  · rw [show mulR a b = (0, 6) from if_pos (by omega)]
    refine (work_bad 42 a b w h).mono ?_
    rintro e w' ⟨rfl, rfl⟩
    exact ⟨rfl, Below.refl _ _⟩
  · rw [mulR_eq a b (by omega) (by omega)]
    exact work_times a b w (by omega) ha2 (by omega) hb2

set_option maxHeartbeats 2000000 in
theorem numProducts_walk (a b : Int) (w : World) (hE : Env w) (ha1 : -9223372036854775808 ≤ a) (ha2 : a ≤ 9223372036854775807) (hb1 : -9223372036854775808 ≤ b) (hb2 : b ≤ 9223372036854775807) :
    Calls Tryd.prog 6 #[.int .i64 a, .int .i64 b] w fun e w' => e = .returned (.bool true) ∧ Below w.heap.size w w' := by
  have c1 := fun w => mul_any a b w ha2 hb2
  have c3 := fun w => workTimes a b w ha1 ha2 hb1 hb2
  obtain ⟨⟨x, e⟩, ex⟩ : ∃ r, mulR a b = r := ⟨_, rfl⟩
  rw [ex] at c1 c3
  have d1 := hidd c1
  have d3 := hidd c3
  clear c1 c3 ex ha1 ha2 hb1 hb2
  go_enter Tryd.func6, Tryd.ntmps6
  go_wp2_with fail
  refine (d1.out _).mono ?_
  rintro e w' ⟨rfl, n, rfl⟩
  go_wp2_with fail
  refine (d3.out _).mono ?_
  rintro e w1 ⟨rfl, hb1⟩
  have hB := key2 (bl w n) hb1
  have al := hidd (alive_any w1 (hE.step hB))
  go_wp2_with (first | (go_at_call 17; refine (same_yes _ _ _).mono ?_; rintro e w' ⟨rfl, rfl⟩) | (go_at_call 11; refine al.out.mono ?_; rintro e w3 ⟨rfl, hb3⟩))
  go_ret
  exact ⟨rfl, key2 hB hb3⟩
end Go.Proofs.YtjbkjeabobccaaaDoor
