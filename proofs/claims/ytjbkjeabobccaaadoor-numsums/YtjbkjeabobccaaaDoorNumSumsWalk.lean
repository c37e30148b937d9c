import Derived.Test.YtjbkjeabobccaaaDoorNumBig11
import Derived.Test.YtjbkjeabobccaaaDoorNumAlive
namespace Go.Proofs.YtjbkjeabobccaaaDoor
open Go.RowKit Go.Sort Go.Lib
set_option linter.unusedVariables false

theorem workPlus (a b : Int) (w : World) (ha1 : -9223372036854775808 ≤ a) (ha2 : a ≤ 9223372036854775807) (hb1 : -9223372036854775808 ≤ b) (hb2 : b ≤ 9223372036854775807) :
    Calls Tryd.prog 16 #[.int .u8 43, .int .i64 a, .int .i64 b] w fun e w' => e = .returned (.tuple #[.int .i64 (addR a b).1, .int .i64 (addR a b).2]) ∧ Below w.heap.size w w' := by
  by_cases h : a = -9223372036854775808 ∨ b = -9223372036854775808
  · rw [show addR a b = (0, 6) from if_pos (by omega)]
    refine (work_bad 43 a b w h).mono ?_
    rintro e w' ⟨rfl, rfl⟩
    exact ⟨rfl, Below.refl _ _⟩
  · have : addR a b = tz (a + b) := by
      unfold addR tz
      split <;> split <;> first | rfl | omega
    rw [this]
    exact work_plus a b w (by omega) ha2 (by omega) hb2
theorem workMinus (a b : Int) (w : World) (ha1 : -9223372036854775808 ≤ a) (ha2 : a ≤ 9223372036854775807) (hb1 : -9223372036854775808 ≤ b) (hb2 : b ≤ 9223372036854775807) :
    Calls Tryd.prog 16 #[.int .u8 45, .int .i64 a, .int .i64 b] w fun e w' => e = .returned (.tuple #[.int .i64 (subR a b).1, .int .i64 (subR a b).2]) ∧ Below w.heap.size w w' := by
  by_cases h : a = -9223372036854775808 ∨ b = -9223372036854775808
  · rw [show subR a b = (0, 6) from if_pos (by omega)]
    refine (work_bad 45 a b w h).mono ?_
    rintro e w' ⟨rfl, rfl⟩
    exact ⟨rfl, Below.refl _ _⟩
  · have : subR a b = tz (a - b) := by
      unfold subR tz
      split <;> split <;> first | rfl | omega
    rw [this]
    exact work_minus a b w (by omega) ha2 (by omega) hb2

set_option maxHeartbeats 2000000 in
theorem numSums_walk (a b : Int) (w : World) (hE : Env w) (ha1 : -9223372036854775808 ≤ a) (ha2 : a ≤ 9223372036854775807) (hb1 : -9223372036854775808 ≤ b) (hb2 : b ≤ 9223372036854775807) :
    Calls Tryd.prog 5 #[.int .i64 a, .int .i64 b] w fun e w' => e = .returned (.bool true) ∧ Below w.heap.size w w' := by
  have c1 := fun w => add_any a b w ha2 hb2
  have c2 := fun w => sub_any a b w ha2 hb2 ha1 hb1
  have c3 := fun w => workPlus a b w ha1 ha2 hb1 hb2
  have c4 := fun w => workMinus a b w ha1 ha2 hb1 hb2
  obtain ⟨⟨x, e⟩, ex⟩ : ∃ r, addR a b = r := ⟨_, rfl⟩
  obtain ⟨⟨y, f⟩, ey⟩ : ∃ r, subR a b = r := ⟨_, rfl⟩
  rw [ex] at c1 c3
  rw [ey] at c2 c4
  have d1 := hidd c1
  have d2 := hidd c2
  have d3 := hidd c3
  have d4 := hidd c4
  clear c1 c2 c3 c4 ex ey ha1 ha2 hb1 hb2
  go_enter Tryd.func5, Tryd.ntmps5
  go_wp2_with fail
  refine (d1.out _).mono ?_
  rintro e w' ⟨rfl, rfl⟩
  go_wp2_with fail
  refine (d2.out _).mono ?_
  rintro e w' ⟨rfl, rfl⟩
  go_wp2_with fail
  refine (d3.out _).mono ?_
  rintro e w1 ⟨rfl, hb1⟩
  go_wp2_with fail
  refine (d4.out _).mono ?_
  rintro e w2 ⟨rfl, hb2⟩
  have hB := key2 hb1 hb2
  have al := hidd (alive_any w2 (hE.step hB))
  go_wp2_with (first | (go_at_call 17; refine (same_yes _ _ _).mono ?_; rintro e w' ⟨rfl, rfl⟩) | (go_at_call 11; refine al.out.mono ?_; rintro e w3 ⟨rfl, hb3⟩))
  go_ret
  exact ⟨rfl, key2 hB hb3⟩
end Go.Proofs.YtjbkjeabobccaaaDoor
