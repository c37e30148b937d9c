import Derived.Test.YtjbkjeabobccaabGreatDoorRows
import Derived.WalkKit
import Derived.WalkSpells
import Derived.WalkLawsBesides
import Derived.Outline
namespace Go.Proofs.YtjbkjeabobccaabGreatDoor
open Go.RowKit (wrap64)

/-- A sum of numbers (A3): what is answered, and the error's number. -/
def addR (a b : Int) : Int × Int :=
  if a < -9223372036854775807 ∨ b < -9223372036854775807 ∨ 9223372036854775807 < a + b ∨ a + b < -9223372036854775807 then (0, 6) else (a + b, 0)

set_option maxHeartbeats 400000 in
theorem add_any (a b : Int) (w : World) (ha : a ≤ 9223372036854775807) (hb : b ≤ 9223372036854775807) :
    Calls Tryz.prog 76 #[.int .i64 a, .int .i64 b] w fun e w' => e = .returned (.tuple #[.int .i64 (addR a b).1, .int .i64 (addR a b).2]) ∧ w' = w := by
  by_cases h1 : -9223372036854775807 ≤ a
  · by_cases h2 : -9223372036854775807 ≤ b
    · by_cases h3 : 0 < b
      · by_cases h4 : 9223372036854775807 - b < a
        · rw [show addR a b = (0, 6) from if_pos (by omega)]
          go_enter Tryz.func76, Tryz.ntmps76
          go_wp2
          go_ret2
          exact ⟨rfl, rfl⟩
        · rw [show addR a b = (a + b, 0) from if_neg (by omega)]
          have h5 : a + b ≤ 9223372036854775807 := by omega
          go_enter Tryz.func76, Tryz.ntmps76
          go_wp2
          go_ret2
          exact ⟨rfl, rfl⟩
      · by_cases h4 : b < 0
        · by_cases h5 : a < -9223372036854775807 - b
          · rw [show addR a b = (0, 6) from if_pos (by omega)]
            go_enter Tryz.func76, Tryz.ntmps76
            go_wp2
            go_ret2
            exact ⟨rfl, rfl⟩
          · rw [show addR a b = (a + b, 0) from if_neg (by omega)]
            have h6 : -9223372036854775807 ≤ a + b := by omega
            go_enter Tryz.func76, Tryz.ntmps76
            go_wp2
            go_ret2
            exact ⟨rfl, rfl⟩
        · rw [show addR a b = (a + b, 0) from if_neg (by omega)]
          go_enter Tryz.func76, Tryz.ntmps76
          go_wp2
          go_ret2
          exact ⟨rfl, rfl⟩
    · rw [show addR a b = (0, 6) from if_pos (by omega)]
      go_enter Tryz.func76, Tryz.ntmps76
      go_wp2
      go_ret2
      exact ⟨rfl, rfl⟩
  · rw [show addR a b = (0, 6) from if_pos (by omega)]
    go_enter Tryz.func76, Tryz.ntmps76
    go_wp2
    go_ret2
    exact ⟨rfl, rfl⟩

def subR (a b : Int) : Int × Int :=
  if a < -9223372036854775807 ∨ b < -9223372036854775807 ∨ 9223372036854775807 < a - b ∨ a - b < -9223372036854775807 then (0, 6) else (a - b, 0)

set_option maxHeartbeats 400000 in
theorem sub_any (a b : Int) (w : World) (ha : a ≤ 9223372036854775807) (hb : b ≤ 9223372036854775807) (ha' : -9223372036854775808 ≤ a) (hb' : -9223372036854775808 ≤ b) :
    Calls Tryz.prog 77 #[.int .i64 a, .int .i64 b] w fun e w' => e = .returned (.tuple #[.int .i64 (subR a b).1, .int .i64 (subR a b).2]) ∧ w' = w := by
  have key : ∀ c : Int, c ≤ 9223372036854775807 → c = wrap64 (-b) → addR a c = subR a b := by
    intro c hc e
    unfold wrap64 at e
    unfold addR subR
    split <;> split <;> first | rfl | omega | (simp; omega)
  have hw : wrap64 (-b) ≤ 9223372036854775807 := by unfold wrap64; omega
  go_enter Tryz.func77, Tryz.ntmps77
  go_wp2_with (go_at_call 76; refine (add_any _ _ _ ha hw).mono ?_; rintro e w' ⟨rfl, rfl⟩)
  go_ret2
  rw [← key _ hw rfl]
  exact ⟨rfl, rfl⟩
end Go.Proofs.YtjbkjeabobccaabGreatDoor
