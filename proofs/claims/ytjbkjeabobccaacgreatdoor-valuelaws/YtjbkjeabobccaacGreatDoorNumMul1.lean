import Derived.Test.YtjbkjeabobccaacGreatDoorNumAlive
namespace Go.Proofs.YtjbkjeabobccaacGreatDoor
open Go.RowKit Go.Sort Go.Lib

def mulR (a b : Int) : Int × Int := if a < -9223372036854775807 ∨ b < -9223372036854775807 then (0, 6) else signed (near ((a.natAbs : Int) * b.natAbs) 1000000) (decide (a < 0) != decide (b < 0))

set_option maxHeartbeats 400000 in
theorem isNumber_no (n : Int) (w : World) (h1 : n < -9223372036854775807) :
    Calls Tryz.prog 46 #[.int .i64 n] w fun e w' => e = .returned (.bool false) ∧ w' = w := by
  go_enter Tryz.func46, Tryz.ntmps46
  go_wp2
  go_ret
  exact ⟨ret_bool (by simp; omega), rfl⟩

set_option maxHeartbeats 1000000 in
theorem mul_any (a b : Int) (w : World) (ha : a ≤ 9223372036854775807) (hb : b ≤ 9223372036854775807) :
    Calls Tryz.prog 35 #[.int .i64 a, .int .i64 b] w fun e w' => e = .returned (.tuple #[.int .i64 (mulR a b).1, .int .i64 (mulR a b).2]) ∧ ∃ n, w' = w.drewN n := by
  by_cases h1 : -9223372036854775807 ≤ a
  · by_cases h2 : -9223372036854775807 ≤ b
    · rw [show mulR a b = signed (near ((a.natAbs : Int) * b.natAbs) 1000000) (decide (a < 0) != decide (b < 0)) from if_neg (by omega)]
      have cs0 := fun sg w => scaled_any (a.natAbs : Int) b.natAbs 1000000 sg w (by omega) (by omega) (by omega) (by omega) (by omega) (by omega)
      have ca0 := fun w => sizeOf_any a w h1 ha
      have cb0 := fun w => sizeOf_any b w h2 hb
      obtain ⟨p, ep⟩ : ∃ p, (near ((a.natAbs : Int) * b.natAbs) 1000000) = p := ⟨_, rfl⟩
      rw [ep] at cs0 ⊢
      obtain ⟨x, ex⟩ : ∃ x, (a.natAbs : Int) = x := ⟨_, rfl⟩
      obtain ⟨y, ey⟩ : ∃ x, (b.natAbs : Int) = x := ⟨_, rfl⟩
      rw [ex] at ca0 cs0
      rw [ey] at cb0 cs0
      have cs : Hid (∀ sg w, _) := cs0
      have ca : Hid (∀ w, _) := ca0
      have cb : Hid (∀ w, _) := cb0
      have n1 : Hid (∀ w, _) := fun w => isNumber_yes a w h1
      have n2 : Hid (∀ w, _) := fun w => isNumber_yes b w h2
      clear cs0 ca0 cb0 ep ex ey
      go_enter Tryz.func35, Tryz.ntmps35
      go_wp2_with fail
      refine (n1.out _).mono ?_
      rintro e w' ⟨rfl, rfl⟩
      go_wp2_with fail
      refine (n2.out _).mono ?_
      rintro e w' ⟨rfl, rfl⟩
      go_wp2_with fail
      refine (ca.out _).mono ?_
      rintro e w' ⟨rfl, rfl⟩
      go_wp2_with fail
      refine (cb.out _).mono ?_
      rintro e w' ⟨rfl, rfl⟩
      go_wp2_with fail
      refine (cs.out _ _).mono ?_
      rintro e w' ⟨rfl, n, rfl⟩
      go_wp2_with fail
      go_ret2
      exact ⟨rfl, n, rfl⟩
    · rw [show mulR a b = (0, 6) from if_pos (by omega)]
      have n1 : Hid (∀ w, _) := fun w => isNumber_yes a w h1
      have n2 : Hid (∀ w, _) := fun w => isNumber_no b w (by omega)
      go_enter Tryz.func35, Tryz.ntmps35
      go_wp2_with fail
      refine (n1.out _).mono ?_
      rintro e w' ⟨rfl, rfl⟩
      go_wp2_with fail
      refine (n2.out _).mono ?_
      rintro e w' ⟨rfl, rfl⟩
      go_wp2_with fail
      go_ret2
      exact ⟨rfl, 0, rfl⟩
  · rw [show mulR a b = (0, 6) from if_pos (by omega)]
    have n1 : Hid (∀ w, _) := fun w => isNumber_no a w (by omega)
    go_enter Tryz.func35, Tryz.ntmps35
    go_wp2_with fail
    refine (n1.out _).mono ?_
    rintro e w' ⟨rfl, rfl⟩
    go_wp2_with fail
    go_ret2
    exact ⟨rfl, 0, rfl⟩

theorem mulR_comm (a b : Int) : mulR a b = mulR b a := by
  unfold mulR
  rw [Int.mul_comm, show (decide (a < 0) != decide (b < 0)) = (decide (b < 0) != decide (a < 0)) from by cases decide (a < 0) <;> cases decide (b < 0) <;> rfl]
  by_cases h : a < -9223372036854775807 ∨ b < -9223372036854775807
  · rw [if_pos h, if_pos (by omega)]
  · rw [if_neg h, if_neg (by omega)]
end Go.Proofs.YtjbkjeabobccaacGreatDoor
