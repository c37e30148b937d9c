import Derived.Test.YtjbkjeabobccaaaDoorNumAlive
import Derived.Test.YtjbkjeabobccaaaDoorNumMod
namespace Go.Proofs.YtjbkjeabobccaaaDoor
open Go.RowKit Go.Sort Go.Lib

/-- Rounded down (A4). -/
def floorR (a : Int) : Int × Int := if a < -9223372036854775807 ∨ a - a % 1000000 < -9223372036854775807 then (0, 6) else (a - a % 1000000, 0)

set_option maxHeartbeats 400000 in
theorem floor_any (a : Int) (w : World) (ha : a ≤ 9223372036854775807) (ha' : -9223372036854775808 ≤ a) :
    Calls Tryd.prog 21 #[.int .i64 a] w fun e w' => e = .returned (.tuple #[.int .i64 (floorR a).1, .int .i64 (floorR a).2]) ∧ w' = w := by
  have cm0 := fun w => mod_any a 1000000 w ha (by omega)
  by_cases h : a < -9223372036854775807
  · rw [show floorR a = (0, 6) from if_pos (.inl h)]
    have e : modR a 1000000 = (0, 6) := if_pos (.inl h)
    rw [e] at cm0
    have cm : Hid (∀ w, _) := cm0
    clear cm0 e
    go_enter Tryd.func21, Tryd.ntmps21
    go_wp2_with (go_at_call 20; refine (cm.out _).mono ?_; rintro e w' ⟨rfl, rfl⟩)
    go_ret2
    exact ⟨rfl, rfl⟩
  · have e : modR a 1000000 = (a % 1000000, 0) := by unfold modR fm; rw [if_neg (by omega), if_neg (by omega), if_pos (by omega)]
    rw [e] at cm0
    have cs0 := fun w => sub_any a (a % 1000000) w ha (by omega) ha' (by omega)
    have e2 : subR a (a % 1000000) = floorR a := by
      unfold subR floorR
      split <;> split <;> first | rfl | omega
    rw [e2] at cs0
    obtain ⟨r, er⟩ : ∃ r, a % 1000000 = r := ⟨_, rfl⟩
    rw [er] at cm0 cs0
    have cm : Hid (∀ w, _) := cm0
    have cs : Hid (∀ w, _) := cs0
    clear cm0 cs0 e e2 er
    go_enter Tryd.func21, Tryd.ntmps21
    go_wp2_with (first | (go_at_call 20; refine (cm.out _).mono ?_; rintro e w' ⟨rfl, rfl⟩) | (go_at_call 15; refine (cs.out _).mono ?_; rintro e w' ⟨rfl, rfl⟩))
    go_ret2
    exact ⟨rfl, rfl⟩

set_option maxHeartbeats 400000 in
theorem unitOf_any (d : Int) (w : World) (h1 : -13 ≤ d) (h2 : d ≤ 6) :
    Calls Tryd.prog 47 #[.int .i64 d] w fun e w' => e = .returned (.int .u64 ((10 : Int) ^ (6 - d).toNat)) ∧ w' = w := by
  go_enter Tryd.func47, Tryd.ntmps47
  go_wp2
  go_loop [3, 6] (fun u i => ∃ k : Nat, (k : Int) ≤ 6 - d ∧ i = .int .i64 k ∧ u = .int .u64 ((10 : Int) ^ k)) (fun _ i => ((6 - d) - (RowKit.intOf i)).toNat)
  case atStart => exact ⟨0, by omega, rfl, rfl⟩
  case round =>
    obtain ⟨k, hk, rfl, rfl⟩ := hrel
    by_cases hlt : (k : Int) < 6 - d
    · have e : (10 : Int) ^ (k + 1) = 10 ^ k * 10 := Int.pow_succ 10 k
      have hb : (10 : Int) ^ k ≤ 1000000000000000000 := by
        have : (10 : Nat) ^ k ≤ 10 ^ 18 := Nat.pow_le_pow_right (by omega) (by omega)
        have := Int.ofNat_le.2 this
        rw [Int.natCast_pow] at this
        exact this
      have hp : (0 : Int) < 10 ^ k := Int.pow_pos (by omega)
      have He := Lib.hid e
      clear e
      go_wp2
      go_round
      case rel => exact ⟨k + 1, by omega, by go_num, by rw [He.out]⟩
      case measure => simp [RowKit.intOf]; omega
    · have e : (6 - d).toNat = k := by omega
      have He := Lib.hid e
      clear e
      go_wp2
      rw [He.out]
      go_ret
      exact ⟨rfl, rfl⟩
end Go.Proofs.YtjbkjeabobccaaaDoor
