import Derived.Test.YtjbkjeabobccaaaDoorNumRound
namespace Go.Proofs.YtjbkjeabobccaaaDoor
open Go.RowKit Go.Sort Go.Lib

def mulR (a b : Int) : Int × Int := if a < -9223372036854775807 ∨ b < -9223372036854775807 then (0, 6) else signed (near ((a.natAbs : Int) * b.natAbs) 1000000) (decide (a < 0) != decide (b < 0))

set_option maxHeartbeats 400000 in
theorem isNumber_no (n : Int) (w : World) (h1 : n < -9223372036854775807) :
    Calls Tryd.prog 38 #[.int .i64 n] w fun e w' => e = .returned (.bool false) ∧ w' = w := by
  go_enter Tryd.func38, Tryd.ntmps38
  go_wp2
  go_ret
  exact ⟨ret_bool (by simp; omega), rfl⟩

set_option maxHeartbeats 1000000 in
theorem mul_any (a b : Int) (w : World) (ha : a ≤ 9223372036854775807) (hb : b ≤ 9223372036854775807) :
    Calls Tryd.prog 18 #[.int .i64 a, .int .i64 b] w fun e w' => e = .returned (.tuple #[.int .i64 (mulR a b).1, .int .i64 (mulR a b).2]) ∧ ∃ n, w' = w.drewN n := by
  by_cases h1 : -9223372036854775807 ≤ a
  · by_cases h2 : -9223372036854775807 ≤ b
    · rw [show mulR a b = signed (near ((a.natAbs : Int) * b.natAbs) 1000000) (decide (a < 0) != decide (b < 0)) from if_neg (by omega)]
      have cs0 := fun sg w => scaled_any (a.natAbs : Int) b.natAbs 1000000 sg w (by omega) (by omega) (by omega) (by omega) (by omega) (by omega)
      have ca0 := fun w => sizeOf_any a w h1 ha
      have cb0 := fun w => sizeOf_any b w h2 hb
      obtain ⟨p, ep⟩ : ∃ p, (near ((a.natAbs : Int) * b.natAbs) 1000000) = p := ⟨_, rfl⟩
      rw [ep] at cs0 ⊢
      obtain ⟨x, ex⟩ : ∃ x, (a.natAbs : Int) = x := ⟨_, rfl⟩
      obtain ⟨y, ey⟩ : ∃ x, (b.natAbs : Int) = x := ⟨_, rfl⟩
      rw [ex] at ca0 cs0
      rw [ey] at cb0 cs0
      have cs : Hid (∀ sg w, _) := cs0
      have ca : Hid (∀ w, _) := ca0
      have cb : Hid (∀ w, _) := cb0
      have n1 : Hid (∀ w, _) := fun w => isNumber_yes a w h1
      have n2 : Hid (∀ w, _) := fun w => isNumber_yes b w h2
      clear cs0 ca0 cb0 ep ex ey
      go_enter Tryd.func18, Tryd.ntmps18
      go_wp2_with fail
      refine (n1.out _).mono ?_
      rintro e w' ⟨rfl, rfl⟩
      go_wp2_with fail
      refine (n2.out _).mono ?_
      rintro e w' ⟨rfl, rfl⟩
      go_wp2_with fail
      refine (ca.out _).mono ?_
      rintro e w' ⟨rfl, rfl⟩
      go_wp2_with fail
      refine (cb.out _).mono ?_
      rintro e w' ⟨rfl, rfl⟩
      go_wp2_with fail
      refine (cs.out _ _).mono ?_
      rintro e w' ⟨rfl, n, rfl⟩
      go_wp2_with fail
      go_ret2
      exact ⟨rfl, n, rfl⟩
    · rw [show mulR a b = (0, 6) from if_pos (by omega)]
      have n1 : Hid (∀ w, _) := fun w => isNumber_yes a w h1
      have n2 : Hid (∀ w, _) := fun w => isNumber_no b w (by omega)
      go_enter Tryd.func18, Tryd.ntmps18
      go_wp2_with fail
      refine (n1.out _).mono ?_
      rintro e w' ⟨rfl, rfl⟩
      go_wp2_with fail
      refine (n2.out _).mono ?_
      rintro e w' ⟨rfl, rfl⟩
      go_wp2_with fail
      go_ret2
      exact ⟨rfl, 0, rfl⟩
  · rw [show mulR a b = (0, 6) from if_pos (by omega)]
    have n1 : Hid (∀ w, _) := fun w => isNumber_no a w (by omega)
    go_enter Tryd.func18, Tryd.ntmps18
    go_wp2_with fail
    refine (n1.out _).mono ?_
    rintro e w' ⟨rfl, rfl⟩
    go_wp2_with fail
    go_ret2
    exact ⟨rfl, 0, rfl⟩

def clampD (d : Int) : Int := min (max d (-13)) 6
def unitR (d : Int) : Int := 10 ^ (6 - clampD d).toNat
def roundR (a d : Int) : Int × Int := if a < -9223372036854775807 then (0, 6) else signed (near (a.natAbs : Int) (unitR d) * unitR d) (decide (a < 0))

theorem clamp_bd (d : Int) : -13 ≤ clampD d ∧ clampD d ≤ 6 := by unfold clampD; omega
theorem unit_bd (d : Int) : 0 < unitR d ∧ unitR d < 18446744073709551616 := by
  have := clamp_bd d
  unfold unitR
  refine ⟨Int.pow_pos (by omega), ?_⟩
  have h : (10 : Nat) ^ (6 - clampD d).toNat ≤ 10 ^ 19 := Nat.pow_le_pow_right (by omega) (by omega)
  have h2 := Int.ofNat_le.2 h
  rw [Int.natCast_pow] at h2
  exact Int.lt_of_le_of_lt h2 (by decide)
theorem near_one (p : Int) : near p 1 = p := by unfold near; rw [if_neg (by omega)]; omega
theorem near_bd (p c : Int) (hp : 0 ≤ p) (hp' : p ≤ 9223372036854775807) (hc : 0 < c) : 0 ≤ near p c ∧ near p c ≤ 9223372036854775807 := by
  have h0 : 0 ≤ p / c := Int.ediv_nonneg hp (by omega)
  have h1 : p / c ≤ p := Int.ediv_le_self _ hp
  by_cases h : c = 1
  · subst h; rw [near_one]; omega
  · have h2 : p / c * 2 ≤ p := by
      have := Int.ediv_mul_le p (show c ≠ 0 by omega)
      have h3 : p / c * 2 ≤ p / c * c := Int.mul_le_mul_of_nonneg_left (by omega) h0
      omega
    unfold near
    split <;> omega

set_option maxHeartbeats 1000000 in
theorem round_any (a d : Int) (w : World) (ha : a ≤ 9223372036854775807) :
    Calls Tryd.prog 22 #[.int .i64 a, .int .i64 d] w fun e w' => e = .returned (.tuple #[.int .i64 (roundR a d).1, .int .i64 (roundR a d).2]) ∧ ∃ n, w' = w.drewN n := by
  by_cases h1 : -9223372036854775807 ≤ a
  · rw [show roundR a d = signed (near (a.natAbs : Int) (unitR d) * unitR d) (decide (a < 0)) from if_neg (by omega)]
    obtain ⟨u0, u1⟩ := unit_bd d
    obtain ⟨c0, c1⟩ := clamp_bd d
    have cu0 := fun w => unitOf_any (clampD d) w c0 c1
    rw [show (10 : Int) ^ (6 - clampD d).toNat = unitR d from rfl, show clampD d = min (max d (-13)) 6 from rfl] at cu0
    clear c0 c1
    have ca0 := fun w => sizeOf_any a w h1 ha
    have nb := near_bd (a.natAbs : Int) (unitR d) (by omega) (by omega) u0
    have ct0 := fun w => scaled_any (a.natAbs : Int) 1 (unitR d) false w (by omega) (by omega) (by omega) (by omega) u0 u1
    rw [Int.mul_one, show signed (near (a.natAbs : Int) (unitR d)) false = (near (a.natAbs : Int) (unitR d), 0) from if_pos nb.2] at ct0
    have cr0 := fun sg w => scaled_any (near (a.natAbs : Int) (unitR d)) (unitR d) 1 sg w nb.1 (by omega) (by omega) u1 (by omega) (by omega)
    rw [near_one] at cr0
    obtain ⟨t, et⟩ : ∃ t, near (a.natAbs : Int) (unitR d) = t := ⟨_, rfl⟩
    rw [et] at ct0 cr0 nb ⊢
    obtain ⟨R, eR⟩ : ∃ R, t * unitR d = R := ⟨_, rfl⟩
    rw [eR] at cr0 ⊢
    obtain ⟨u, eu⟩ : ∃ u, unitR d = u := ⟨_, rfl⟩
    rw [eu] at cu0 ct0 cr0 u0 u1
    obtain ⟨x, ex⟩ : ∃ x, (a.natAbs : Int) = x := ⟨_, rfl⟩
    rw [ex] at ca0 ct0
    obtain ⟨t0, t1⟩ := nb
    have cu : Hid (∀ w, _) := cu0
    have ca : Hid (∀ w, _) := ca0
    have ct : Hid (∀ w, _) := ct0
    have cr : Hid (∀ sg w, _) := cr0
    have n1 : Hid (∀ w, _) := fun w => isNumber_yes a w h1
    clear cu0 ca0 ct0 cr0 et eR eu ex
    go_enter Tryd.func22, Tryd.ntmps22
    go_wp2_with fail
    refine (n1.out _).mono ?_
    rintro e w' ⟨rfl, rfl⟩
    go_wp2_with fail
    refine (cu.out _).mono ?_
    rintro e w' ⟨rfl, rfl⟩
    go_wp2_with fail
    refine (ca.out _).mono ?_
    rintro e w' ⟨rfl, rfl⟩
    go_wp2_with fail
    refine (ct.out _).mono ?_
    rintro e w' ⟨rfl, n, rfl⟩
    go_wp2_with fail
    refine (cr.out _ _).mono ?_
    rintro e w' ⟨rfl, m, rfl⟩
    go_wp2_with fail
    go_ret2
    exact ⟨rfl, n + m, rfl⟩
  · rw [show roundR a d = (0, 6) from if_pos (by omega)]
    have n1 : Hid (∀ w, _) := fun w => isNumber_no a w (by omega)
    go_enter Tryd.func22, Tryd.ntmps22
    go_wp2_with fail
    refine (n1.out _).mono ?_
    rintro e w' ⟨rfl, rfl⟩
    go_wp2_with fail
    go_ret2
    exact ⟨rfl, 0, rfl⟩
end Go.Proofs.YtjbkjeabobccaaaDoor
