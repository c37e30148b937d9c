import Derived.Test.YtjbkjeabobccaaaDoorNumBase
namespace Go.Proofs.YtjbkjeabobccaaaDoor
open Go.RowKit (wrap64)

/-- What is left (A3). -/
def fm (a b : Int) : Int := if 0 < b then a % b else -((-a) % (-b))
def modR (a b : Int) : Int × Int := if a < -9223372036854775807 ∨ b < -9223372036854775807 then (0, 6) else if b = 0 then (0, 7) else (fm a b, 0)

theorem tmod_pos (a b : Int) (hb : 0 < b) : (a.tmod b = 0 ∧ a % b = 0) ∨ (a.tmod b < 0 ∧ -b < a.tmod b ∧ a % b = a.tmod b + b) ∨ (0 < a.tmod b ∧ a.tmod b < b ∧ a % b = a.tmod b) := by
  have h0 := Int.emod_nonneg a (show b ≠ 0 by omega)
  have h1 := Int.emod_lt_of_pos a hb
  by_cases ha : 0 ≤ a
  · rw [Int.tmod_eq_emod_of_nonneg ha]
    omega
  · have e : a.tmod b = -((-a) % b) := by
      have := Int.neg_tmod (-a) b
      rw [Int.neg_neg, Int.tmod_eq_emod_of_nonneg (show 0 ≤ -a by omega)] at this
      exact this
    have e2 := @Int.neg_emod a b
    have h2 := Int.emod_nonneg (-a) (show b ≠ 0 by omega)
    rw [e]
    split at e2
    · rename_i hd
      have := Int.emod_eq_zero_of_dvd hd
      omega
    · rename_i hd
      have : a % b ≠ 0 := fun h => hd (Int.dvd_of_emod_eq_zero h)
      omega

theorem tmod_cases (a b : Int) (hb : b ≠ 0) (hb1 : -9223372036854775807 ≤ b) (hb2 : b ≤ 9223372036854775807) : ∃ t, a.tmod b = t ∧ -9223372036854775807 ≤ t ∧ t ≤ 9223372036854775807 ∧
    ((t = 0 ∧ fm a b = 0) ∨ (t < 0 ∧ b < 0 ∧ fm a b = t) ∨ (t < 0 ∧ 0 < b ∧ fm a b = t + b) ∨ (0 < t ∧ 0 < b ∧ fm a b = t) ∨ (0 < t ∧ b < 0 ∧ fm a b = t + b)) := by
  refine ⟨_, rfl, ?_⟩
  unfold fm
  by_cases h : 0 < b
  · rw [if_pos h]
    have := tmod_pos a b h
    omega
  · rw [if_neg h]
    have h1 := tmod_pos (-a) (-b) (by omega)
    have e : (-a).tmod (-b) = -(a.tmod b) := by rw [Int.neg_tmod, Int.tmod_neg]
    rw [e] at h1
    omega

theorem fm_bd (a b : Int) (hb : b ≠ 0) : (0 < b → 0 ≤ fm a b ∧ fm a b < b) ∧ (b < 0 → fm a b ≤ 0 ∧ b < fm a b) := by
  unfold fm
  refine ⟨fun h => ?_, fun h => ?_⟩
  · rw [if_pos h]
    exact ⟨Int.emod_nonneg a hb, Int.emod_lt_of_pos a h⟩
  · rw [if_neg (by omega)]
    have h0 := Int.emod_nonneg (-a) (show -b ≠ 0 by omega)
    have h1 := Int.emod_lt_of_pos (-a) (show 0 < -b by omega)
    omega

set_option maxHeartbeats 1000000 in
theorem mod_any (a b : Int) (w : World) (ha : a ≤ 9223372036854775807) (hb : b ≤ 9223372036854775807) :
    Calls Tryd.prog 20 #[.int .i64 a, .int .i64 b] w fun e w' => e = .returned (.tuple #[.int .i64 (modR a b).1, .int .i64 (modR a b).2]) ∧ w' = w := by
  by_cases h1 : -9223372036854775807 ≤ a
  · by_cases h2 : -9223372036854775807 ≤ b
    · by_cases h3 : b = 0
      · rw [show modR a b = (0, 7) from by unfold modR; rw [if_neg (by omega), if_pos h3]]
        subst h3
        go_enter Tryd.func20, Tryd.ntmps20
        go_wp2
        go_ret2
        exact ⟨rfl, rfl⟩
      · rw [show modR a b = (fm a b, 0) from by unfold modR; rw [if_neg (by omega), if_neg h3]]
        have h3' : (b == 0) = false := by simpa using h3
        obtain ⟨t, ht, ht1, ht2, hc⟩ := tmod_cases a b h3 h2 hb
        rcases hc with ⟨c0, hf⟩ | ⟨c1, c2, hf⟩ | ⟨c1, c2, hf⟩ | ⟨c1, c2, hf⟩ | ⟨c1, c2, hf⟩
        · rw [show fm a b = t by omega]
          have h5 : (t != 0) = false := by simp; omega
          clear hf c0
          go_enter Tryd.func20, Tryd.ntmps20
          go_wp2
          go_ret2
          exact ⟨rfl, rfl⟩
        · rw [hf]
          clear hf h3
          have h5 : (t != 0) = true := by simp; omega
          have h6 : decide (b < 0) = true := by simp; omega
          have h7 : decide (t < 0) = true := by simp; omega
          go_enter Tryd.func20, Tryd.ntmps20
          go_wp2
          go_ret2
          exact ⟨rfl, rfl⟩
        · rw [hf]
          clear hf h3
          have h5 : (t != 0) = true := by simp; omega
          have h6 : decide (b < 0) = false := by simp; omega
          have h7 : decide (t < 0) = true := by simp; omega
          go_enter Tryd.func20, Tryd.ntmps20
          go_wp2
          go_ret2
          exact ⟨rfl, rfl⟩
        · rw [hf]
          clear hf h3
          have h5 : (t != 0) = true := by simp; omega
          have h6 : decide (b < 0) = false := by simp; omega
          have h7 : decide (t < 0) = false := by simp; omega
          go_enter Tryd.func20, Tryd.ntmps20
          go_wp2
          go_ret2
          exact ⟨rfl, rfl⟩
        · rw [hf]
          clear hf h3
          have h5 : (t != 0) = true := by simp; omega
          have h6 : decide (b < 0) = true := by simp; omega
          have h7 : decide (t < 0) = false := by simp; omega
          go_enter Tryd.func20, Tryd.ntmps20
          go_wp2
          go_ret2
          exact ⟨rfl, rfl⟩
    · rw [show modR a b = (0, 6) from by unfold modR; rw [if_pos (by omega)]]
      go_enter Tryd.func20, Tryd.ntmps20
      go_wp2
      go_ret2
      exact ⟨rfl, rfl⟩
  · rw [show modR a b = (0, 6) from by unfold modR; rw [if_pos (by omega)]]
    go_enter Tryd.func20, Tryd.ntmps20
    go_wp2
    go_ret2
    exact ⟨rfl, rfl⟩
end Go.Proofs.YtjbkjeabobccaaaDoor
