import Derived.Test.YtjbkjeabobccaabGreatDoorNumDiv
import Derived.Test.YtjbkjeabobccaabGreatDoorNumBase
namespace Go.Proofs.YtjbkjeabobccaabGreatDoor
open Go.RowKit

theorem mul64_int (x y : Int) (w : World) (hx : 0 ≤ x) (hx' : x < 18446744073709551616) (hy : 0 ≤ y) (hy' : y < 18446744073709551616) :
    Calls Tryz.prog 115 #[.int .u64 x, .int .u64 y] w fun e w' => e = .returned (.tuple #[.int .u64 (x * y / 18446744073709551616), .int .u64 (x * y % 18446744073709551616)]) ∧ w' = w := by
  obtain ⟨a, rfl⟩ := Int.eq_ofNat_of_zero_le hx
  obtain ⟨b, rfl⟩ := Int.eq_ofNat_of_zero_le hy
  have := Tryz.bits_Mul64 a b (by omega) (by omega) w
  rw [Int.natCast_ediv, Int.natCast_emod, Int.natCast_mul] at this
  exact this

theorem div64_any (hi lo y : Int) (w : World) (h0 : 0 ≤ hi) (hy : hi < y) (hy' : y < 18446744073709551616) (hl : 0 ≤ lo) (hlo : lo < 18446744073709551616) :
    Calls Tryz.prog 125 #[.int .u64 hi, .int .u64 lo, .int .u64 y] w fun e w' => e = .returned (.tuple #[.int .u64 ((hi * 18446744073709551616 + lo) / y), .int .u64 ((hi * 18446744073709551616 + lo) % y)]) ∧ ∃ n, w' = w.drewN n := by
  obtain ⟨a, rfl⟩ := Int.eq_ofNat_of_zero_le h0
  obtain ⟨b, rfl⟩ := Int.eq_ofNat_of_zero_le hl
  obtain ⟨c, rfl⟩ := Int.eq_ofNat_of_zero_le (show 0 ≤ y by omega)
  by_cases h : 0 < a
  · have := div64_big a b c w h (by omega) (by omega) (by omega)
    rw [Int.natCast_ediv, Int.natCast_emod, Int.natCast_add, Int.natCast_mul] at this
    exact this
  · obtain rfl : a = 0 := by omega
    have := div64_zero b c w (by omega) (by omega) (by omega)
    rw [Int.natCast_ediv, Int.natCast_emod] at this
    simpa using this

/-- p divided by c, to the nearest, of two that are as near to the even one. -/
def near (p c : Int) : Int := if c - p % c < p % c ∨ (p % c = c - p % c ∧ p / c % 2 = 1) then p / c + 1 else p / c
def signed (m : Int) (below : Bool) : Int × Int := if m ≤ 9223372036854775807 then (if below then -m else m, 0) else (0, 6)
theorem near_ge (p c : Int) : p / c ≤ near p c := by unfold near; split <;> omega

set_option maxHeartbeats 400000 in
theorem withSign_any (m : Int) (below : Bool) (w : World) (h0 : 0 ≤ m) (h1 : m ≤ 9223372036854775807) :
    Calls Tryz.prog 60 #[.int .u64 m, .bool below] w fun e w' => e = .returned (.int .i64 (if below then -m else m)) ∧ w' = w := by
  cases below
  · go_enter Tryz.func60, Tryz.ntmps60
    go_wp2
    go_ret
    exact ⟨rfl, rfl⟩
  · go_enter Tryz.func60, Tryz.ntmps60
    go_wp2
    go_ret
    exact ⟨rfl, rfl⟩

set_option maxHeartbeats 1000000 in
theorem scaled_any (a b c : Int) (below : Bool) (w : World) (ha : 0 ≤ a) (ha' : a < 18446744073709551616) (hb : 0 ≤ b) (hb' : b < 18446744073709551616) (hc : 0 < c) (hc' : c < 18446744073709551616) :
    Calls Tryz.prog 111 #[.int .u64 a, .int .u64 b, .int .u64 c, .bool below] w fun e w' => e = .returned (.tuple #[.int .i64 (signed (near (a * b) c) below).1, .int .i64 (signed (near (a * b) c) below).2]) ∧ ∃ n, w' = w.drewN n := by
  have hp0 : 0 ≤ a * b := Int.mul_nonneg ha hb
  have cm0 := fun w => mul64_int a b w ha ha' hb hb'
  obtain ⟨p, ep⟩ : ∃ p, a * b = p := ⟨_, rfl⟩
  rw [ep] at cm0 hp0 ⊢
  clear ep
  obtain ⟨H, eH⟩ : ∃ H, p / 18446744073709551616 = H := ⟨_, rfl⟩
  obtain ⟨L, eL⟩ : ∃ L, p % 18446744073709551616 = L := ⟨_, rfl⟩
  rw [eH, eL] at cm0
  have hH : 0 ≤ H := by omega
  have hL : 0 ≤ L := by omega
  have hL' : L < 18446744073709551616 := by omega
  have cm : Hid (∀ w, Calls Tryz.prog 115 #[.int .u64 a, .int .u64 b] w fun e w' => e = .returned (.tuple #[.int .u64 H, .int .u64 L]) ∧ w' = w) := cm0
  clear cm0
  have hge := near_ge p c
  by_cases h1 : c ≤ H
  · have hq : 9223372036854775807 < p / c := by
      have : 18446744073709551616 ≤ p / c := by
        rw [Int.le_ediv_iff_mul_le hc]
        omega
      omega
    have er : signed (near p c) below = (0, 6) := if_neg (by omega)
    rw [er]
    clear hge hq er eH eL
    go_enter Tryz.func111, Tryz.ntmps111
    go_wp2_with (go_at_call 115; refine (cm.out _).mono ?_; rintro e w' ⟨rfl, rfl⟩)
    go_ret2
    exact ⟨rfl, 0, rfl⟩
  · have h1' : H < c := by omega
    have cd0 := fun w => div64_any H L c w hH h1' hc' hL hL'
    have ep : H * 18446744073709551616 + L = p := by omega
    rw [ep] at cd0
    have hr0 := Int.emod_nonneg p (show c ≠ 0 by omega)
    have hr1 := Int.emod_lt_of_pos p hc
    have hq0 : 0 ≤ p / c := Int.ediv_nonneg hp0 (by omega)
    have hq1 : p / c < 18446744073709551616 := by
      rw [Int.ediv_lt_iff_lt_mul hc]
      omega
    obtain ⟨q, eq⟩ : ∃ q, p / c = q := ⟨_, rfl⟩
    obtain ⟨r, er⟩ : ∃ r, p % c = r := ⟨_, rfl⟩
    have hn : near p c = if c - r < r ∨ (r = c - r ∧ q % 2 = 1) then q + 1 else q := by unfold near; rw [eq, er]
    rw [eq, er] at cd0
    rw [er] at hr0 hr1
    rw [eq] at hq0 hq1
    rw [hn]
    have cd : Hid (∀ w, Calls Tryz.prog 125 #[.int .u64 H, .int .u64 L, .int .u64 c] w fun e w' => e = .returned (.tuple #[.int .u64 q, .int .u64 r]) ∧ ∃ n, w' = w.drewN n) := cd0
    clear cd0 hge eH eL ep eq er hn h1 hp0
    by_cases h2 : 9223372036854775807 < q
    · have es : ∀ m, q ≤ m → signed m below = (0, 6) := fun m hm => if_neg (by omega)
      rw [es _ (by split <;> omega)]
      clear es
      go_enter Tryz.func111, Tryz.ntmps111
      go_wp2_with (first | (go_at_call 115; refine (cm.out _).mono ?_; rintro e w' ⟨rfl, rfl⟩) | (go_at_call 125; refine (cd.out _).mono ?_; rintro e w' ⟨rfl, n, rfl⟩))
      all_goals (go_ret2; exact ⟨rfl, n, rfl⟩)
    · have h2' : q ≤ 9223372036854775807 := by omega
      by_cases h3 : c - r < r
      · rw [if_pos (.inl h3)]
        by_cases h4 : 9223372036854775807 < q + 1
        · rw [show signed (q + 1) below = (0, 6) from if_neg (by omega)]
          go_enter Tryz.func111, Tryz.ntmps111
          go_wp2_with (first | (go_at_call 115; refine (cm.out _).mono ?_; rintro e w' ⟨rfl, rfl⟩) | (go_at_call 125; refine (cd.out _).mono ?_; rintro e w' ⟨rfl, n, rfl⟩))
          all_goals (go_ret2; exact ⟨rfl, n, rfl⟩)
        · rw [show signed (q + 1) below = (if below then -(q + 1) else q + 1, 0) from if_pos (by omega)]
          have cw : Hid (∀ w, _) := fun w => withSign_any (q + 1) below w (by omega) (by omega)
          go_enter Tryz.func111, Tryz.ntmps111
          go_wp2_with (first | (go_at_call 115; refine (cm.out _).mono ?_; rintro e w' ⟨rfl, rfl⟩) | (go_at_call 125; refine (cd.out _).mono ?_; rintro e w' ⟨rfl, n, rfl⟩) | (go_at_call 60; refine (cw.out _).mono ?_; rintro e w' ⟨rfl, rfl⟩))
          all_goals (go_ret2; exact ⟨rfl, n, rfl⟩)
      · by_cases h5 : r = c - r ∧ q % 2 = 1
        · rw [if_pos (.inr h5)]
          obtain ⟨h6, h7⟩ := h5
          have h6' : (r == c - r) = true := by simpa using h6
          have h7' : (q % 2 == 1) = true := by simpa using h7
          clear h6 h7
          by_cases h4 : 9223372036854775807 < q + 1
          · rw [show signed (q + 1) below = (0, 6) from if_neg (by omega)]
            go_enter Tryz.func111, Tryz.ntmps111
            go_wp2_with (first | (go_at_call 115; refine (cm.out _).mono ?_; rintro e w' ⟨rfl, rfl⟩) | (go_at_call 125; refine (cd.out _).mono ?_; rintro e w' ⟨rfl, n, rfl⟩))
            all_goals (go_ret2; exact ⟨rfl, n, rfl⟩)
          · rw [show signed (q + 1) below = (if below then -(q + 1) else q + 1, 0) from if_pos (by omega)]
            have cw : Hid (∀ w, _) := fun w => withSign_any (q + 1) below w (by omega) (by omega)
            go_enter Tryz.func111, Tryz.ntmps111
            go_wp2_with (first | (go_at_call 115; refine (cm.out _).mono ?_; rintro e w' ⟨rfl, rfl⟩) | (go_at_call 125; refine (cd.out _).mono ?_; rintro e w' ⟨rfl, n, rfl⟩) | (go_at_call 60; refine (cw.out _).mono ?_; rintro e w' ⟨rfl, rfl⟩))
            all_goals (go_ret2; exact ⟨rfl, n, rfl⟩)
        · rw [if_neg (by omega), show signed q below = (if below then -q else q, 0) from if_pos (by omega)]
          have cw : Hid (∀ w, _) := fun w => withSign_any q below w (by omega) (by omega)
          by_cases h6 : r = c - r
          · have h6' : (r == c - r) = true := by simpa using h6
            have h7' : (q % 2 == 1) = false := by simp; omega
            clear h6 h5
            go_enter Tryz.func111, Tryz.ntmps111
            go_wp2_with (first | (go_at_call 115; refine (cm.out _).mono ?_; rintro e w' ⟨rfl, rfl⟩) | (go_at_call 125; refine (cd.out _).mono ?_; rintro e w' ⟨rfl, n, rfl⟩) | (go_at_call 60; refine (cw.out _).mono ?_; rintro e w' ⟨rfl, rfl⟩))
            all_goals (go_ret2; exact ⟨rfl, n, rfl⟩)
          · have h6' : (r == c - r) = false := by simpa using h6
            clear h6 h5
            go_enter Tryz.func111, Tryz.ntmps111
            go_wp2_with (first | (go_at_call 115; refine (cm.out _).mono ?_; rintro e w' ⟨rfl, rfl⟩) | (go_at_call 125; refine (cd.out _).mono ?_; rintro e w' ⟨rfl, n, rfl⟩) | (go_at_call 60; refine (cw.out _).mono ?_; rintro e w' ⟨rfl, rfl⟩))
            all_goals (go_ret2; exact ⟨rfl, n, rfl⟩)
end Go.Proofs.YtjbkjeabobccaabGreatDoor
