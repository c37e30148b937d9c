import Derived.Test.YtjbkjeabobccaaaDoorNumBig20
import Derived.Test.YtjbkjeabobccaaaDoorNumProductsWalk
namespace Go.Proofs.YtjbkjeabobccaaaDoor
open Go.RowKit Go.Sort Go.Lib
set_option linter.unusedVariables false

def divR (a b : Int) : Int × Int := if a < -9223372036854775807 ∨ b < -9223372036854775807 then (0, 6) else if b = 0 then (0, 7) else signed (near ((a.natAbs : Int) * 1000000) b.natAbs) (decide (a < 0) != decide (b < 0))

set_option maxHeartbeats 1000000 in
theorem div_any (a b : Int) (w : World) (ha : a ≤ 9223372036854775807) (hb : b ≤ 9223372036854775807) :
    Calls Tryd.prog 19 #[.int .i64 a, .int .i64 b] w fun e w' => e = .returned (.tuple #[.int .i64 (divR a b).1, .int .i64 (divR a b).2]) ∧ ∃ n, w' = w.drewN n := by
  by_cases h1 : -9223372036854775807 ≤ a
  · have n1 := hidd (fun w => isNumber_yes a w h1)
    by_cases h2 : -9223372036854775807 ≤ b
    · have n2 := hidd (fun w => isNumber_yes b w h2)
      by_cases h0 : b = 0
      · subst h0
        rw [show divR a 0 = (0, 7) from by unfold divR; rw [if_neg (by omega), if_pos rfl]]
        clear h1 h2
        go_enter Tryd.func19, Tryd.ntmps19
        go_wp2_with fail
        refine (n1.out _).mono ?_
        rintro e w' ⟨rfl, rfl⟩
        go_wp2_with fail
        refine (n2.out _).mono ?_
        rintro e w' ⟨rfl, rfl⟩
        go_wp2_with fail
        go_ret2
        exact ⟨rfl, 0, rfl⟩
      · rw [show divR a b = signed (near ((a.natAbs : Int) * 1000000) b.natAbs) (decide (a < 0) != decide (b < 0)) from by unfold divR; rw [if_neg (by omega), if_neg h0]]
        have cs0 := fun sg w => scaled_any (a.natAbs : Int) 1000000 b.natAbs sg w (by omega) (by omega) (by omega) (by omega) (by omega) (by omega)
        have ca0 := fun w => sizeOf_any a w h1 ha
        have cb0 := fun w => sizeOf_any b w h2 hb
        have hbz : (b == 0) = false := by simpa using h0
        obtain ⟨p, ep⟩ : ∃ p, (near ((a.natAbs : Int) * 1000000) b.natAbs) = p := ⟨_, rfl⟩
        rw [ep] at cs0 ⊢
        obtain ⟨x, ex⟩ : ∃ x, (a.natAbs : Int) = x := ⟨_, rfl⟩
        obtain ⟨y, ey⟩ : ∃ x, (b.natAbs : Int) = x := ⟨_, rfl⟩
        rw [ex] at ca0 cs0
        rw [ey] at cb0 cs0
        have cs := hidd cs0
        have ca := hidd ca0
        have cb := hidd cb0
        clear cs0 ca0 cb0 ep ex ey h0
        go_enter Tryd.func19, Tryd.ntmps19
        go_wp2_with fail
        refine (n1.out _).mono ?_
        rintro e w' ⟨rfl, rfl⟩
        go_wp2_with fail
        refine (n2.out _).mono ?_
        rintro e w' ⟨rfl, rfl⟩
        go_wp2_with fail
        refine (ca.out _).mono ?_
        rintro e w' ⟨rfl, rfl⟩
        go_wp2_with fail
        refine (cb.out _).mono ?_
        rintro e w' ⟨rfl, rfl⟩
        go_wp2_with fail
        refine (cs.out _ _).mono ?_
        rintro e w' ⟨rfl, n, rfl⟩
        go_wp2_with fail
        go_ret2
        exact ⟨rfl, n, rfl⟩
    · rw [show divR a b = (0, 6) from if_pos (by omega)]
      have n2 := hidd (fun w => isNumber_no b w (by omega))
      go_enter Tryd.func19, Tryd.ntmps19
      go_wp2_with fail
      refine (n1.out _).mono ?_
      rintro e w' ⟨rfl, rfl⟩
      go_wp2_with fail
      refine (n2.out _).mono ?_
      rintro e w' ⟨rfl, rfl⟩
      go_wp2_with fail
      go_ret2
      exact ⟨rfl, 0, rfl⟩
  · rw [show divR a b = (0, 6) from if_pos (by omega)]
    have n1 := hidd (fun w => isNumber_no a w (by omega))
    go_enter Tryd.func19, Tryd.ntmps19
    go_wp2_with fail
    refine (n1.out _).mono ?_
    rintro e w' ⟨rfl, rfl⟩
    go_wp2_with fail
    go_ret2
    exact ⟨rfl, 0, rfl⟩

theorem divR_eq (a b : Int) (ha1 : -9223372036854775807 ≤ a) (hb1 : -9223372036854775807 ≤ b) (h0 : b ≠ 0) : divR a b = tz (nearZ (a * 1000000) b) := by
  unfold divR nearZ
  rw [if_neg (by omega), if_neg h0, show ((a.natAbs : Int) * 1000000) = (((a * 1000000).natAbs : Nat) : Int) by rw [Int.natAbs_mul]; simp, near_nat _ _ (by omega)]
  symm
  apply tz_sq
  left
  unfold opp
  rw [show decide (a * 1000000 < 0) = decide (a < 0) from decide_eq_decide.2 (by omega)]

theorem emod_is {a b t k : Int} (h0 : 0 ≤ t) (h1 : t < b) (h : a = b * k + t) : a % b = t := by
  rw [h, Int.add_comm, Int.add_mul_emod_self_left, Int.emod_eq_of_lt h0 h1]
theorem down_fm (a b : Int) (h0 : b ≠ 0) : a + -(downZ a b * b) = fm a b := by
  obtain ⟨X, eX⟩ : ∃ X, a.natAbs = X := ⟨_, rfl⟩
  obtain ⟨Y, eY⟩ : ∃ X, b.natAbs = X := ⟨_, rfl⟩
  have hY : 0 < Y := by omega
  have hm := Nat.mod_lt X hY
  have hd := Nat.div_add_mod X Y
  obtain ⟨r, er⟩ : ∃ r, X % Y = r := ⟨_, rfl⟩
  obtain ⟨q, eq⟩ : ∃ r, X / Y = r := ⟨_, rfl⟩
  have hqy : q * Y = Y * q := Nat.mul_comm _ _
  obtain ⟨P, eP⟩ : ∃ P, Y * q = P := ⟨_, rfl⟩
  have ePi : (Y : Int) * (q : Int) = (P : Int) := by rw [← eP]; simp
  unfold downZ downQ
  rw [eX, eY, eq, hqy]
  rw [er, eq, eP] at hd
  rw [er] at hm
  rw [eP]
  unfold opp fm
  by_cases hb : 0 < b
  · have hbY : b = (Y : Int) := by omega
    rw [if_pos hb, show decide (b < 0) = false by simp; omega]
    by_cases ha : a < 0
    · have haX : a = -(X : Int) := by omega
      rw [show decide (a < 0) = true by simpa using ha]
      by_cases hr : P = X
      · rw [show ((true != false) && decide (P ≠ X)) = false by simp [hr]]
        simp only [sq, Bool.true_bne, Bool.not_false, if_true, Bool.false_eq_true, if_false]
        rw [emod_is (t := 0) (k := -(q : Int)) (by omega) (by omega) (by rw [hbY, Int.mul_neg, ePi]; omega), hbY, Int.neg_mul, Int.mul_comm, ePi]
        omega
      · rw [show ((true != false) && decide (P ≠ X)) = true by simp [hr]]
        simp only [sq, Bool.true_bne, Bool.not_false, if_true]
        rw [emod_is (t := (Y : Int) - r) (k := -((q : Int) + 1)) (by omega) (by omega) (by rw [hbY, Int.mul_neg, Int.mul_add, ePi]; omega), hbY]
        rw [show ((q + 1 : Nat) : Int) = (q : Int) + 1 by omega, Int.neg_mul, Int.add_mul, Int.mul_comm (q : Int), ePi]
        omega
    · have haX : a = (X : Int) := by omega
      rw [show decide (a < 0) = false by simpa using ha]
      simp only [bne_self_eq_false, Bool.false_and, sq, Bool.false_eq_true, if_false]
      rw [emod_is (t := (r : Int)) (k := (q : Int)) (by omega) (by omega) (by rw [hbY, ePi]; omega), hbY, Int.mul_comm, ePi]
      omega
  · have hbY : b = -(Y : Int) := by omega
    rw [if_neg hb, show decide (b < 0) = true by simp; omega]
    by_cases ha : a < 0
    · have haX : a = -(X : Int) := by omega
      rw [show decide (a < 0) = true by simpa using ha]
      simp only [bne_self_eq_false, Bool.false_and, sq, Bool.false_eq_true, if_false]
      rw [emod_is (t := (r : Int)) (k := (q : Int)) (by omega) (by omega) (by rw [hbY, Int.neg_neg, ePi]; omega), hbY, Int.mul_neg, Int.mul_comm, ePi]
      omega
    · have haX : a = (X : Int) := by omega
      rw [show decide (a < 0) = false by simpa using ha]
      by_cases hr : P = X
      · rw [show ((false != true) && decide (P ≠ X)) = false by simp [hr]]
        simp only [sq, Bool.false_bne, if_true, Bool.false_eq_true, if_false]
        rw [emod_is (t := 0) (k := -(q : Int)) (by omega) (by omega) (by rw [hbY, Int.neg_neg, Int.mul_neg, ePi]; omega), hbY, Int.neg_mul_neg, Int.mul_comm, ePi]
        omega
      · rw [show ((false != true) && decide (P ≠ X)) = true by simp [hr]]
        simp only [sq, Bool.false_bne, if_true]
        rw [emod_is (t := (Y : Int) - r) (k := -((q : Int) + 1)) (by omega) (by omega) (by rw [hbY, Int.neg_neg, Int.mul_neg, Int.mul_add, ePi]; omega), hbY, Int.neg_mul_neg]
        rw [show ((q + 1 : Nat) : Int) = (q : Int) + 1 by omega, Int.add_mul, Int.mul_comm (q : Int), ePi]
        omega
theorem down_bd (a b : Int) (ha1 : -9223372036854775807 ≤ a) (ha2 : a ≤ 9223372036854775807) (hb1 : -9223372036854775807 ≤ b) (hb2 : b ≤ 9223372036854775807) (h0 : b ≠ 0) : (downZ a b).natAbs < 10000 ^ 10 ∧ (downZ a b * b).natAbs < 10000 ^ 12 := by
  have e : (downZ a b).natAbs ≤ 9223372036854775808 := by
    unfold downZ
    rw [sq_abs]
    unfold downQ
    have : a.natAbs / b.natAbs ≤ a.natAbs := Nat.div_le_self _ _
    split <;> omega
  refine ⟨by omega, ?_⟩
  rw [Int.natAbs_mul]
  have := Nat.mul_le_mul e (show b.natAbs ≤ 9223372036854775807 by omega)
  omega

theorem workDiv (a b : Int) (w : World) (ha1 : -9223372036854775808 ≤ a) (ha2 : a ≤ 9223372036854775807) (hb1 : -9223372036854775808 ≤ b) (hb2 : b ≤ 9223372036854775807) :
    Calls Tryd.prog 16 #[.int .u8 47, .int .i64 a, .int .i64 b] w fun e w' => e = .returned (.tuple #[.int .i64 (divR a b).1, .int .i64 (divR a b).2]) ∧ Below w.heap.size w w' := by
  by_cases h : a = -9223372036854775808 ∨ b = -9223372036854775808
  · rw [show divR a b = (0, 6) from if_pos (by omega)]
    refine (work_bad 47 a b w h).mono ?_
    rintro e w' ⟨rfl, rfl⟩
    exact ⟨rfl, Below.refl _ _⟩
  · by_cases h0 : b = 0
    · subst h0
      rw [show divR a 0 = (0, 7) from by unfold divR; rw [if_neg (by omega), if_pos rfl]]
      exact work_zero 47 a w (.inl rfl) (by omega) ha2
    · rw [divR_eq a b (by omega) (by omega) h0]
      exact work_div a b w (by omega) ha2 (by omega) hb2 h0
theorem workMod (a b : Int) (w : World) (ha1 : -9223372036854775808 ≤ a) (ha2 : a ≤ 9223372036854775807) (hb1 : -9223372036854775808 ≤ b) (hb2 : b ≤ 9223372036854775807) :
    Calls Tryd.prog 16 #[.int .u8 109, .int .i64 a, .int .i64 b] w fun e w' => e = .returned (.tuple #[.int .i64 (modR a b).1, .int .i64 (modR a b).2]) ∧ Below w.heap.size w w' := by
  by_cases h : a = -9223372036854775808 ∨ b = -9223372036854775808
  · rw [show modR a b = (0, 6) from if_pos (by omega)]
    refine (work_bad 109 a b w h).mono ?_
    rintro e w' ⟨rfl, rfl⟩
    exact ⟨rfl, Below.refl _ _⟩
  · by_cases h0 : b = 0
    · subst h0
      rw [show modR a 0 = (0, 7) from by unfold modR; rw [if_neg (by omega), if_pos rfl]]
      exact work_zero 109 a w (.inr rfl) (by omega) ha2
    · have e : modR a b = tz (a + -(downZ a b * b)) := by
        rw [down_fm a b h0]
        unfold modR tz
        have := fm_bd a b h0
        rw [if_neg (by omega), if_neg h0, if_pos (by rcases Int.lt_or_gt_of_ne h0 with h | h; have := this.2 h; omega; have := this.1 h; omega)]
      rw [e]
      obtain ⟨d1, d2⟩ := down_bd a b (by omega) ha2 (by omega) hb2 h0
      exact work_mod a b w (by omega) ha2 (by omega) hb2 h0 d1 d2

set_option maxHeartbeats 2000000 in
theorem numQuotients_walk (a b : Int) (w : World) (hE : Env w) (ha1 : -9223372036854775808 ≤ a) (ha2 : a ≤ 9223372036854775807) (hb1 : -9223372036854775808 ≤ b) (hb2 : b ≤ 9223372036854775807) :
    Calls Tryd.prog 7 #[.int .i64 a, .int .i64 b] w fun e w' => e = .returned (.bool true) ∧ Below w.heap.size w w' := by
  have c1 := fun w => div_any a b w ha2 hb2
  have c2 := fun w => mod_any a b w ha2 hb2
  have c3 := fun w => workDiv a b w ha1 ha2 hb1 hb2
  have c4 := fun w => workMod a b w ha1 ha2 hb1 hb2
  obtain ⟨⟨x, e⟩, ex⟩ : ∃ r, divR a b = r := ⟨_, rfl⟩
  obtain ⟨⟨y, f⟩, ey⟩ : ∃ r, modR a b = r := ⟨_, rfl⟩
  rw [ex] at c1 c3
  rw [ey] at c2 c4
  have d1 := hidd c1
  have d2 := hidd c2
  have d3 := hidd c3
  have d4 := hidd c4
  clear c1 c2 c3 c4 ex ey ha1 ha2 hb1 hb2
  go_enter Tryd.func7, Tryd.ntmps7
  go_wp2_with fail
  refine (d1.out _).mono ?_
  rintro e w' ⟨rfl, n, rfl⟩
  go_wp2_with fail
  refine (d2.out _).mono ?_
  rintro e w' ⟨rfl, rfl⟩
  go_wp2_with fail
  refine (d3.out _).mono ?_
  rintro e w1 ⟨rfl, hb1⟩
  go_wp2_with fail
  refine (d4.out _).mono ?_
  rintro e w2 ⟨rfl, hb2⟩
  have hB := key2 (key2 (bl w n) hb1) hb2
  have al := hidd (alive_any w2 (hE.step hB))
  go_wp2_with (first | (go_at_call 17; refine (same_yes _ _ _).mono ?_; rintro e w' ⟨rfl, rfl⟩) | (go_at_call 11; refine al.out.mono ?_; rintro e w3 ⟨rfl, hb3⟩))
  go_ret
  exact ⟨rfl, key2 hB hb3⟩
end Go.Proofs.YtjbkjeabobccaaaDoor
