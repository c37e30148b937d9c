import Derived.Test.YtjbkjeabobccaaaDoorNumBig17
namespace Go.Proofs.YtjbkjeabobccaaaDoor
open Go.RowKit
set_option linter.unusedVariables false

/-- So much, with or without a sign. -/
def sq (s : Bool) (Q : Nat) : Int := if s then -(Q : Int) else Q
theorem sq_abs (s : Bool) (Q : Nat) : (sq s Q).natAbs = Q := by cases s <;> simp [sq]
theorem sq_neg (s : Bool) (Q : Nat) : decide (sq s Q < 0) = (s && decide (Q ≠ 0)) := by
  cases s
  · simp [sq]
  · simp only [sq, if_true, Bool.true_and]
    exact decide_eq_decide.2 (by omega)
def opp (x y : Int) : Bool := decide (x < 0) != decide (y < 0)
def nearZ (x y : Int) : Int := sq (opp x y) (nearN x.natAbs y.natAbs)
def downQ (s : Bool) (x y : Nat) : Nat := if s && decide (x / y * y ≠ x) then x / y + 1 else x / y
def downZ (x y : Int) : Int := sq (opp x y) (downQ (opp x y) x.natAbs y.natAbs)

theorem nearest_any (w : World) (u v : Value) (x y : Int) (hu : BigIs w u x) (hv : BigIs w v y) (hx : x.natAbs < 10000 ^ 30) (hy : y.natAbs < 10000 ^ 30) (h0 : y ≠ 0) :
    Calls Tryd.prog 44 #[u, v] w fun e w1 => ∃ c l k q, e = .returned (.agg #[.slice c l k, .bool q]) ∧ BigIs w1 (.agg #[.slice c l k, .bool q]) (nearZ x y) ∧ Below w.heap.size w w1 := by
  obtain ⟨a, ca, rfl, ha⟩ := hu
  obtain ⟨b, cb, rfl, hb⟩ := hv
  refine (nearest_rows w a b ca cb _ _ _ _ ha hb hx hy (by omega) _ rfl).mono ?_
  rintro e w1 ⟨⟨c, k, rfl, hR⟩, hB⟩
  refine ⟨c, _, k, _, rfl, ⟨c, k, ?_, ?_⟩, hB⟩
  · unfold nearZ opp; rw [sq_neg, sq_abs]
  · unfold nearZ opp; rw [sq_abs]; exact hR
theorem down_any (w : World) (u v : Value) (x y : Int) (hu : BigIs w u x) (hv : BigIs w v y) (hx : x.natAbs < 10000 ^ 30) (hy : y.natAbs < 10000 ^ 30) (h0 : y ≠ 0) :
    Calls Tryd.prog 45 #[u, v] w fun e w1 => ∃ c l k q, e = .returned (.agg #[.slice c l k, .bool q]) ∧ BigIs w1 (.agg #[.slice c l k, .bool q]) (downZ x y) ∧ Below w.heap.size w w1 := by
  obtain ⟨a, ca, rfl, ha⟩ := hu
  obtain ⟨b, cb, rfl, hb⟩ := hv
  refine (down_rows w a b ca cb _ _ _ _ ha hb hx hy (by omega) _ rfl).mono ?_
  rintro e w1 ⟨⟨c, k, rfl, hR⟩, hB⟩
  refine ⟨c, _, k, _, rfl, ⟨c, k, ?_, ?_⟩, hB⟩
  · unfold downZ opp downQ; rw [sq_neg, sq_abs]
  · unfold downZ opp downQ; rw [sq_abs]; exact hR

theorem near_le (x y : Nat) (hy : 0 < y) : nearN x y ≤ x + 1 := by
  unfold nearN
  have : x / y ≤ x := Nat.div_le_self _ _
  split <;> omega
theorem mul_lt {x y : Int} (hx1 : -9223372036854775807 ≤ x) (hx2 : x ≤ 9223372036854775807) (hy1 : -9223372036854775807 ≤ y) (hy2 : y ≤ 9223372036854775807) : (x * y).natAbs < 10000 ^ 10 := by
  rw [Int.natAbs_mul]
  have h1 : x.natAbs ≤ 9223372036854775807 := by omega
  have h2 : y.natAbs ≤ 9223372036854775807 := by omega
  have := Nat.mul_le_mul h1 h2
  omega

set_option maxHeartbeats 8000000 in
set_option maxRecDepth 100000 in
theorem work_times (a b : Int) (w : World) (ha1 : -9223372036854775807 ≤ a) (ha2 : a ≤ 9223372036854775807) (hb1 : -9223372036854775807 ≤ b) (hb2 : b ≤ 9223372036854775807) :
    Calls Tryd.prog 16 #[.int .u8 42, .int .i64 a, .int .i64 b] w fun e w' => e = .returned (.tuple #[.int .i64 (tz (nearZ (a * b) 1000000)).1, .int .i64 (tz (nearZ (a * b) 1000000)).2]) ∧ Below w.heap.size w w' := by
  have c1 := hidd (two_of a b w ha1 ha2 hb1 hb2)
  have HM := hidd (mul_lt ha1 ha2 hb1 hb2)
  have HL : Hid (a.natAbs < 10000 ^ 10 ∧ b.natAbs < 10000 ^ 10) := by show _ ∧ _; omega
  have ha : (a == -9223372036854775808) = false := by simp; omega
  have hb : (b == -9223372036854775808) = false := by simp; omega
  clear ha1 ha2 hb1 hb2
  obtain ⟨R, eR⟩ : ∃ R, tz (nearZ (a * b) 1000000) = R := ⟨_, rfl⟩
  rw [eR]
  have HR := hidd eR
  clear eR
  go_enter Tryd.func16, Tryd.ntmps16
  go_wp2_with fail
  refine c1.out.mono ?_
  rintro e w1 ⟨c, l, k, q, rfl, c2⟩
  go_wp2_with fail
  refine c2.out.mono ?_
  rintro e w2 ⟨c', l', k', q', rfl, H⟩
  have g0 := two_cell0 H.out.box1
  have g1 := two_cell1 H.out.box1
  have g2 := H.out.lt
  have ct := hidd (times_any _ _ _ a b H.out.is1 H.out.is2 (by have := HL.out.1; omega) (by have := HL.out.2; omega))
  go_wp2_with fail
  refine ct.out.mono ?_
  rintro e w3 ⟨c3, l3, k3, q3, rfl, h3, hb3⟩
  have H3 := hidd h3
  have HB3 := hidd (key2 H.out.below hb3)
  have co := hidd (of_boxed 1000000 w3 (by omega) (by omega))
  clear h3 hb3 ct g0 g1 g2
  go_wp2_with fail
  refine co.out.mono ?_
  rintro e w4 ⟨c4, l4, k4, q4, rfl, h4, hb4⟩
  have cn := hidd (nearest_any w4 _ _ (a * b) 1000000 (H3.out.step hb4) h4 (by have := HM.out; omega) (by omega) (by omega))
  have HB4 := hidd (key2 HB3.out hb4)
  clear h4 hb4 co H3
  go_wp2_with fail
  refine cn.out.mono ?_
  rintro e w5 ⟨c5, l5, k5, q5, rfl, h5, hb5⟩
  have cl := told_any w5 c5 l5 k5 q5 _ h5 (len_small _ (by
    unfold nearZ
    rw [sq_abs]
    have := near_le (a * b).natAbs (1000000 : Int).natAbs (by omega)
    have := HM.out
    omega))
  rw [HR.out] at cl
  have cl := hidd cl
  have HB5 := hidd (key2 HB4.out hb5)
  clear h5 hb5 cn
  go_wp2_with fail
  refine cl.out.mono ?_
  rintro e w6 ⟨rfl, hb6⟩
  go_wp2_with fail
  go_ret2
  exact ⟨rfl, key2 HB5.out hb6⟩
end Go.Proofs.YtjbkjeabobccaaaDoor
