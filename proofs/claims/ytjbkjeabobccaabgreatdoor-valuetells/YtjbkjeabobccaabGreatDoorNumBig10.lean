import Derived.Test.YtjbkjeabobccaabGreatDoorNumBig9
namespace Go.Proofs.YtjbkjeabobccaabGreatDoor
open Go.RowKit
set_option linter.unusedVariables false

/-- A whole number as an answer: itself and no error, or 0 and the error 6. -/
def tz (z : Int) : Int × Int := if -9223372036854775807 ≤ z ∧ z ≤ 9223372036854775807 then (z, 0) else (0, 6)

set_option maxHeartbeats 4000000 in
theorem told_any (w : World) (a : Option Addr) (la ca : Nat) (m : Bool) (z : Int) (hv : BigIs w (.agg #[.slice a la ca, .bool m]) z) (hl : (repr (9223372036854775807 + z.natAbs)).length ≤ 1000000000000) :
    Calls Tryz.prog 88 #[.agg #[.slice a la ca, .bool m]] w fun e w' => e = .returned (.tuple #[.int .i64 (tz z).1, .int .i64 (tz z).2]) ∧ Below w.heap.size w w' := by
  have hbel : Below w.heap.size w (w.alloc (.cells #[.slice a la ca, .bool m] 91)) := (Below.refl _ _).alloc (Nat.le_refl _) _
  by_cases h : -9223372036854775807 ≤ z ∧ z ≤ 9223372036854775807
  · rw [show tz z = (z, 0) from if_pos h]
    have ci := hidd (int_in _ a la ca m z (hv.step hbel) hl h.2 h.1)
    clear h hv hl
    go_enter Tryz.func88, Tryz.ntmps88
    go_wp2_with fail
    refine ci.out.mono ?_
    rintro e w1 ⟨rfl, hb1⟩
    go_wp2_with fail
    go_ret2
    exact ⟨rfl, key2 hbel hb1⟩
  · rw [show tz z = (0, 6) from if_neg h]
    have ci := hidd (int_out _ a la ca m z (hv.step hbel) hl (by omega))
    clear h hv hl
    go_enter Tryz.func88, Tryz.ntmps88
    go_wp2_with fail
    refine ci.out.mono ?_
    rintro e w1 ⟨rfl, hb1⟩
    go_wp2_with fail
    go_ret2
    exact ⟨rfl, key2 hbel hb1⟩

theorem len_small (x : Nat) (h : x < 10000 ^ 40) : (repr x).length ≤ 1000000000000 := Nat.le_trans (repr_len_le 40 x h) (by omega)

/-- A number made and boxed. -/
theorem of_boxed (n : Int) (w : World) (h1 : -9223372036854775807 ≤ n) (h2 : n ≤ 9223372036854775807) :
    Calls Tryz.prog 62 #[.int .i64 n] w fun e w1 => ∃ c l k q, e = .returned (.agg #[.slice c l k, .bool q]) ∧ BigIs w1 (.agg #[.slice c l k, .bool q]) n ∧ Below w.heap.size w w1 := by
  refine (of_any n w h1 h2).mono ?_
  rintro e w1 ⟨⟨v, rfl, hv⟩, hb⟩
  obtain ⟨c, k, ev, hR⟩ := id hv
  exact ⟨c, _, k, _, by rw [ev], by rw [← ev]; exact hv, hb⟩
theorem sum_boxed (w : World) (u v : Value) (x y : Int) (hu : BigIs w u x) (hv : BigIs w v y) (hl : (repr (x.natAbs + y.natAbs)).length ≤ 1000000000000) :
    Calls Tryz.prog 64 #[u, v] w fun e w1 => ∃ c l k q, e = .returned (.agg #[.slice c l k, .bool q]) ∧ BigIs w1 (.agg #[.slice c l k, .bool q]) (x + y) ∧ Below w.heap.size w w1 := by
  refine (sum_any w u v x y hu hv hl).mono ?_
  rintro e w1 ⟨⟨v, rfl, hv⟩, hb⟩
  obtain ⟨c, k, ev, hR⟩ := id hv
  exact ⟨c, _, k, _, by rw [ev], by rw [← ev]; exact hv, hb⟩
theorem neg_boxed (w : World) (v : Value) (z : Int) (h : BigIs w v z) :
    Calls Tryz.prog 66 #[v] w fun e w1 => ∃ c l k q, e = .returned (.agg #[.slice c l k, .bool q]) ∧ BigIs w1 (.agg #[.slice c l k, .bool q]) (-z) ∧ Below w.heap.size w w1 := by
  refine (neg_any w v z h).mono ?_
  rintro e w1 ⟨⟨v, rfl, hv⟩, hb⟩
  obtain ⟨c, k, ev, hR⟩ := id hv
  exact ⟨c, _, k, _, by rw [ev], by rw [← ev]; exact hv, hb⟩

/-- The two numbers made and boxed: what stands when both are there. -/
structure Two (w w1 w2 : World) (c : Option Addr) (l k : Nat) (q : Bool) (c' : Option Addr) (l' k' : Nat) (q' : Bool) (x y : Int) : Prop where
  below : Below w.heap.size w (w2.alloc (.cells #[.slice c' l' k', .bool q'] 91))
  lt : w1.heap.size < w2.heap.size
  box1 : w2.heap[w1.heap.size]? = some (.cells #[.slice c l k, .bool q] 91 (0, 0))
  is1 : BigIs (w2.alloc (.cells #[.slice c' l' k', .bool q'] 91)) (.agg #[.slice c l k, .bool q]) x
  is2 : BigIs (w2.alloc (.cells #[.slice c' l' k', .bool q'] 91)) (.agg #[.slice c' l' k', .bool q']) y
theorem two_of (a b : Int) (w : World) (ha1 : -9223372036854775807 ≤ a) (ha2 : a ≤ 9223372036854775807) (hb1 : -9223372036854775807 ≤ b) (hb2 : b ≤ 9223372036854775807) :
    Calls Tryz.prog 62 #[.int .i64 a] w fun e w1 => ∃ c l k q, e = .returned (.agg #[.slice c l k, .bool q]) ∧
      Hid (Calls Tryz.prog 62 #[.int .i64 b] (w1.alloc (.cells #[.slice c l k, .bool q] 91)) fun e w2 => ∃ c' l' k' q', e = .returned (.agg #[.slice c' l' k', .bool q']) ∧ Hid (Two w w1 w2 c l k q c' l' k' q' a b)) := by
  refine (of_boxed a w ha1 ha2).mono ?_
  rintro e w1 ⟨c, l, k, q, rfl, h1, hB1⟩
  refine ⟨c, l, k, q, rfl, ?_⟩
  refine (of_boxed b _ hb1 hb2).mono ?_
  rintro e w2 ⟨c', l', k', q', rfl, h2, hB2⟩
  have hg := gr3 w1 (.cells #[.slice c l k, .bool q] 91)
  obtain ⟨g1, g2⟩ := box1 rfl hB2
  have hB := hg.trans (hB2.mono hg.size)
  have hA : Below w.heap.size w w2 := key2 hB1 hB
  exact ⟨c', l', k', q', rfl, hA.alloc hA.size _, by omega, g1, (h1.step hB).step (gr3 _ _), h2.step (gr3 _ _)⟩

set_option maxHeartbeats 4000000 in
theorem work_plus (a b : Int) (w : World) (ha1 : -9223372036854775807 ≤ a) (ha2 : a ≤ 9223372036854775807) (hb1 : -9223372036854775807 ≤ b) (hb2 : b ≤ 9223372036854775807) :
    Calls Tryz.prog 53 #[.int .u8 43, .int .i64 a, .int .i64 b] w fun e w' => e = .returned (.tuple #[.int .i64 (tz (a + b)).1, .int .i64 (tz (a + b)).2]) ∧ Below w.heap.size w w' := by
  have c1 := hidd (two_of a b w ha1 ha2 hb1 hb2)
  have HL : Hid (a.natAbs + b.natAbs < 10000 ^ 10 ∧ 9223372036854775807 + (a + b).natAbs < 10000 ^ 10) := by show _ ∧ _; omega
  have ha : (a == -9223372036854775808) = false := by simp; omega
  have hb : (b == -9223372036854775808) = false := by simp; omega
  clear ha1 ha2 hb1 hb2
  go_enter Tryz.func53, Tryz.ntmps53
  go_wp2_with fail
  refine c1.out.mono ?_
  rintro e w1 ⟨c, l, k, q, rfl, c2⟩
  go_wp2_with fail
  refine c2.out.mono ?_
  rintro e w2 ⟨c', l', k', q', rfl, H⟩
  have g0 := two_cell0 H.out.box1
  have g1 := two_cell1 H.out.box1
  have g2 := H.out.lt
  have cs := hidd (sum_boxed _ _ _ a b H.out.is1 H.out.is2 (len_small _ (by have := HL.out.1; omega)))
  go_wp2_with fail
  refine cs.out.mono ?_
  rintro e w3 ⟨c3, l3, k3, q3, rfl, h3, hb3⟩
  have ct := hidd (told_any w3 c3 l3 k3 q3 (a + b) h3 (len_small _ (by have := HL.out.2; omega)))
  clear h3
  go_wp2_with fail
  refine ct.out.mono ?_
  rintro e w4 ⟨rfl, hb4⟩
  go_wp2_with fail
  go_ret2
  exact ⟨rfl, key2 (key2 H.out.below hb3) hb4⟩
end Go.Proofs.YtjbkjeabobccaabGreatDoor
