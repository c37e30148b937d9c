import Derived.Test.YtjbkjeabobccaaaDoorNumBig18
namespace Go.Proofs.YtjbkjeabobccaaaDoor
open Go.RowKit
set_option linter.unusedVariables false

/-- The two boxes, in a later world. -/
def Bx (w1 w2 w9 : World) (c : Option Addr) (l k : Nat) (q : Bool) (c' : Option Addr) (l' k' : Nat) (q' : Bool) : Prop :=
  w9.cell? ⟨w1.heap.size, 0, none⟩ = some (.slice c l k) ∧ w9.cell? ⟨w1.heap.size, 1, none⟩ = some (.bool q) ∧ w9.cell? ⟨w2.heap.size, 0, none⟩ = some (.slice c' l' k') ∧ w9.cell? ⟨w2.heap.size, 1, none⟩ = some (.bool q')
theorem bx_of {w1 w2 W w9 : World} {c c' : Option Addr} {l k l' k' : Nat} {q q' : Bool} (h1 : w2.heap[w1.heap.size]? = some (.cells #[.slice c l k, .bool q] 49 (0, 0)))
    (hW : Below (w2.alloc (.cells #[.slice c' l' k', .bool q'] 49)).heap.size (w2.alloc (.cells #[.slice c' l' k', .bool q'] 49)) w9) : Bx w1 w2 w9 c l k q c' l' k' q' := by
  obtain ⟨b2, _⟩ := box1 (W := w2.alloc (.cells #[.slice c' l' k', .bool q'] 49)) rfl hW
  have b1 : w9.heap[w1.heap.size]? = some (.cells #[.slice c l k, .bool q] 49 (0, 0)) := newbox2 h1 ((gr3 w2 _).trans (hW.mono (gr3 w2 _).size))
  exact ⟨two_cell0 b1, two_cell1 b1, two_cell0 b2, two_cell1 b2⟩

set_option maxHeartbeats 8000000 in
set_option maxRecDepth 100000 in
theorem work_div (a b : Int) (w : World) (ha1 : -9223372036854775807 ≤ a) (ha2 : a ≤ 9223372036854775807) (hb1 : -9223372036854775807 ≤ b) (hb2 : b ≤ 9223372036854775807) (hb0 : b ≠ 0) :
    Calls Tryd.prog 16 #[.int .u8 47, .int .i64 a, .int .i64 b] w fun e w' => e = .returned (.tuple #[.int .i64 (tz (nearZ (a * 1000000) b)).1, .int .i64 (tz (nearZ (a * 1000000) b)).2]) ∧ Below w.heap.size w w' := by
  have c1 := hidd (two_of a b w ha1 ha2 hb1 hb2)
  have HM := hidd (mul_lt ha1 ha2 (y := 1000000) (by omega) (by omega))
  have HL : Hid (a.natAbs < 10000 ^ 10 ∧ b.natAbs < 10000 ^ 10 ∧ b ≠ 0) := by show _ ∧ _; omega
  have ha : (a == -9223372036854775808) = false := by simp; omega
  have hb : (b == -9223372036854775808) = false := by simp; omega
  have hbz : (b == 0) = false := by simpa using hb0
  clear ha1 ha2 hb1 hb2 hb0
  obtain ⟨R, eR⟩ : ∃ R, tz (nearZ (a * 1000000) b) = R := ⟨_, rfl⟩
  rw [eR]
  have HR := hidd eR
  clear eR
  go_enter Tryd.func16, Tryd.ntmps16
  go_wp2_with fail
  refine c1.out.mono ?_
  rintro e w1 ⟨c, l, k, q, rfl, c2⟩
  go_wp2_with fail
  refine c2.out.mono ?_
  rintro e w2 ⟨c', l', k', q', rfl, H⟩
  have g0 := two_cell0 H.out.box1
  have g1 := two_cell1 H.out.box1
  have g2 := H.out.lt
  have cn : Hid (Calls Tryd.prog 31 #[.int .i64 1000000] (w2.alloc (.cells #[.slice c' l' k', .bool q'] 49)).drew fun e w3 => ∃ c3 l3 k3 q3, e = .returned (.agg #[.slice c3 l3 k3, .bool q3]) ∧ Bx w1 w2 w3 c l k q c' l' k' q' ∧
      Hid (Calls Tryd.prog 34 #[.agg #[.slice c l k, .bool q], .agg #[.slice c3 l3 k3, .bool q3]] w3 fun e w4 => ∃ c4 l4 k4 q4, e = .returned (.agg #[.slice c4 l4 k4, .bool q4]) ∧ Bx w1 w2 w4 c l k q c' l' k' q' ∧
        Hid (Calls Tryd.prog 44 #[.agg #[.slice c4 l4 k4, .bool q4], .agg #[.slice c' l' k', .bool q']] w4 fun e w5 => ∃ c5 l5 k5 q5, e = .returned (.agg #[.slice c5 l5 k5, .bool q5]) ∧ Bx w1 w2 w5 c l k q c' l' k' q' ∧
          Hid (Calls Tryd.prog 43 #[.agg #[.slice c5 l5 k5, .bool q5]] w5 fun e w6 => e = .returned (.tuple #[.int .i64 R.1, .int .i64 R.2]) ∧ Bx w1 w2 w6 c l k q c' l' k' q' ∧ Hid (Below w.heap.size w w6))))) := by
    have hd := gr0 (w2.alloc (.cells #[.slice c' l' k', .bool q'] 49))
    refine (of_boxed 1000000 _ (by omega) (by omega)).mono ?_
    rintro e w3 ⟨c3, l3, k3, q3, rfl, h3, hb3⟩
    have hB3 := hd.trans (hb3.mono hd.size)
    refine ⟨c3, l3, k3, q3, rfl, bx_of (W := w2) H.out.box1 hB3, ?_⟩
    refine (times_any w3 _ _ a 1000000 (H.out.is1.step hB3) h3 (by have := HL.out.1; omega) (by omega)).mono ?_
    rintro e w4 ⟨c4, l4, k4, q4, rfl, h4, hb4⟩
    have hB4 := hB3.trans (hb4.mono hB3.size)
    refine ⟨c4, l4, k4, q4, rfl, bx_of (W := w2) H.out.box1 hB4, ?_⟩
    refine (nearest_any w4 _ _ (a * 1000000) b h4 (H.out.is2.step hB4) (by have := HM.out; omega) (by have := HL.out.2.1; omega) HL.out.2.2).mono ?_
    rintro e w5 ⟨c5, l5, k5, q5, rfl, h5, hb5⟩
    have hB5 := hB4.trans (hb5.mono hB4.size)
    refine ⟨c5, l5, k5, q5, rfl, bx_of (W := w2) H.out.box1 hB5, ?_⟩
    have ct := told_any w5 c5 l5 k5 q5 _ h5 (len_small _ (by
      unfold nearZ
      rw [sq_abs]
      have := near_le (a * 1000000).natAbs b.natAbs (by have := HL.out.2.2; omega)
      have := HM.out
      omega))
    rw [HR.out] at ct
    refine ct.mono ?_
    rintro e w6 ⟨rfl, hb6⟩
    have hB6 := hB5.trans (hb6.mono hB5.size)
    exact ⟨rfl, bx_of (W := w2) H.out.box1 hB6, key2 H.out.below hB6⟩
  go_wp2_with fail
  go_region_held2 (fun w' => w'.cell? ⟨w1.heap.size, 0, none⟩ = some (.slice c l k) ∧ w'.cell? ⟨w1.heap.size, 1, none⟩ = some (.bool q) ∧ w'.cell? ⟨w2.heap.size, 0, none⟩ = some (.slice c' l' k') ∧ w'.cell? ⟨w2.heap.size, 1, none⟩ = some (.bool q')) (go_keep)
    (first | (go_at_call 31; refine cn.out.mono ?_; rintro e w3 ⟨c3, l3, k3, q3, rfl, ⟨p0, p1, p2, p3⟩, cs⟩) | (go_at_call 34; refine cs.out.mono ?_; rintro e w4 ⟨c4, l4, k4, q4, rfl, ⟨r0, r1, r2, r3⟩, ct⟩) | (go_at_call 44; refine ct.out.mono ?_; rintro e w5 ⟨c5, l5, k5, q5, rfl, ⟨s0, s1, s2, s3⟩, cu⟩) | (go_at_call 43; refine cu.out.mono ?_; rintro e w6 ⟨rfl, ⟨t0, t1, t2, t3⟩, HB⟩))
  all_goals
    go_wp2_with fail
    go_ret2
    exact ⟨rfl, HB.out⟩

set_option maxHeartbeats 8000000 in
theorem work_zero (op a : Int) (w : World) (hop : op = 47 ∨ op = 109) (ha1 : -9223372036854775807 ≤ a) (ha2 : a ≤ 9223372036854775807) :
    Calls Tryd.prog 16 #[.int .u8 op, .int .i64 a, .int .i64 0] w fun e w' => e = .returned (.tuple #[.int .i64 0, .int .i64 7]) ∧ Below w.heap.size w w' := by
  have c1 := hidd (two_of a 0 w ha1 ha2 (by omega) (by omega))
  have ha : (a == -9223372036854775808) = false := by simp; omega
  clear ha1 ha2
  rcases hop with rfl | rfl
  all_goals
    go_enter Tryd.func16, Tryd.ntmps16
    go_wp2_with fail
    refine c1.out.mono ?_
    rintro e w1 ⟨c, l, k, q, rfl, c2⟩
    go_wp2_with fail
    refine c2.out.mono ?_
    rintro e w2 ⟨c', l', k', q', rfl, H⟩
    go_wp2_with fail
    go_ret2
    exact ⟨rfl, H.out.below⟩
end Go.Proofs.YtjbkjeabobccaaaDoor
