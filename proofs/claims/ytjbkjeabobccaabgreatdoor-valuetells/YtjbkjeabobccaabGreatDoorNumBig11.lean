import Derived.Test.YtjbkjeabobccaabGreatDoorNumBig10
namespace Go.Proofs.YtjbkjeabobccaabGreatDoor
open Go.RowKit
set_option linter.unusedVariables false

set_option maxHeartbeats 8000000 in
theorem work_minus (a b : Int) (w : World) (ha1 : -9223372036854775807 ≤ a) (ha2 : a ≤ 9223372036854775807) (hb1 : -9223372036854775807 ≤ b) (hb2 : b ≤ 9223372036854775807) :
    Calls Tryz.prog 53 #[.int .u8 45, .int .i64 a, .int .i64 b] w fun e w' => e = .returned (.tuple #[.int .i64 (tz (a - b)).1, .int .i64 (tz (a - b)).2]) ∧ Below w.heap.size w w' := by
  have c1 := hidd (two_of a b w ha1 ha2 hb1 hb2)
  have HL : Hid (a.natAbs + (-b).natAbs < 10000 ^ 10 ∧ 9223372036854775807 + (a + -b).natAbs < 10000 ^ 10) := by show _ ∧ _; omega
  have ha : (a == -9223372036854775808) = false := by simp; omega
  have hb : (b == -9223372036854775808) = false := by simp; omega
  have hab : a - b = a + -b := by omega
  rw [hab]
  clear ha1 ha2 hb1 hb2 hab
  go_enter Tryz.func53, Tryz.ntmps53
  go_wp2_with fail
  refine c1.out.mono ?_
  rintro e w1 ⟨c, l, k, q, rfl, c2⟩
  go_wp2_with fail
  refine c2.out.mono ?_
  rintro e w2 ⟨c', l', k', q', rfl, H⟩
  have g0 := two_cell0 H.out.box1
  have g1 := two_cell1 H.out.box1
  have g2 := H.out.lt
  have cn : Hid (Calls Tryz.prog 66 #[.agg #[.slice c' l' k', .bool q']] (w2.alloc (.cells #[.slice c' l' k', .bool q'] 91)).drew fun e w3 => ∃ c3 l3 k3 q3, e = .returned (.agg #[.slice c3 l3 k3, .bool q3]) ∧
      w3.cell? ⟨w1.heap.size, 0, none⟩ = some (.slice c l k) ∧ w3.cell? ⟨w1.heap.size, 1, none⟩ = some (.bool q) ∧ w3.cell? ⟨w2.heap.size, 0, none⟩ = some (.slice c' l' k') ∧ w3.cell? ⟨w2.heap.size, 1, none⟩ = some (.bool q') ∧
      Hid (Calls Tryz.prog 64 #[.agg #[.slice c l k, .bool q], .agg #[.slice c3 l3 k3, .bool q3]] w3 fun e w4 => ∃ c4 l4 k4 q4, e = .returned (.agg #[.slice c4 l4 k4, .bool q4]) ∧
        w4.cell? ⟨w1.heap.size, 0, none⟩ = some (.slice c l k) ∧ w4.cell? ⟨w1.heap.size, 1, none⟩ = some (.bool q) ∧ w4.cell? ⟨w2.heap.size, 0, none⟩ = some (.slice c' l' k') ∧ w4.cell? ⟨w2.heap.size, 1, none⟩ = some (.bool q') ∧
        Hid (Calls Tryz.prog 88 #[.agg #[.slice c4 l4 k4, .bool q4]] w4 fun e w5 => e = .returned (.tuple #[.int .i64 (tz (a + -b)).1, .int .i64 (tz (a + -b)).2]) ∧
          w5.cell? ⟨w1.heap.size, 0, none⟩ = some (.slice c l k) ∧ w5.cell? ⟨w1.heap.size, 1, none⟩ = some (.bool q) ∧ w5.cell? ⟨w2.heap.size, 0, none⟩ = some (.slice c' l' k') ∧ w5.cell? ⟨w2.heap.size, 1, none⟩ = some (.bool q') ∧ Hid (Below w.heap.size w w5)))) := by
    have hs := H.out.is1
    have hd := gr0 (w2.alloc (.cells #[.slice c' l' k', .bool q'] 91))
    have hbx : ∀ w9, Below (w2.alloc (.cells #[.slice c' l' k', .bool q'] 91)).drew.heap.size (w2.alloc (.cells #[.slice c' l' k', .bool q'] 91)).drew w9 →
        w9.cell? ⟨w1.heap.size, 0, none⟩ = some (.slice c l k) ∧ w9.cell? ⟨w1.heap.size, 1, none⟩ = some (.bool q) ∧ w9.cell? ⟨w2.heap.size, 0, none⟩ = some (.slice c' l' k') ∧ w9.cell? ⟨w2.heap.size, 1, none⟩ = some (.bool q') := fun w9 h9 => by
      obtain ⟨b2, _⟩ := box1 (W := World.drew _) rfl h9
      have b1 : w9.heap[w1.heap.size]? = some (.cells #[.slice c l k, .bool q] 91 (0, 0)) := newbox2 H.out.box1 ((gr1 w2 _).trans (h9.mono (gr1 w2 _).size))
      exact ⟨two_cell0 b1, two_cell1 b1, two_cell0 b2, two_cell1 b2⟩
    refine (neg_boxed _ _ b (H.out.is2.step hd)).mono ?_
    rintro e w3 ⟨c3, l3, k3, q3, rfl, h3, hb3⟩
    obtain ⟨p0, p1, p2, p3⟩ := hbx w3 hb3
    refine ⟨c3, l3, k3, q3, rfl, p0, p1, p2, p3, ?_⟩
    refine (sum_boxed w3 _ _ a (-b) ((H.out.is1.step hd).step hb3) h3 (len_small _ (by have := HL.out.1; omega))).mono ?_
    rintro e w4 ⟨c4, l4, k4, q4, rfl, h4, hb4⟩
    have hb4' := hb3.trans (hb4.mono hb3.size)
    obtain ⟨p0, p1, p2, p3⟩ := hbx w4 hb4'
    refine ⟨c4, l4, k4, q4, rfl, p0, p1, p2, p3, ?_⟩
    refine (told_any w4 c4 l4 k4 q4 (a + -b) h4 (len_small _ (by have := HL.out.2; omega))).mono ?_
    rintro e w5 ⟨rfl, hb5⟩
    have hb5' := hb4'.trans (hb5.mono hb4'.size)
    obtain ⟨p0, p1, p2, p3⟩ := hbx w5 hb5'
    exact ⟨rfl, p0, p1, p2, p3, key2 (key2 H.out.below hd) hb5'⟩
  go_wp2_with fail
  go_region_held2 (fun w' => w'.cell? ⟨w1.heap.size, 0, none⟩ = some (.slice c l k) ∧ w'.cell? ⟨w1.heap.size, 1, none⟩ = some (.bool q) ∧ w'.cell? ⟨w2.heap.size, 0, none⟩ = some (.slice c' l' k') ∧ w'.cell? ⟨w2.heap.size, 1, none⟩ = some (.bool q')) (go_keep)
    (first | (go_at_call 66; refine cn.out.mono ?_; rintro e w3 ⟨c3, l3, k3, q3, rfl, p0, p1, p2, p3, cs⟩) | (go_at_call 64; refine cs.out.mono ?_; rintro e w4 ⟨c4, l4, k4, q4, rfl, r0, r1, r2, r3, ct⟩) | (go_at_call 88; refine ct.out.mono ?_; rintro e w5 ⟨rfl, s0, s1, s2, s3, HB⟩))
  all_goals
    go_wp2_with fail
    go_ret2
    exact ⟨rfl, HB.out⟩

set_option maxHeartbeats 1000000 in
theorem work_bad (op a b : Int) (w : World) (h : a = -9223372036854775808 ∨ b = -9223372036854775808) :
    Calls Tryz.prog 53 #[.int .u8 op, .int .i64 a, .int .i64 b] w fun e w' => e = .returned (.tuple #[.int .i64 0, .int .i64 6]) ∧ w' = w := by
  by_cases ha : a = -9223372036854775808
  · have ha' : (a == -9223372036854775808) = true := by simpa using ha
    clear h ha
    go_enter Tryz.func53, Tryz.ntmps53
    go_wp2_with fail
    go_ret2
    exact ⟨rfl, rfl⟩
  · have ha' : (a == -9223372036854775808) = false := by simpa using ha
    have hb' : (b == -9223372036854775808) = true := by simp; omega
    clear h ha
    go_enter Tryz.func53, Tryz.ntmps53
    go_wp2_with fail
    go_ret2
    exact ⟨rfl, rfl⟩

end Go.Proofs.YtjbkjeabobccaabGreatDoor
