import Derived.Test.YtjbkjeabobccaaaDoorNumBig19
namespace Go.Proofs.YtjbkjeabobccaaaDoor
open Go.RowKit
set_option linter.unusedVariables false

/-- Three boxes, in a later world. -/
def Bx3 (w1 w2 w3 w9 : World) (c : Option Addr) (l k : Nat) (q : Bool) (c' : Option Addr) (l' k' : Nat) (q' : Bool) (d : Option Addr) (m n : Nat) (p : Bool) : Prop :=
  w9.cell? ⟨w1.heap.size, 0, none⟩ = some (.slice c l k) ∧ w9.cell? ⟨w1.heap.size, 1, none⟩ = some (.bool q) ∧ w9.cell? ⟨w2.heap.size, 0, none⟩ = some (.slice c' l' k') ∧ w9.cell? ⟨w2.heap.size, 1, none⟩ = some (.bool q') ∧
  w9.cell? ⟨w3.heap.size, 0, none⟩ = some (.slice d m n) ∧ w9.cell? ⟨w3.heap.size, 1, none⟩ = some (.bool p)

set_option maxHeartbeats 16000000 in
set_option maxRecDepth 100000 in
theorem work_mod (a b : Int) (w : World) (ha1 : -9223372036854775807 ≤ a) (ha2 : a ≤ 9223372036854775807) (hb1 : -9223372036854775807 ≤ b) (hb2 : b ≤ 9223372036854775807) (hb0 : b ≠ 0) (hdz : (downZ a b).natAbs < 10000 ^ 10) (hpz : (downZ a b * b).natAbs < 10000 ^ 12) :
    Calls Tryd.prog 16 #[.int .u8 109, .int .i64 a, .int .i64 b] w fun e w' => e = .returned (.tuple #[.int .i64 (tz (a + -(downZ a b * b))).1, .int .i64 (tz (a + -(downZ a b * b))).2]) ∧ Below w.heap.size w w' := by
  have c1 := hidd (two_of a b w ha1 ha2 hb1 hb2)
  have HL : Hid (a.natAbs < 10000 ^ 10 ∧ b.natAbs < 10000 ^ 10 ∧ b ≠ 0) := by show _ ∧ _; omega
  have HD := hidd hdz
  have HP := hidd hpz
  have ha : (a == -9223372036854775808) = false := by simp; omega
  have hb : (b == -9223372036854775808) = false := by simp; omega
  have hbz : (b == 0) = false := by simpa using hb0
  clear ha1 ha2 hb1 hb2 hb0 hdz hpz
  obtain ⟨R, eR⟩ : ∃ R, tz (a + -(downZ a b * b)) = R := ⟨_, rfl⟩
  rw [eR]
  have HR := hidd eR
  clear eR
  go_enter Tryd.func16, Tryd.ntmps16
  go_wp2_with fail
  refine c1.out.mono ?_
  rintro e w1 ⟨c, l, k, q, rfl, c2⟩
  go_wp2_with fail
  refine c2.out.mono ?_
  rintro e w2 ⟨c', l', k', q', rfl, H⟩
  have g0 := two_cell0 H.out.box1
  have g1 := two_cell1 H.out.box1
  have g2 := H.out.lt
  have cd := hidd (down_any _ _ _ a b H.out.is1 H.out.is2 (by have := HL.out.1; omega) (by have := HL.out.2.1; omega) HL.out.2.2)
  go_wp2_with fail
  refine cd.out.mono ?_
  rintro e w3 ⟨d, m, n, p, rfl, h3, hb3⟩
  have hg2 : w1.heap.size < w3.heap.size := by have := hb3.size; simp at this; omega
  have hg3 : w2.heap.size < w3.heap.size := by have := hb3.size; simp at this; omega
  obtain ⟨e0, e1, e2, e3⟩ := bx_of (W := w2) H.out.box1 hb3
  have HBX : Hid (∀ w9, Below (w3.alloc (.cells #[.slice d m n, .bool p] 49)).heap.size (w3.alloc (.cells #[.slice d m n, .bool p] 49)) w9 → Bx3 w1 w2 w3 w9 c l k q c' l' k' q' d m n p) := fun w9 h9 => by
    obtain ⟨b3, _⟩ := box1 (W := w3.alloc (.cells #[.slice d m n, .bool p] 49)) rfl h9
    have hw := (gr3 w3 _).trans (h9.mono (gr3 w3 (.cells #[.slice d m n, .bool p] 49)).size)
    obtain ⟨f0, f1, f2, f3⟩ := bx_of (W := w2) H.out.box1 (hb3.trans (hw.mono hb3.size))
    exact ⟨f0, f1, f2, f3, two_cell0 b3, two_cell1 b3⟩
  have HB3 := hidd (key2 H.out.below hb3)
  have HI1 := hidd (H.out.is1.step hb3)
  have HI2 := hidd (H.out.is2.step hb3)
  have H3 := hidd h3
  clear h3 hb3 cd g0 g1 g2
  have cn : Hid (Calls Tryd.prog 34 #[.agg #[.slice d m n, .bool p], .agg #[.slice c' l' k', .bool q']] (w3.alloc (.cells #[.slice d m n, .bool p] 49)).drew fun e w4 => ∃ c4 l4 k4 q4, e = .returned (.agg #[.slice c4 l4 k4, .bool q4]) ∧ Bx3 w1 w2 w3 w4 c l k q c' l' k' q' d m n p ∧
      Hid (Calls Tryd.prog 35 #[.agg #[.slice c4 l4 k4, .bool q4]] w4 fun e w5 => ∃ c5 l5 k5 q5, e = .returned (.agg #[.slice c5 l5 k5, .bool q5]) ∧ Bx3 w1 w2 w3 w5 c l k q c' l' k' q' d m n p ∧
        Hid (Calls Tryd.prog 33 #[.agg #[.slice c l k, .bool q], .agg #[.slice c5 l5 k5, .bool q5]] w5 fun e w6 => ∃ c6 l6 k6 q6, e = .returned (.agg #[.slice c6 l6 k6, .bool q6]) ∧ Bx3 w1 w2 w3 w6 c l k q c' l' k' q' d m n p ∧
          Hid (Calls Tryd.prog 43 #[.agg #[.slice c6 l6 k6, .bool q6]] w6 fun e w7 => e = .returned (.tuple #[.int .i64 R.1, .int .i64 R.2]) ∧ Bx3 w1 w2 w3 w7 c l k q c' l' k' q' d m n p ∧ Hid (Below w.heap.size w w7))))) := by
    have h0 := gr3 w3 (.cells #[.slice d m n, .bool p] 49)
    have hd := gr0 (w3.alloc (.cells #[.slice d m n, .bool p] 49))
    refine (times_any _ _ _ (downZ a b) b ((H3.out.step h0).step hd) ((HI2.out.step h0).step hd) (by have := HD.out; omega) (by have := HL.out.2.1; omega)).mono ?_
    rintro e w4 ⟨c4, l4, k4, q4, rfl, h4, hb4⟩
    have hB4 := hd.trans (hb4.mono hd.size)
    refine ⟨c4, l4, k4, q4, rfl, HBX.out _ hB4, ?_⟩
    refine (neg_boxed w4 _ _ h4).mono ?_
    rintro e w5 ⟨c5, l5, k5, q5, rfl, h5, hb5⟩
    have hB5 := hB4.trans (hb5.mono hB4.size)
    refine ⟨c5, l5, k5, q5, rfl, HBX.out _ hB5, ?_⟩
    refine (sum_boxed w5 _ _ a _ ((HI1.out.step h0).step hB5) h5 (len_small _ (by rw [Int.natAbs_neg]; have := HP.out; have := HL.out.1; omega))).mono ?_
    rintro e w6 ⟨c6, l6, k6, q6, rfl, h6, hb6⟩
    have hB6 := hB5.trans (hb6.mono hB5.size)
    refine ⟨c6, l6, k6, q6, rfl, HBX.out _ hB6, ?_⟩
    have ct := told_any w6 c6 l6 k6 q6 _ h6 (len_small _ (by have := HP.out; have := HL.out.1; have := Int.natAbs_add_le a (-(downZ a b * b)); rw [Int.natAbs_neg] at this; omega))
    rw [HR.out] at ct
    refine ct.mono ?_
    rintro e w7 ⟨rfl, hb7⟩
    have hB7 := hB6.trans (hb7.mono hB6.size)
    exact ⟨rfl, HBX.out _ hB7, key2 (key2 HB3.out h0) hB7⟩
  go_wp2_with fail
  go_region_held2 (fun w' => w'.cell? ⟨w1.heap.size, 0, none⟩ = some (.slice c l k) ∧ w'.cell? ⟨w1.heap.size, 1, none⟩ = some (.bool q) ∧ w'.cell? ⟨w2.heap.size, 0, none⟩ = some (.slice c' l' k') ∧ w'.cell? ⟨w2.heap.size, 1, none⟩ = some (.bool q') ∧ w'.cell? ⟨w3.heap.size, 0, none⟩ = some (.slice d m n) ∧ w'.cell? ⟨w3.heap.size, 1, none⟩ = some (.bool p)) (go_keep)
    (first | (go_at_call 34; refine cn.out.mono ?_; rintro e w4 ⟨c4, l4, k4, q4, rfl, ⟨p0, p1, p2, p3, p4, p5⟩, cs⟩) | (go_at_call 35; refine cs.out.mono ?_; rintro e w5 ⟨c5, l5, k5, q5, rfl, ⟨r0, r1, r2, r3, r4, r5⟩, ct⟩) | (go_at_call 33; refine ct.out.mono ?_; rintro e w6 ⟨c6, l6, k6, q6, rfl, ⟨s0, s1, s2, s3, s4, s5⟩, cu⟩) | (go_at_call 43; refine cu.out.mono ?_; rintro e w7 ⟨rfl, ⟨t0, t1, t2, t3, t4, t5⟩, HB⟩))
  all_goals
    go_wp2_with fail
    go_ret2
    exact ⟨rfl, HB.out⟩
end Go.Proofs.YtjbkjeabobccaaaDoor
