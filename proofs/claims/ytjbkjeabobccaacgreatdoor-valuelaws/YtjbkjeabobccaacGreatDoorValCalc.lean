import Derived.Test.YtjbkjeabobccaacGreatDoorValNumber
namespace Go.Proofs.YtjbkjeabobccaacGreatDoor
open Go.RowKit Go.Sort Go.Lib
set_option linter.unusedVariables false

/-- Three boxes of three; the third is the answer's. -/
structure TriB (w wx : World) (T : TypeId) (a1 a2 a3 b1 b2 b3 p q r : Value) : Prop where
  a : wx.heap[w.heap.size]? = some (.cells #[a1, a2, a3] T (0, 0))
  b : wx.heap[w.heap.size + 1]? = some (.cells #[b1, b2, b3] T (0, 0))
  c : wx.heap[w.heap.size + 2]? = some (.cells #[p, q, r] T (0, 0))
  low : Below w.heap.size w wx
theorem TriB.step {w W w1 : World} {T : TypeId} {a1 a2 a3 b1 b2 b3 p q r : Value} (h : TriB w W T a1 a2 a3 b1 b2 b3 p q r) (hb : Below W.heap.size W w1) : TriB w w1 T a1 a2 a3 b1 b2 b3 p q r :=
  ⟨by rw [hb.block _ (lt_blk h.a)]; exact h.a, by rw [hb.block _ (lt_blk h.b)]; exact h.b, by rw [hb.block _ (lt_blk h.c)]; exact h.c, h.low.trans (hb.mono h.low.size)⟩
theorem triB_new (w : World) (T : TypeId) (a1 a2 a3 b1 b2 b3 p q r : Value) (W : World) (hW : W.heap = (((w.alloc (.cells #[a1, a2, a3] T)).alloc (.cells #[b1, b2, b3] T)).alloc (.cells #[p, q, r] T)).heap) (hb : Below w.heap.size w W) : TriB w W T a1 a2 a3 b1 b2 b3 p q r := by
  refine ⟨?_, ?_, ?_, hb⟩
  · rw [hW]; show (((w.heap.push _).push _).push _)[_]? = _
    rw [Array.getElem?_push_lt (by simp; omega), ← Array.getElem?_eq_getElem, Array.getElem?_push_lt (by simp), ← Array.getElem?_eq_getElem, Array.getElem?_push_size]
  · rw [hW]; show (((w.heap.push _).push _).push _)[_]? = _
    rw [Array.getElem?_push_lt (by simp), ← Array.getElem?_eq_getElem, show w.heap.size + 1 = (w.heap.push (.cells #[a1, a2, a3] T)).size by simp, Array.getElem?_push_size]
  · rw [hW]; show (((w.heap.push _).push _).push _)[_]? = _
    rw [show w.heap.size + 2 = ((w.heap.push (.cells #[a1, a2, a3] T)).push (.cells #[b1, b2, b3] T)).size by simp, Array.getElem?_push_size]
theorem TriB.cells {w W : World} {T : TypeId} {a1 a2 a3 b1 b2 b3 p q r : Value} (h : TriB w W T a1 a2 a3 b1 b2 b3 p q r) :
    (W.cell? ⟨w.heap.size, 0, none⟩ = some a1 ∧ W.cell? ⟨w.heap.size, 1, none⟩ = some a2 ∧ W.cell? ⟨w.heap.size, 2, none⟩ = some a3) ∧
    (W.cell? ⟨w.heap.size + 1, 0, none⟩ = some b1 ∧ W.cell? ⟨w.heap.size + 1, 1, none⟩ = some b2 ∧ W.cell? ⟨w.heap.size + 1, 2, none⟩ = some b3) ∧
    (W.cell? ⟨w.heap.size + 2, 0, none⟩ = some p ∧ W.cell? ⟨w.heap.size + 2, 1, none⟩ = some q ∧ W.cell? ⟨w.heap.size + 2, 2, none⟩ = some r) ∧
    (W.frozen? ⟨w.heap.size + 2, 0, none⟩ = false ∧ W.frozen? ⟨w.heap.size + 2, 1, none⟩ = false ∧ W.frozen? ⟨w.heap.size + 2, 2, none⟩ = false) := by
  obtain ⟨a0, a1, a2, a3, a4, a5⟩ := three h.a
  obtain ⟨b0, b1, b2, b3, b4, b5⟩ := three h.b
  obtain ⟨c0, c1, c2, c3, c4, c5⟩ := three h.c
  exact ⟨⟨a0, a1, a2⟩, ⟨b0, b1, b2⟩, ⟨c0, c1, c2⟩, c3, c4, c5⟩
theorem TriB.out {w W : World} {T : TypeId} {a1 a2 a3 b1 b2 b3 p q r : Value} (h : TriB w W T a1 a2 a3 b1 b2 b3 p q r) (x y z : Value) : Below w.heap.size w (((W.setCell ⟨w.heap.size + 2, 0, none⟩ x).setCell ⟨w.heap.size + 2, 1, none⟩ y).setCell ⟨w.heap.size + 2, 2, none⟩ z) :=
  ((h.low.setCell (by simp) _).setCell (by simp) _).setCell (by simp) _
theorem TriB.sets {w W : World} {T : TypeId} {a1 a2 a3 b1 b2 b3 p q r : Value} (h : TriB w W T a1 a2 a3 b1 b2 b3 p q r) :
    (∀ x, (W.setCell ⟨w.heap.size + 2, 0, none⟩ x).cell? ⟨w.heap.size + 2, 0, none⟩ = some x) ∧ (∀ x y, ((W.setCell ⟨w.heap.size + 2, 0, none⟩ x).setCell ⟨w.heap.size + 2, 1, none⟩ y).cell? ⟨w.heap.size + 2, 1, none⟩ = some y) ∧
    (∀ x y z, (((W.setCell ⟨w.heap.size + 2, 0, none⟩ x).setCell ⟨w.heap.size + 2, 1, none⟩ y).setCell ⟨w.heap.size + 2, 2, none⟩ z).cell? ⟨w.heap.size + 2, 2, none⟩ = some z) :=
  three_set h.cells.2.2.1.1 h.cells.2.2.1.2.1 h.cells.2.2.1.2.2

def clampE (n : Int) : Int := if n < 1 ∨ 6 < n then 3 else n
def calcD (E1 E2 R1 R2 : Int) : Int × Int :=
  if E1 ≠ 0 then (4, clampE E1) else if E2 ≠ 0 then (4, clampE E2)
  else if R2 = 0 then (if R1 = -9223372036854775808 then (4, 2) else (1, R1)) else if R2 = 7 then (4, 1) else (4, 2)
theorem fault_clamp (n : Int) (w : World) : Calls Tryz.prog 21 #[.int .i64 n] w fun e w' => e = .returned (.agg #[.int .i64 4, .int .i64 (clampE n), .string ⟨#[]⟩]) ∧ Below w.heap.size w w' := faultValue_any n w

set_option maxHeartbeats 4000000 in
set_option maxRecDepth 100000 in
theorem calculated_Add (K1 N1 : Int) (T1 : ByteArray) (K2 N2 : Int) (T2 : ByteArray) (X E1 Y E2 R1 R2 : Int) (c1 : Cn K1 N1 T1 K1 N1 T1) (c2 : Cn K2 N2 T2 K2 N2 T2) (hx : numI K1 N1 T1 = (X, E1)) (hy : numI K2 N2 T2 = (Y, E2))
    (hg : E1 = 0 → E2 = 0 → ∀ w, Calls Tryz.prog 33 #[.int .i64 X, .int .i64 Y] w fun e w' => e = .returned (.tuple #[.int .i64 R1, .int .i64 R2]) ∧ Below w.heap.size w w') (w : World) (hE : Env w) :
    Calls Tryz.prog 19 #[.func (.func 33) #[] #[], .agg #[.int .i64 K1, .int .i64 N1, .string T1], .agg #[.int .i64 K2, .int .i64 N2, .string T2]] w fun e w' => e = .returned (.agg #[.int .i64 (calcD E1 E2 R1 R2).1, .int .i64 (calcD E1 E2 R1 R2).2, .string ⟨#[]⟩]) ∧ Below w.heap.size w w' := by
  have n10 := fun w hE => number_cn K1 N1 T1 K1 N1 T1 c1 w hE
  have n20 := fun w hE => number_cn K2 N2 T2 K2 N2 T2 c2 w hE
  simp only [hx] at n10
  simp only [hy] at n20
  have n1 := hidv n10
  have n2 := hidv n20
  have HG := hidv hg
  have HE := hidv hE
  clear n10 n20 hx hy hg hE c1 c2
  obtain ⟨D, eD⟩ : ∃ D, calcD E1 E2 R1 R2 = D := ⟨_, rfl⟩
  rw [eD]
  have HD := hidv eD
  clear eD
  have HB := hidv (triB_new w 24 (.int .i64 K1) (.int .i64 N1) (.string T1) (.int .i64 K2) (.int .i64 N2) (.string T2) (.int .i64 0) (.int .i64 0) (.string ⟨#[]⟩) (((w.alloc (.cells #[.int .i64 K1, .int .i64 N1, .string T1] 24)).alloc (.cells #[.int .i64 K2, .int .i64 N2, .string T2] 24)).alloc (.cells #[.int .i64 0, .int .i64 0, .string ⟨#[]⟩] 24)) rfl (by go_grown))
  go_enter Tryz.func19, Tryz.ntmps19
  go_wp2_with fail
  refine (n1.out _ (HE.out.step HB.out.low)).mono ?_
  rintro e w1 ⟨rfl, hb1⟩
  have HB1 := hidv (HB.out.step hb1)
  obtain ⟨⟨x0, x1, x2⟩, ⟨x3, x4, x5⟩, ⟨x6, x7, x8⟩, x9, xx, xy⟩ := HB1.out.cells
  obtain ⟨s0, s1, s2⟩ := HB1.out.sets
  clear hb1
  by_cases g1 : E1 ≠ 0
  · have q1 : (E1 == 0) = false := by simpa using g1
    have q1' : (E1 != 0) = true := by simpa using g1
    have VD : Hid (D = (4, clampE E1)) := by show _ = _; rw [← HD.out]; simp [calcD, g1]
    have cf := hidv (fun w => fault_clamp E1 w)
    generalize clampE E1 = z at cf VD
    clear g1
    go_wp2_with fail
    refine (cf.out _).mono ?_
    rintro e w2 ⟨rfl, hb2⟩
    have HB2 := hidv (HB1.out.step hb2)
    obtain ⟨⟨x0, x1, x2⟩, ⟨x3, x4, x5⟩, ⟨x6, x7, x8⟩, x9, xx, xy⟩ := HB2.out.cells
    obtain ⟨s0, s1, s2⟩ := HB2.out.sets
    clear hb2
    go_wp2_with fail
    refine bodyPost_ret (v := .agg #[.int .i64 4, .int .i64 z, .string ⟨#[]⟩]) (by simp [results, Tryz.results19, go_sem, *]) rfl ?_
    exact ⟨by rw [VD.out], HB2.out.out _ _ _⟩
  obtain rfl : E1 = 0 := by omega
  clear g1
  go_wp2_with fail
  refine (n2.out _ (HE.out.step HB1.out.low)).mono ?_
  rintro e w2 ⟨rfl, hb2⟩
  have HB2 := hidv (HB1.out.step hb2)
  obtain ⟨⟨x0, x1, x2⟩, ⟨x3, x4, x5⟩, ⟨x6, x7, x8⟩, x9, xx, xy⟩ := HB2.out.cells
  obtain ⟨s0, s1, s2⟩ := HB2.out.sets
  clear hb2
  by_cases g2 : E2 ≠ 0
  · have q2 : (E2 == 0) = false := by simpa using g2
    have q2' : (E2 != 0) = true := by simpa using g2
    have VD : Hid (D = (4, clampE E2)) := by show _ = _; rw [← HD.out]; simp [calcD, g2]
    have cf := hidv (fun w => fault_clamp E2 w)
    generalize clampE E2 = z at cf VD
    clear g2
    go_wp2_with fail
    refine (cf.out _).mono ?_
    rintro e w3 ⟨rfl, hb3⟩
    have HB3 := hidv (HB2.out.step hb3)
    obtain ⟨⟨x0, x1, x2⟩, ⟨x3, x4, x5⟩, ⟨x6, x7, x8⟩, x9, xx, xy⟩ := HB3.out.cells
    obtain ⟨s0, s1, s2⟩ := HB3.out.sets
    clear hb3
    go_wp2_with fail
    refine bodyPost_ret (v := .agg #[.int .i64 4, .int .i64 z, .string ⟨#[]⟩]) (by simp [results, Tryz.results19, go_sem, *]) rfl ?_
    exact ⟨by rw [VD.out], HB3.out.out _ _ _⟩
  obtain rfl : E2 = 0 := by omega
  clear g2
  have cg := hidv (HG.out (by first | rfl | trivial) (by first | rfl | trivial))
  go_wp2_with fail
  refine (cg.out _).mono ?_
  rintro e w3 ⟨rfl, hb3⟩
  have HB3 := hidv (HB2.out.step hb3)
  obtain ⟨⟨x0, x1, x2⟩, ⟨x3, x4, x5⟩, ⟨x6, x7, x8⟩, x9, xx, xy⟩ := HB3.out.cells
  obtain ⟨s0, s1, s2⟩ := HB3.out.sets
  clear hb3
  by_cases g3 : R2 = 0
  · subst g3
    by_cases g4 : R1 = -9223372036854775808
    · have c0 := fun w => numberValue_any R1 w
      simp only [if_pos g4] at c0
      have cn := hidv c0
      have VD : Hid (D = (4, 2)) := by show _ = _; rw [← HD.out]; simp [calcD, g4]
      clear g4 c0
      go_wp2_with fail
      refine (cn.out _).mono ?_
      rintro e w4 ⟨rfl, hb4⟩
      have HB4 := hidv (HB3.out.step hb4)
      obtain ⟨⟨x0, x1, x2⟩, ⟨x3, x4, x5⟩, ⟨x6, x7, x8⟩, x9, xx, xy⟩ := HB4.out.cells
      obtain ⟨s0, s1, s2⟩ := HB4.out.sets
      clear hb4
      go_wp2_with fail
      refine bodyPost_ret (v := .agg #[.int .i64 4, .int .i64 2, .string ⟨#[]⟩]) (by simp [results, Tryz.results19, go_sem, *]) rfl ?_
      exact ⟨by rw [VD.out], HB4.out.out _ _ _⟩
    · have c0 := fun w => numberValue_any R1 w
      simp only [if_neg g4] at c0
      have cn := hidv c0
      have VD : Hid (D = (1, R1)) := by show _ = _; rw [← HD.out]; simp [calcD, g4]
      clear g4 c0
      go_wp2_with fail
      refine (cn.out _).mono ?_
      rintro e w4 ⟨rfl, hb4⟩
      have HB4 := hidv (HB3.out.step hb4)
      obtain ⟨⟨x0, x1, x2⟩, ⟨x3, x4, x5⟩, ⟨x6, x7, x8⟩, x9, xx, xy⟩ := HB4.out.cells
      obtain ⟨s0, s1, s2⟩ := HB4.out.sets
      clear hb4
      go_wp2_with fail
      refine bodyPost_ret (v := .agg #[.int .i64 1, .int .i64 R1, .string ⟨#[]⟩]) (by simp [results, Tryz.results19, go_sem, *]) rfl ?_
      exact ⟨by rw [VD.out], HB4.out.out _ _ _⟩
  have q3 : (R2 == 0) = false := by simpa using g3
  by_cases g5 : R2 = 7
  · subst g5
    have c0 := fun w => faultValue_any 1 w
    simp only [if_neg (show ¬ ((1 : Int) < 1 ∨ 6 < (1 : Int)) by omega)] at c0
    have cf := hidv c0
    have VD : Hid (D = (4, 1)) := by show _ = _; rw [← HD.out]; simp [calcD]
    clear g3 c0
    go_wp2_with fail
    refine (cf.out _).mono ?_
    rintro e w4 ⟨rfl, hb4⟩
    have HB4 := hidv (HB3.out.step hb4)
    obtain ⟨⟨x0, x1, x2⟩, ⟨x3, x4, x5⟩, ⟨x6, x7, x8⟩, x9, xx, xy⟩ := HB4.out.cells
    obtain ⟨s0, s1, s2⟩ := HB4.out.sets
    clear hb4
    go_wp2_with fail
    refine bodyPost_ret (v := .agg #[.int .i64 4, .int .i64 1, .string ⟨#[]⟩]) (by simp [results, Tryz.results19, go_sem, *]) rfl ?_
    exact ⟨by rw [VD.out], HB4.out.out _ _ _⟩
  · have q5 : (R2 == 7) = false := by simpa using g5
    have c0 := fun w => faultValue_any 2 w
    simp only [if_neg (show ¬ ((2 : Int) < 1 ∨ 6 < (2 : Int)) by omega)] at c0
    have cf := hidv c0
    have VD : Hid (D = (4, 2)) := by show _ = _; rw [← HD.out]; simp [calcD, g3, g5]
    clear g3 g5 c0
    go_wp2_with fail
    refine (cf.out _).mono ?_
    rintro e w4 ⟨rfl, hb4⟩
    have HB4 := hidv (HB3.out.step hb4)
    obtain ⟨⟨x0, x1, x2⟩, ⟨x3, x4, x5⟩, ⟨x6, x7, x8⟩, x9, xx, xy⟩ := HB4.out.cells
    obtain ⟨s0, s1, s2⟩ := HB4.out.sets
    clear hb4
    go_wp2_with fail
    refine bodyPost_ret (v := .agg #[.int .i64 4, .int .i64 2, .string ⟨#[]⟩]) (by simp [results, Tryz.results19, go_sem, *]) rfl ?_
    exact ⟨by rw [VD.out], HB4.out.out _ _ _⟩
end Go.Proofs.YtjbkjeabobccaacGreatDoor
