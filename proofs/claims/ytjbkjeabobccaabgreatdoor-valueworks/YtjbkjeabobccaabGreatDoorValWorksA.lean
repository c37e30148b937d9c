import Derived.Test.YtjbkjeabobccaabGreatDoorValCalc
import Derived.Test.YtjbkjeabobccaabGreatDoorValWork0
import Derived.Test.YtjbkjeabobccaabGreatDoorValShow
import Derived.Test.YtjbkjeabobccaabGreatDoorNumWorksA
namespace Go.Proofs.YtjbkjeabobccaabGreatDoor
open Go.RowKit Go.Sort Go.Lib
set_option linter.unusedVariables false

set_option maxHeartbeats 4000000 in
set_option maxRecDepth 100000 in
theorem calculated_Sub (K1 N1 : Int) (T1 : ByteArray) (K2 N2 : Int) (T2 : ByteArray) (X E1 Y E2 R1 R2 : Int) (c1 : Cn K1 N1 T1 K1 N1 T1) (c2 : Cn K2 N2 T2 K2 N2 T2) (hx : numI K1 N1 T1 = (X, E1)) (hy : numI K2 N2 T2 = (Y, E2))
    (hg : E1 = 0 → E2 = 0 → ∀ w, Calls Tryz.prog 77 #[.int .i64 X, .int .i64 Y] w fun e w' => e = .returned (.tuple #[.int .i64 R1, .int .i64 R2]) ∧ Below w.heap.size w w') (w : World) (hE : Env w) :
    Calls Tryz.prog 49 #[.func (.func 77) #[] #[], .agg #[.int .i64 K1, .int .i64 N1, .string T1], .agg #[.int .i64 K2, .int .i64 N2, .string T2]] w fun e w' => e = .returned (.agg #[.int .i64 (calcD E1 E2 R1 R2).1, .int .i64 (calcD E1 E2 R1 R2).2, .string ⟨#[]⟩]) ∧ Below w.heap.size w w' := by
  have n10 := fun w hE => number_cn K1 N1 T1 K1 N1 T1 c1 w hE
  have n20 := fun w hE => number_cn K2 N2 T2 K2 N2 T2 c2 w hE
  simp only [hx] at n10
  simp only [hy] at n20
  have n1 := hidv n10
  have n2 := hidv n20
  have HG := hidv hg
  have HE := hidv hE
  clear n10 n20 hx hy hg hE c1 c2
  obtain ⟨D, eD⟩ : ∃ D, calcD E1 E2 R1 R2 = D := ⟨_, rfl⟩
  rw [eD]
  have HD := hidv eD
  clear eD
  have HB := hidv (triB_new w 23 (.int .i64 K1) (.int .i64 N1) (.string T1) (.int .i64 K2) (.int .i64 N2) (.string T2) (.int .i64 0) (.int .i64 0) (.string ⟨#[]⟩) (((w.alloc (.cells #[.int .i64 K1, .int .i64 N1, .string T1] 23)).alloc (.cells #[.int .i64 K2, .int .i64 N2, .string T2] 23)).alloc (.cells #[.int .i64 0, .int .i64 0, .string ⟨#[]⟩] 23)) rfl (by go_grown))
  go_enter Tryz.func49, Tryz.ntmps49
  go_wp2_with fail
  refine (n1.out _ (HE.out.step HB.out.low)).mono ?_
  rintro e w1 ⟨rfl, hb1⟩
  have HB1 := hidv (HB.out.step hb1)
  obtain ⟨⟨x0, x1, x2⟩, ⟨x3, x4, x5⟩, ⟨x6, x7, x8⟩, x9, xx, xy⟩ := HB1.out.cells
  obtain ⟨s0, s1, s2⟩ := HB1.out.sets
  clear hb1
  by_cases g1 : E1 ≠ 0
  · have q1 : (E1 == 0) = false := by simpa using g1
    have q1' : (E1 != 0) = true := by simpa using g1
    have VD : Hid (D = (4, clampE E1)) := by show _ = _; rw [← HD.out]; simp [calcD, g1]
    have cf := hidv (fun w => fault_clamp E1 w)
    generalize clampE E1 = z at cf VD
    clear g1
    go_wp2_with fail
    refine (cf.out _).mono ?_
    rintro e w2 ⟨rfl, hb2⟩
    have HB2 := hidv (HB1.out.step hb2)
    obtain ⟨⟨x0, x1, x2⟩, ⟨x3, x4, x5⟩, ⟨x6, x7, x8⟩, x9, xx, xy⟩ := HB2.out.cells
    obtain ⟨s0, s1, s2⟩ := HB2.out.sets
    clear hb2
    go_wp2_with fail
    refine bodyPost_ret (v := .agg #[.int .i64 4, .int .i64 z, .string ⟨#[]⟩]) (by simp [results, Tryz.results49, go_sem, *]) rfl ?_
    exact ⟨by rw [VD.out], HB2.out.out _ _ _⟩
  obtain rfl : E1 = 0 := by omega
  clear g1
  go_wp2_with fail
  refine (n2.out _ (HE.out.step HB1.out.low)).mono ?_
  rintro e w2 ⟨rfl, hb2⟩
  have HB2 := hidv (HB1.out.step hb2)
  obtain ⟨⟨x0, x1, x2⟩, ⟨x3, x4, x5⟩, ⟨x6, x7, x8⟩, x9, xx, xy⟩ := HB2.out.cells
  obtain ⟨s0, s1, s2⟩ := HB2.out.sets
  clear hb2
  by_cases g2 : E2 ≠ 0
  · have q2 : (E2 == 0) = false := by simpa using g2
    have q2' : (E2 != 0) = true := by simpa using g2
    have VD : Hid (D = (4, clampE E2)) := by show _ = _; rw [← HD.out]; simp [calcD, g2]
    have cf := hidv (fun w => fault_clamp E2 w)
    generalize clampE E2 = z at cf VD
    clear g2
    go_wp2_with fail
    refine (cf.out _).mono ?_
    rintro e w3 ⟨rfl, hb3⟩
    have HB3 := hidv (HB2.out.step hb3)
    obtain ⟨⟨x0, x1, x2⟩, ⟨x3, x4, x5⟩, ⟨x6, x7, x8⟩, x9, xx, xy⟩ := HB3.out.cells
    obtain ⟨s0, s1, s2⟩ := HB3.out.sets
    clear hb3
    go_wp2_with fail
    refine bodyPost_ret (v := .agg #[.int .i64 4, .int .i64 z, .string ⟨#[]⟩]) (by simp [results, Tryz.results49, go_sem, *]) rfl ?_
    exact ⟨by rw [VD.out], HB3.out.out _ _ _⟩
  obtain rfl : E2 = 0 := by omega
  clear g2
  have cg := hidv (HG.out (by first | rfl | trivial) (by first | rfl | trivial))
  go_wp2_with fail
  refine (cg.out _).mono ?_
  rintro e w3 ⟨rfl, hb3⟩
  have HB3 := hidv (HB2.out.step hb3)
  obtain ⟨⟨x0, x1, x2⟩, ⟨x3, x4, x5⟩, ⟨x6, x7, x8⟩, x9, xx, xy⟩ := HB3.out.cells
  obtain ⟨s0, s1, s2⟩ := HB3.out.sets
  clear hb3
  by_cases g3 : R2 = 0
  · subst g3
    by_cases g4 : R1 = -9223372036854775808
    · have c0 := fun w => numberValue_any R1 w
      simp only [if_pos g4] at c0
      have cn := hidv c0
      have VD : Hid (D = (4, 2)) := by show _ = _; rw [← HD.out]; simp [calcD, g4]
      clear g4 c0
      go_wp2_with fail
      refine (cn.out _).mono ?_
      rintro e w4 ⟨rfl, hb4⟩
      have HB4 := hidv (HB3.out.step hb4)
      obtain ⟨⟨x0, x1, x2⟩, ⟨x3, x4, x5⟩, ⟨x6, x7, x8⟩, x9, xx, xy⟩ := HB4.out.cells
      obtain ⟨s0, s1, s2⟩ := HB4.out.sets
      clear hb4
      go_wp2_with fail
      refine bodyPost_ret (v := .agg #[.int .i64 4, .int .i64 2, .string ⟨#[]⟩]) (by simp [results, Tryz.results49, go_sem, *]) rfl ?_
      exact ⟨by rw [VD.out], HB4.out.out _ _ _⟩
    · have c0 := fun w => numberValue_any R1 w
      simp only [if_neg g4] at c0
      have cn := hidv c0
      have VD : Hid (D = (1, R1)) := by show _ = _; rw [← HD.out]; simp [calcD, g4]
      clear g4 c0
      go_wp2_with fail
      refine (cn.out _).mono ?_
      rintro e w4 ⟨rfl, hb4⟩
      have HB4 := hidv (HB3.out.step hb4)
      obtain ⟨⟨x0, x1, x2⟩, ⟨x3, x4, x5⟩, ⟨x6, x7, x8⟩, x9, xx, xy⟩ := HB4.out.cells
      obtain ⟨s0, s1, s2⟩ := HB4.out.sets
      clear hb4
      go_wp2_with fail
      refine bodyPost_ret (v := .agg #[.int .i64 1, .int .i64 R1, .string ⟨#[]⟩]) (by simp [results, Tryz.results49, go_sem, *]) rfl ?_
      exact ⟨by rw [VD.out], HB4.out.out _ _ _⟩
  have q3 : (R2 == 0) = false := by simpa using g3
  by_cases g5 : R2 = 7
  · subst g5
    have c0 := fun w => faultValue_any 1 w
    simp only [if_neg (show ¬ ((1 : Int) < 1 ∨ 6 < (1 : Int)) by omega)] at c0
    have cf := hidv c0
    have VD : Hid (D = (4, 1)) := by show _ = _; rw [← HD.out]; simp [calcD]
    clear g3 c0
    go_wp2_with fail
    refine (cf.out _).mono ?_
    rintro e w4 ⟨rfl, hb4⟩
    have HB4 := hidv (HB3.out.step hb4)
    obtain ⟨⟨x0, x1, x2⟩, ⟨x3, x4, x5⟩, ⟨x6, x7, x8⟩, x9, xx, xy⟩ := HB4.out.cells
    obtain ⟨s0, s1, s2⟩ := HB4.out.sets
    clear hb4
    go_wp2_with fail
    refine bodyPost_ret (v := .agg #[.int .i64 4, .int .i64 1, .string ⟨#[]⟩]) (by simp [results, Tryz.results49, go_sem, *]) rfl ?_
    exact ⟨by rw [VD.out], HB4.out.out _ _ _⟩
  · have q5 : (R2 == 7) = false := by simpa using g5
    have c0 := fun w => faultValue_any 2 w
    simp only [if_neg (show ¬ ((2 : Int) < 1 ∨ 6 < (2 : Int)) by omega)] at c0
    have cf := hidv c0
    have VD : Hid (D = (4, 2)) := by show _ = _; rw [← HD.out]; simp [calcD, g3, g5]
    clear g3 g5 c0
    go_wp2_with fail
    refine (cf.out _).mono ?_
    rintro e w4 ⟨rfl, hb4⟩
    have HB4 := hidv (HB3.out.step hb4)
    obtain ⟨⟨x0, x1, x2⟩, ⟨x3, x4, x5⟩, ⟨x6, x7, x8⟩, x9, xx, xy⟩ := HB4.out.cells
    obtain ⟨s0, s1, s2⟩ := HB4.out.sets
    clear hb4
    go_wp2_with fail
    refine bodyPost_ret (v := .agg #[.int .i64 4, .int .i64 2, .string ⟨#[]⟩]) (by simp [results, Tryz.results49, go_sem, *]) rfl ?_
    exact ⟨by rw [VD.out], HB4.out.out _ _ _⟩

set_option maxHeartbeats 4000000 in
set_option maxRecDepth 100000 in
theorem calculated_Mul (K1 N1 : Int) (T1 : ByteArray) (K2 N2 : Int) (T2 : ByteArray) (X E1 Y E2 R1 R2 : Int) (c1 : Cn K1 N1 T1 K1 N1 T1) (c2 : Cn K2 N2 T2 K2 N2 T2) (hx : numI K1 N1 T1 = (X, E1)) (hy : numI K2 N2 T2 = (Y, E2))
    (hg : E1 = 0 → E2 = 0 → ∀ w, Calls Tryz.prog 78 #[.int .i64 X, .int .i64 Y] w fun e w' => e = .returned (.tuple #[.int .i64 R1, .int .i64 R2]) ∧ Below w.heap.size w w') (w : World) (hE : Env w) :
    Calls Tryz.prog 49 #[.func (.func 78) #[] #[], .agg #[.int .i64 K1, .int .i64 N1, .string T1], .agg #[.int .i64 K2, .int .i64 N2, .string T2]] w fun e w' => e = .returned (.agg #[.int .i64 (calcD E1 E2 R1 R2).1, .int .i64 (calcD E1 E2 R1 R2).2, .string ⟨#[]⟩]) ∧ Below w.heap.size w w' := by
  have n10 := fun w hE => number_cn K1 N1 T1 K1 N1 T1 c1 w hE
  have n20 := fun w hE => number_cn K2 N2 T2 K2 N2 T2 c2 w hE
  simp only [hx] at n10
  simp only [hy] at n20
  have n1 := hidv n10
  have n2 := hidv n20
  have HG := hidv hg
  have HE := hidv hE
  clear n10 n20 hx hy hg hE c1 c2
  obtain ⟨D, eD⟩ : ∃ D, calcD E1 E2 R1 R2 = D := ⟨_, rfl⟩
  rw [eD]
  have HD := hidv eD
  clear eD
  have HB := hidv (triB_new w 23 (.int .i64 K1) (.int .i64 N1) (.string T1) (.int .i64 K2) (.int .i64 N2) (.string T2) (.int .i64 0) (.int .i64 0) (.string ⟨#[]⟩) (((w.alloc (.cells #[.int .i64 K1, .int .i64 N1, .string T1] 23)).alloc (.cells #[.int .i64 K2, .int .i64 N2, .string T2] 23)).alloc (.cells #[.int .i64 0, .int .i64 0, .string ⟨#[]⟩] 23)) rfl (by go_grown))
  go_enter Tryz.func49, Tryz.ntmps49
  go_wp2_with fail
  refine (n1.out _ (HE.out.step HB.out.low)).mono ?_
  rintro e w1 ⟨rfl, hb1⟩
  have HB1 := hidv (HB.out.step hb1)
  obtain ⟨⟨x0, x1, x2⟩, ⟨x3, x4, x5⟩, ⟨x6, x7, x8⟩, x9, xx, xy⟩ := HB1.out.cells
  obtain ⟨s0, s1, s2⟩ := HB1.out.sets
  clear hb1
  by_cases g1 : E1 ≠ 0
  · have q1 : (E1 == 0) = false := by simpa using g1
    have q1' : (E1 != 0) = true := by simpa using g1
    have VD : Hid (D = (4, clampE E1)) := by show _ = _; rw [← HD.out]; simp [calcD, g1]
    have cf := hidv (fun w => fault_clamp E1 w)
    generalize clampE E1 = z at cf VD
    clear g1
    go_wp2_with fail
    refine (cf.out _).mono ?_
    rintro e w2 ⟨rfl, hb2⟩
    have HB2 := hidv (HB1.out.step hb2)
    obtain ⟨⟨x0, x1, x2⟩, ⟨x3, x4, x5⟩, ⟨x6, x7, x8⟩, x9, xx, xy⟩ := HB2.out.cells
    obtain ⟨s0, s1, s2⟩ := HB2.out.sets
    clear hb2
    go_wp2_with fail
    refine bodyPost_ret (v := .agg #[.int .i64 4, .int .i64 z, .string ⟨#[]⟩]) (by simp [results, Tryz.results49, go_sem, *]) rfl ?_
    exact ⟨by rw [VD.out], HB2.out.out _ _ _⟩
  obtain rfl : E1 = 0 := by omega
  clear g1
  go_wp2_with fail
  refine (n2.out _ (HE.out.step HB1.out.low)).mono ?_
  rintro e w2 ⟨rfl, hb2⟩
  have HB2 := hidv (HB1.out.step hb2)
  obtain ⟨⟨x0, x1, x2⟩, ⟨x3, x4, x5⟩, ⟨x6, x7, x8⟩, x9, xx, xy⟩ := HB2.out.cells
  obtain ⟨s0, s1, s2⟩ := HB2.out.sets
  clear hb2
  by_cases g2 : E2 ≠ 0
  · have q2 : (E2 == 0) = false := by simpa using g2
    have q2' : (E2 != 0) = true := by simpa using g2
    have VD : Hid (D = (4, clampE E2)) := by show _ = _; rw [← HD.out]; simp [calcD, g2]
    have cf := hidv (fun w => fault_clamp E2 w)
    generalize clampE E2 = z at cf VD
    clear g2
    go_wp2_with fail
    refine (cf.out _).mono ?_
    rintro e w3 ⟨rfl, hb3⟩
    have HB3 := hidv (HB2.out.step hb3)
    obtain ⟨⟨x0, x1, x2⟩, ⟨x3, x4, x5⟩, ⟨x6, x7, x8⟩, x9, xx, xy⟩ := HB3.out.cells
    obtain ⟨s0, s1, s2⟩ := HB3.out.sets
    clear hb3
    go_wp2_with fail
    refine bodyPost_ret (v := .agg #[.int .i64 4, .int .i64 z, .string ⟨#[]⟩]) (by simp [results, Tryz.results49, go_sem, *]) rfl ?_
    exact ⟨by rw [VD.out], HB3.out.out _ _ _⟩
  obtain rfl : E2 = 0 := by omega
  clear g2
  have cg := hidv (HG.out (by first | rfl | trivial) (by first | rfl | trivial))
  go_wp2_with fail
  refine (cg.out _).mono ?_
  rintro e w3 ⟨rfl, hb3⟩
  have HB3 := hidv (HB2.out.step hb3)
  obtain ⟨⟨x0, x1, x2⟩, ⟨x3, x4, x5⟩, ⟨x6, x7, x8⟩, x9, xx, xy⟩ := HB3.out.cells
  obtain ⟨s0, s1, s2⟩ := HB3.out.sets
  clear hb3
  by_cases g3 : R2 = 0
  · subst g3
    by_cases g4 : R1 = -9223372036854775808
    · have c0 := fun w => numberValue_any R1 w
      simp only [if_pos g4] at c0
      have cn := hidv c0
      have VD : Hid (D = (4, 2)) := by show _ = _; rw [← HD.out]; simp [calcD, g4]
      clear g4 c0
      go_wp2_with fail
      refine (cn.out _).mono ?_
      rintro e w4 ⟨rfl, hb4⟩
      have HB4 := hidv (HB3.out.step hb4)
      obtain ⟨⟨x0, x1, x2⟩, ⟨x3, x4, x5⟩, ⟨x6, x7, x8⟩, x9, xx, xy⟩ := HB4.out.cells
      obtain ⟨s0, s1, s2⟩ := HB4.out.sets
      clear hb4
      go_wp2_with fail
      refine bodyPost_ret (v := .agg #[.int .i64 4, .int .i64 2, .string ⟨#[]⟩]) (by simp [results, Tryz.results49, go_sem, *]) rfl ?_
      exact ⟨by rw [VD.out], HB4.out.out _ _ _⟩
    · have c0 := fun w => numberValue_any R1 w
      simp only [if_neg g4] at c0
      have cn := hidv c0
      have VD : Hid (D = (1, R1)) := by show _ = _; rw [← HD.out]; simp [calcD, g4]
      clear g4 c0
      go_wp2_with fail
      refine (cn.out _).mono ?_
      rintro e w4 ⟨rfl, hb4⟩
      have HB4 := hidv (HB3.out.step hb4)
      obtain ⟨⟨x0, x1, x2⟩, ⟨x3, x4, x5⟩, ⟨x6, x7, x8⟩, x9, xx, xy⟩ := HB4.out.cells
      obtain ⟨s0, s1, s2⟩ := HB4.out.sets
      clear hb4
      go_wp2_with fail
      refine bodyPost_ret (v := .agg #[.int .i64 1, .int .i64 R1, .string ⟨#[]⟩]) (by simp [results, Tryz.results49, go_sem, *]) rfl ?_
      exact ⟨by rw [VD.out], HB4.out.out _ _ _⟩
  have q3 : (R2 == 0) = false := by simpa using g3
  by_cases g5 : R2 = 7
  · subst g5
    have c0 := fun w => faultValue_any 1 w
    simp only [if_neg (show ¬ ((1 : Int) < 1 ∨ 6 < (1 : Int)) by omega)] at c0
    have cf := hidv c0
    have VD : Hid (D = (4, 1)) := by show _ = _; rw [← HD.out]; simp [calcD]
    clear g3 c0
    go_wp2_with fail
    refine (cf.out _).mono ?_
    rintro e w4 ⟨rfl, hb4⟩
    have HB4 := hidv (HB3.out.step hb4)
    obtain ⟨⟨x0, x1, x2⟩, ⟨x3, x4, x5⟩, ⟨x6, x7, x8⟩, x9, xx, xy⟩ := HB4.out.cells
    obtain ⟨s0, s1, s2⟩ := HB4.out.sets
    clear hb4
    go_wp2_with fail
    refine bodyPost_ret (v := .agg #[.int .i64 4, .int .i64 1, .string ⟨#[]⟩]) (by simp [results, Tryz.results49, go_sem, *]) rfl ?_
    exact ⟨by rw [VD.out], HB4.out.out _ _ _⟩
  · have q5 : (R2 == 7) = false := by simpa using g5
    have c0 := fun w => faultValue_any 2 w
    simp only [if_neg (show ¬ ((2 : Int) < 1 ∨ 6 < (2 : Int)) by omega)] at c0
    have cf := hidv c0
    have VD : Hid (D = (4, 2)) := by show _ = _; rw [← HD.out]; simp [calcD, g3, g5]
    clear g3 g5 c0
    go_wp2_with fail
    refine (cf.out _).mono ?_
    rintro e w4 ⟨rfl, hb4⟩
    have HB4 := hidv (HB3.out.step hb4)
    obtain ⟨⟨x0, x1, x2⟩, ⟨x3, x4, x5⟩, ⟨x6, x7, x8⟩, x9, xx, xy⟩ := HB4.out.cells
    obtain ⟨s0, s1, s2⟩ := HB4.out.sets
    clear hb4
    go_wp2_with fail
    refine bodyPost_ret (v := .agg #[.int .i64 4, .int .i64 2, .string ⟨#[]⟩]) (by simp [results, Tryz.results49, go_sem, *]) rfl ?_
    exact ⟨by rw [VD.out], HB4.out.out _ _ _⟩

set_option maxHeartbeats 4000000 in
set_option maxRecDepth 100000 in
theorem calculated_Div (K1 N1 : Int) (T1 : ByteArray) (K2 N2 : Int) (T2 : ByteArray) (X E1 Y E2 R1 R2 : Int) (c1 : Cn K1 N1 T1 K1 N1 T1) (c2 : Cn K2 N2 T2 K2 N2 T2) (hx : numI K1 N1 T1 = (X, E1)) (hy : numI K2 N2 T2 = (Y, E2))
    (hg : E1 = 0 → E2 = 0 → ∀ w, Calls Tryz.prog 79 #[.int .i64 X, .int .i64 Y] w fun e w' => e = .returned (.tuple #[.int .i64 R1, .int .i64 R2]) ∧ Below w.heap.size w w') (w : World) (hE : Env w) :
    Calls Tryz.prog 49 #[.func (.func 79) #[] #[], .agg #[.int .i64 K1, .int .i64 N1, .string T1], .agg #[.int .i64 K2, .int .i64 N2, .string T2]] w fun e w' => e = .returned (.agg #[.int .i64 (calcD E1 E2 R1 R2).1, .int .i64 (calcD E1 E2 R1 R2).2, .string ⟨#[]⟩]) ∧ Below w.heap.size w w' := by
  have n10 := fun w hE => number_cn K1 N1 T1 K1 N1 T1 c1 w hE
  have n20 := fun w hE => number_cn K2 N2 T2 K2 N2 T2 c2 w hE
  simp only [hx] at n10
  simp only [hy] at n20
  have n1 := hidv n10
  have n2 := hidv n20
  have HG := hidv hg
  have HE := hidv hE
  clear n10 n20 hx hy hg hE c1 c2
  obtain ⟨D, eD⟩ : ∃ D, calcD E1 E2 R1 R2 = D := ⟨_, rfl⟩
  rw [eD]
  have HD := hidv eD
  clear eD
  have HB := hidv (triB_new w 23 (.int .i64 K1) (.int .i64 N1) (.string T1) (.int .i64 K2) (.int .i64 N2) (.string T2) (.int .i64 0) (.int .i64 0) (.string ⟨#[]⟩) (((w.alloc (.cells #[.int .i64 K1, .int .i64 N1, .string T1] 23)).alloc (.cells #[.int .i64 K2, .int .i64 N2, .string T2] 23)).alloc (.cells #[.int .i64 0, .int .i64 0, .string ⟨#[]⟩] 23)) rfl (by go_grown))
  go_enter Tryz.func49, Tryz.ntmps49
  go_wp2_with fail
  refine (n1.out _ (HE.out.step HB.out.low)).mono ?_
  rintro e w1 ⟨rfl, hb1⟩
  have HB1 := hidv (HB.out.step hb1)
  obtain ⟨⟨x0, x1, x2⟩, ⟨x3, x4, x5⟩, ⟨x6, x7, x8⟩, x9, xx, xy⟩ := HB1.out.cells
  obtain ⟨s0, s1, s2⟩ := HB1.out.sets
  clear hb1
  by_cases g1 : E1 ≠ 0
  · have q1 : (E1 == 0) = false := by simpa using g1
    have q1' : (E1 != 0) = true := by simpa using g1
    have VD : Hid (D = (4, clampE E1)) := by show _ = _; rw [← HD.out]; simp [calcD, g1]
    have cf := hidv (fun w => fault_clamp E1 w)
    generalize clampE E1 = z at cf VD
    clear g1
    go_wp2_with fail
    refine (cf.out _).mono ?_
    rintro e w2 ⟨rfl, hb2⟩
    have HB2 := hidv (HB1.out.step hb2)
    obtain ⟨⟨x0, x1, x2⟩, ⟨x3, x4, x5⟩, ⟨x6, x7, x8⟩, x9, xx, xy⟩ := HB2.out.cells
    obtain ⟨s0, s1, s2⟩ := HB2.out.sets
    clear hb2
    go_wp2_with fail
    refine bodyPost_ret (v := .agg #[.int .i64 4, .int .i64 z, .string ⟨#[]⟩]) (by simp [results, Tryz.results49, go_sem, *]) rfl ?_
    exact ⟨by rw [VD.out], HB2.out.out _ _ _⟩
  obtain rfl : E1 = 0 := by omega
  clear g1
  go_wp2_with fail
  refine (n2.out _ (HE.out.step HB1.out.low)).mono ?_
  rintro e w2 ⟨rfl, hb2⟩
  have HB2 := hidv (HB1.out.step hb2)
  obtain ⟨⟨x0, x1, x2⟩, ⟨x3, x4, x5⟩, ⟨x6, x7, x8⟩, x9, xx, xy⟩ := HB2.out.cells
  obtain ⟨s0, s1, s2⟩ := HB2.out.sets
  clear hb2
  by_cases g2 : E2 ≠ 0
  · have q2 : (E2 == 0) = false := by simpa using g2
    have q2' : (E2 != 0) = true := by simpa using g2
    have VD : Hid (D = (4, clampE E2)) := by show _ = _; rw [← HD.out]; simp [calcD, g2]
    have cf := hidv (fun w => fault_clamp E2 w)
    generalize clampE E2 = z at cf VD
    clear g2
    go_wp2_with fail
    refine (cf.out _).mono ?_
    rintro e w3 ⟨rfl, hb3⟩
    have HB3 := hidv (HB2.out.step hb3)
    obtain ⟨⟨x0, x1, x2⟩, ⟨x3, x4, x5⟩, ⟨x6, x7, x8⟩, x9, xx, xy⟩ := HB3.out.cells
    obtain ⟨s0, s1, s2⟩ := HB3.out.sets
    clear hb3
    go_wp2_with fail
    refine bodyPost_ret (v := .agg #[.int .i64 4, .int .i64 z, .string ⟨#[]⟩]) (by simp [results, Tryz.results49, go_sem, *]) rfl ?_
    exact ⟨by rw [VD.out], HB3.out.out _ _ _⟩
  obtain rfl : E2 = 0 := by omega
  clear g2
  have cg := hidv (HG.out (by first | rfl | trivial) (by first | rfl | trivial))
  go_wp2_with fail
  refine (cg.out _).mono ?_
  rintro e w3 ⟨rfl, hb3⟩
  have HB3 := hidv (HB2.out.step hb3)
  obtain ⟨⟨x0, x1, x2⟩, ⟨x3, x4, x5⟩, ⟨x6, x7, x8⟩, x9, xx, xy⟩ := HB3.out.cells
  obtain ⟨s0, s1, s2⟩ := HB3.out.sets
  clear hb3
  by_cases g3 : R2 = 0
  · subst g3
    by_cases g4 : R1 = -9223372036854775808
    · have c0 := fun w => numberValue_any R1 w
      simp only [if_pos g4] at c0
      have cn := hidv c0
      have VD : Hid (D = (4, 2)) := by show _ = _; rw [← HD.out]; simp [calcD, g4]
      clear g4 c0
      go_wp2_with fail
      refine (cn.out _).mono ?_
      rintro e w4 ⟨rfl, hb4⟩
      have HB4 := hidv (HB3.out.step hb4)
      obtain ⟨⟨x0, x1, x2⟩, ⟨x3, x4, x5⟩, ⟨x6, x7, x8⟩, x9, xx, xy⟩ := HB4.out.cells
      obtain ⟨s0, s1, s2⟩ := HB4.out.sets
      clear hb4
      go_wp2_with fail
      refine bodyPost_ret (v := .agg #[.int .i64 4, .int .i64 2, .string ⟨#[]⟩]) (by simp [results, Tryz.results49, go_sem, *]) rfl ?_
      exact ⟨by rw [VD.out], HB4.out.out _ _ _⟩
    · have c0 := fun w => numberValue_any R1 w
      simp only [if_neg g4] at c0
      have cn := hidv c0
      have VD : Hid (D = (1, R1)) := by show _ = _; rw [← HD.out]; simp [calcD, g4]
      clear g4 c0
      go_wp2_with fail
      refine (cn.out _).mono ?_
      rintro e w4 ⟨rfl, hb4⟩
      have HB4 := hidv (HB3.out.step hb4)
      obtain ⟨⟨x0, x1, x2⟩, ⟨x3, x4, x5⟩, ⟨x6, x7, x8⟩, x9, xx, xy⟩ := HB4.out.cells
      obtain ⟨s0, s1, s2⟩ := HB4.out.sets
      clear hb4
      go_wp2_with fail
      refine bodyPost_ret (v := .agg #[.int .i64 1, .int .i64 R1, .string ⟨#[]⟩]) (by simp [results, Tryz.results49, go_sem, *]) rfl ?_
      exact ⟨by rw [VD.out], HB4.out.out _ _ _⟩
  have q3 : (R2 == 0) = false := by simpa using g3
  by_cases g5 : R2 = 7
  · subst g5
    have c0 := fun w => faultValue_any 1 w
    simp only [if_neg (show ¬ ((1 : Int) < 1 ∨ 6 < (1 : Int)) by omega)] at c0
    have cf := hidv c0
    have VD : Hid (D = (4, 1)) := by show _ = _; rw [← HD.out]; simp [calcD]
    clear g3 c0
    go_wp2_with fail
    refine (cf.out _).mono ?_
    rintro e w4 ⟨rfl, hb4⟩
    have HB4 := hidv (HB3.out.step hb4)
    obtain ⟨⟨x0, x1, x2⟩, ⟨x3, x4, x5⟩, ⟨x6, x7, x8⟩, x9, xx, xy⟩ := HB4.out.cells
    obtain ⟨s0, s1, s2⟩ := HB4.out.sets
    clear hb4
    go_wp2_with fail
    refine bodyPost_ret (v := .agg #[.int .i64 4, .int .i64 1, .string ⟨#[]⟩]) (by simp [results, Tryz.results49, go_sem, *]) rfl ?_
    exact ⟨by rw [VD.out], HB4.out.out _ _ _⟩
  · have q5 : (R2 == 7) = false := by simpa using g5
    have c0 := fun w => faultValue_any 2 w
    simp only [if_neg (show ¬ ((2 : Int) < 1 ∨ 6 < (2 : Int)) by omega)] at c0
    have cf := hidv c0
    have VD : Hid (D = (4, 2)) := by show _ = _; rw [← HD.out]; simp [calcD, g3, g5]
    clear g3 g5 c0
    go_wp2_with fail
    refine (cf.out _).mono ?_
    rintro e w4 ⟨rfl, hb4⟩
    have HB4 := hidv (HB3.out.step hb4)
    obtain ⟨⟨x0, x1, x2⟩, ⟨x3, x4, x5⟩, ⟨x6, x7, x8⟩, x9, xx, xy⟩ := HB4.out.cells
    obtain ⟨s0, s1, s2⟩ := HB4.out.sets
    clear hb4
    go_wp2_with fail
    refine bodyPost_ret (v := .agg #[.int .i64 4, .int .i64 2, .string ⟨#[]⟩]) (by simp [results, Tryz.results49, go_sem, *]) rfl ?_
    exact ⟨by rw [VD.out], HB4.out.out _ _ _⟩

set_option maxHeartbeats 4000000 in
set_option maxRecDepth 100000 in
theorem calculated_Pow (K1 N1 : Int) (T1 : ByteArray) (K2 N2 : Int) (T2 : ByteArray) (X E1 Y E2 R1 R2 : Int) (c1 : Cn K1 N1 T1 K1 N1 T1) (c2 : Cn K2 N2 T2 K2 N2 T2) (hx : numI K1 N1 T1 = (X, E1)) (hy : numI K2 N2 T2 = (Y, E2))
    (hg : E1 = 0 → E2 = 0 → ∀ w, Calls Tryz.prog 80 #[.int .i64 X, .int .i64 Y] w fun e w' => e = .returned (.tuple #[.int .i64 R1, .int .i64 R2]) ∧ Below w.heap.size w w') (w : World) (hE : Env w) :
    Calls Tryz.prog 49 #[.func (.func 80) #[] #[], .agg #[.int .i64 K1, .int .i64 N1, .string T1], .agg #[.int .i64 K2, .int .i64 N2, .string T2]] w fun e w' => e = .returned (.agg #[.int .i64 (calcD E1 E2 R1 R2).1, .int .i64 (calcD E1 E2 R1 R2).2, .string ⟨#[]⟩]) ∧ Below w.heap.size w w' := by
  have n10 := fun w hE => number_cn K1 N1 T1 K1 N1 T1 c1 w hE
  have n20 := fun w hE => number_cn K2 N2 T2 K2 N2 T2 c2 w hE
  simp only [hx] at n10
  simp only [hy] at n20
  have n1 := hidv n10
  have n2 := hidv n20
  have HG := hidv hg
  have HE := hidv hE
  clear n10 n20 hx hy hg hE c1 c2
  obtain ⟨D, eD⟩ : ∃ D, calcD E1 E2 R1 R2 = D := ⟨_, rfl⟩
  rw [eD]
  have HD := hidv eD
  clear eD
  have HB := hidv (triB_new w 23 (.int .i64 K1) (.int .i64 N1) (.string T1) (.int .i64 K2) (.int .i64 N2) (.string T2) (.int .i64 0) (.int .i64 0) (.string ⟨#[]⟩) (((w.alloc (.cells #[.int .i64 K1, .int .i64 N1, .string T1] 23)).alloc (.cells #[.int .i64 K2, .int .i64 N2, .string T2] 23)).alloc (.cells #[.int .i64 0, .int .i64 0, .string ⟨#[]⟩] 23)) rfl (by go_grown))
  go_enter Tryz.func49, Tryz.ntmps49
  go_wp2_with fail
  refine (n1.out _ (HE.out.step HB.out.low)).mono ?_
  rintro e w1 ⟨rfl, hb1⟩
  have HB1 := hidv (HB.out.step hb1)
  obtain ⟨⟨x0, x1, x2⟩, ⟨x3, x4, x5⟩, ⟨x6, x7, x8⟩, x9, xx, xy⟩ := HB1.out.cells
  obtain ⟨s0, s1, s2⟩ := HB1.out.sets
  clear hb1
  by_cases g1 : E1 ≠ 0
  · have q1 : (E1 == 0) = false := by simpa using g1
    have q1' : (E1 != 0) = true := by simpa using g1
    have VD : Hid (D = (4, clampE E1)) := by show _ = _; rw [← HD.out]; simp [calcD, g1]
    have cf := hidv (fun w => fault_clamp E1 w)
    generalize clampE E1 = z at cf VD
    clear g1
    go_wp2_with fail
    refine (cf.out _).mono ?_
    rintro e w2 ⟨rfl, hb2⟩
    have HB2 := hidv (HB1.out.step hb2)
    obtain ⟨⟨x0, x1, x2⟩, ⟨x3, x4, x5⟩, ⟨x6, x7, x8⟩, x9, xx, xy⟩ := HB2.out.cells
    obtain ⟨s0, s1, s2⟩ := HB2.out.sets
    clear hb2
    go_wp2_with fail
    refine bodyPost_ret (v := .agg #[.int .i64 4, .int .i64 z, .string ⟨#[]⟩]) (by simp [results, Tryz.results49, go_sem, *]) rfl ?_
    exact ⟨by rw [VD.out], HB2.out.out _ _ _⟩
  obtain rfl : E1 = 0 := by omega
  clear g1
  go_wp2_with fail
  refine (n2.out _ (HE.out.step HB1.out.low)).mono ?_
  rintro e w2 ⟨rfl, hb2⟩
  have HB2 := hidv (HB1.out.step hb2)
  obtain ⟨⟨x0, x1, x2⟩, ⟨x3, x4, x5⟩, ⟨x6, x7, x8⟩, x9, xx, xy⟩ := HB2.out.cells
  obtain ⟨s0, s1, s2⟩ := HB2.out.sets
  clear hb2
  by_cases g2 : E2 ≠ 0
  · have q2 : (E2 == 0) = false := by simpa using g2
    have q2' : (E2 != 0) = true := by simpa using g2
    have VD : Hid (D = (4, clampE E2)) := by show _ = _; rw [← HD.out]; simp [calcD, g2]
    have cf := hidv (fun w => fault_clamp E2 w)
    generalize clampE E2 = z at cf VD
    clear g2
    go_wp2_with fail
    refine (cf.out _).mono ?_
    rintro e w3 ⟨rfl, hb3⟩
    have HB3 := hidv (HB2.out.step hb3)
    obtain ⟨⟨x0, x1, x2⟩, ⟨x3, x4, x5⟩, ⟨x6, x7, x8⟩, x9, xx, xy⟩ := HB3.out.cells
    obtain ⟨s0, s1, s2⟩ := HB3.out.sets
    clear hb3
    go_wp2_with fail
    refine bodyPost_ret (v := .agg #[.int .i64 4, .int .i64 z, .string ⟨#[]⟩]) (by simp [results, Tryz.results49, go_sem, *]) rfl ?_
    exact ⟨by rw [VD.out], HB3.out.out _ _ _⟩
  obtain rfl : E2 = 0 := by omega
  clear g2
  have cg := hidv (HG.out (by first | rfl | trivial) (by first | rfl | trivial))
  go_wp2_with fail
  refine (cg.out _).mono ?_
  rintro e w3 ⟨rfl, hb3⟩
  have HB3 := hidv (HB2.out.step hb3)
  obtain ⟨⟨x0, x1, x2⟩, ⟨x3, x4, x5⟩, ⟨x6, x7, x8⟩, x9, xx, xy⟩ := HB3.out.cells
  obtain ⟨s0, s1, s2⟩ := HB3.out.sets
  clear hb3
  by_cases g3 : R2 = 0
  · subst g3
    by_cases g4 : R1 = -9223372036854775808
    · have c0 := fun w => numberValue_any R1 w
      simp only [if_pos g4] at c0
      have cn := hidv c0
      have VD : Hid (D = (4, 2)) := by show _ = _; rw [← HD.out]; simp [calcD, g4]
      clear g4 c0
      go_wp2_with fail
      refine (cn.out _).mono ?_
      rintro e w4 ⟨rfl, hb4⟩
      have HB4 := hidv (HB3.out.step hb4)
      obtain ⟨⟨x0, x1, x2⟩, ⟨x3, x4, x5⟩, ⟨x6, x7, x8⟩, x9, xx, xy⟩ := HB4.out.cells
      obtain ⟨s0, s1, s2⟩ := HB4.out.sets
      clear hb4
      go_wp2_with fail
      refine bodyPost_ret (v := .agg #[.int .i64 4, .int .i64 2, .string ⟨#[]⟩]) (by simp [results, Tryz.results49, go_sem, *]) rfl ?_
      exact ⟨by rw [VD.out], HB4.out.out _ _ _⟩
    · have c0 := fun w => numberValue_any R1 w
      simp only [if_neg g4] at c0
      have cn := hidv c0
      have VD : Hid (D = (1, R1)) := by show _ = _; rw [← HD.out]; simp [calcD, g4]
      clear g4 c0
      go_wp2_with fail
      refine (cn.out _).mono ?_
      rintro e w4 ⟨rfl, hb4⟩
      have HB4 := hidv (HB3.out.step hb4)
      obtain ⟨⟨x0, x1, x2⟩, ⟨x3, x4, x5⟩, ⟨x6, x7, x8⟩, x9, xx, xy⟩ := HB4.out.cells
      obtain ⟨s0, s1, s2⟩ := HB4.out.sets
      clear hb4
      go_wp2_with fail
      refine bodyPost_ret (v := .agg #[.int .i64 1, .int .i64 R1, .string ⟨#[]⟩]) (by simp [results, Tryz.results49, go_sem, *]) rfl ?_
      exact ⟨by rw [VD.out], HB4.out.out _ _ _⟩
  have q3 : (R2 == 0) = false := by simpa using g3
  by_cases g5 : R2 = 7
  · subst g5
    have c0 := fun w => faultValue_any 1 w
    simp only [if_neg (show ¬ ((1 : Int) < 1 ∨ 6 < (1 : Int)) by omega)] at c0
    have cf := hidv c0
    have VD : Hid (D = (4, 1)) := by show _ = _; rw [← HD.out]; simp [calcD]
    clear g3 c0
    go_wp2_with fail
    refine (cf.out _).mono ?_
    rintro e w4 ⟨rfl, hb4⟩
    have HB4 := hidv (HB3.out.step hb4)
    obtain ⟨⟨x0, x1, x2⟩, ⟨x3, x4, x5⟩, ⟨x6, x7, x8⟩, x9, xx, xy⟩ := HB4.out.cells
    obtain ⟨s0, s1, s2⟩ := HB4.out.sets
    clear hb4
    go_wp2_with fail
    refine bodyPost_ret (v := .agg #[.int .i64 4, .int .i64 1, .string ⟨#[]⟩]) (by simp [results, Tryz.results49, go_sem, *]) rfl ?_
    exact ⟨by rw [VD.out], HB4.out.out _ _ _⟩
  · have q5 : (R2 == 7) = false := by simpa using g5
    have c0 := fun w => faultValue_any 2 w
    simp only [if_neg (show ¬ ((2 : Int) < 1 ∨ 6 < (2 : Int)) by omega)] at c0
    have cf := hidv c0
    have VD : Hid (D = (4, 2)) := by show _ = _; rw [← HD.out]; simp [calcD, g3, g5]
    clear g3 g5 c0
    go_wp2_with fail
    refine (cf.out _).mono ?_
    rintro e w4 ⟨rfl, hb4⟩
    have HB4 := hidv (HB3.out.step hb4)
    obtain ⟨⟨x0, x1, x2⟩, ⟨x3, x4, x5⟩, ⟨x6, x7, x8⟩, x9, xx, xy⟩ := HB4.out.cells
    obtain ⟨s0, s1, s2⟩ := HB4.out.sets
    clear hb4
    go_wp2_with fail
    refine bodyPost_ret (v := .agg #[.int .i64 4, .int .i64 2, .string ⟨#[]⟩]) (by simp [results, Tryz.results49, go_sem, *]) rfl ?_
    exact ⟨by rw [VD.out], HB4.out.out _ _ _⟩
end Go.Proofs.YtjbkjeabobccaabGreatDoor
namespace Go.Proofs.YtjbkjeabobccaabGreatDoor
open Go.RowKit Go.Sort Go.Lib
set_option linter.unusedVariables false

set_option maxHeartbeats 4000000 in
set_option maxRecDepth 100000 in
theorem work_Sub (k1 n1 : Int) (t1 : ByteArray) (k2 n2 : Int) (t2 : ByteArray) (K1 N1 : Int) (T1 : ByteArray) (K2 N2 : Int) (T2 : ByteArray) (h1 : Cn k1 n1 t1 K1 N1 T1) (h2 : Cn k2 n2 t2 K2 N2 T2) (X E1 Y E2 R1 R2 : Int) (hx : numI K1 N1 T1 = (X, E1)) (hy : numI K2 N2 T2 = (Y, E2))
    (hg : E1 = 0 → E2 = 0 → ∀ w, Calls Tryz.prog 77 #[.int .i64 X, .int .i64 Y] w fun e w' => e = .returned (.tuple #[.int .i64 R1, .int .i64 R2]) ∧ Below w.heap.size w w') (w : World) (hE : Env w) (D : Int × Int × ByteArray)
    (hD : pick3 K1 N1 T1 K2 N2 T2 ((calcD E1 E2 R1 R2).1, (calcD E1 E2 R1 R2).2, ⟨#[]⟩) = D) :
    Calls Tryz.prog 23 #[.string ⟨#[45]⟩, .agg #[.int .i64 k1, .int .i64 n1, .string t1], .agg #[.int .i64 k2, .int .i64 n2, .string t2]] w fun e w' => e = .returned (.agg #[.int .i64 D.1, .int .i64 D.2.1, .string D.2.2]) ∧ Below w.heap.size w w' := by
  have ck := hidv (calculated_Sub K1 N1 T1 K2 N2 T2 X E1 Y E2 R1 R2 (cn_self h1) (cn_self h2) hx hy hg)
  have HE := hidv hE
  generalize (calcD E1 E2 R1 R2).1 = D1 at ck hD
  generalize (calcD E1 E2 R1 R2).2 = D2 at ck hD
  obtain ⟨DD, eDD⟩ : ∃ DD : Int × Int × ByteArray, DD = (D1, D2, ⟨#[]⟩) := ⟨_, rfl⟩
  rw [← eDD] at hD
  have HD := hidv hD
  have HDD := hidv eDD
  clear hD eDD hx hy hg hE
  have cc := hidv counted_cn
  have H1 := hidv h1
  have H2 := hidv h2
  go_enter Tryz.func23, Tryz.ntmps23
  go_upto_region 1 with fail
  go_cut [] from 11 (fun wx => Hid (TriB w wx 23 (.int .i64 K1) (.int .i64 N1) (.string T1) (.int .i64 K2) (.int .i64 N2) (.string T2) (.int .i64 0) (.int .i64 0) (.string ⟨#[]⟩)))
  case first =>
    have HX := hidv (triB_new w 23 (.int .i64 k1) (.int .i64 n1) (.string t1) (.int .i64 k2) (.int .i64 n2) (.string t2) (.int .i64 0) (.int .i64 0) (.string ⟨#[]⟩) ((((w.alloc (.cells #[.int .i64 k1, .int .i64 n1, .string t1] 23)).alloc (.cells #[.int .i64 k2, .int .i64 n2, .string t2] 23)).alloc (.cells #[.int .i64 0, .int .i64 0, .string ⟨#[]⟩] 23)).drew) rfl (by go_grown))
    obtain ⟨⟨x0, x1, x2⟩, ⟨x3, x4, x5⟩, ⟨x6, x7, x8⟩, x9, xx, xy⟩ := HX.out.cells
    obtain ⟨⟨xu0, xu1, xu2⟩, xu3, xu4, xu5⟩ := HX.out.free
    go_region_with (first | (go_at_call 39; refine (cc.out _ _ _ _ _ _ (by exact H1.out) _).mono ?_; rintro e w1 ⟨rfl, hb1⟩; have HT1 := hidv (HX.out.step hb1); obtain ⟨⟨c0, c1, c2⟩, ⟨c3, c4, c5⟩, ⟨c6, c7, c8⟩, c9, cx, cy⟩ := HT1.out.cells; obtain ⟨⟨cu0, cu1, cu2⟩, cu3, cu4, cu5⟩ := HT1.out.free; clear hb1) | (go_at_call 39; refine (cc.out _ _ _ _ _ _ (by exact H2.out) _).mono ?_; rintro e w2 ⟨rfl, hb2⟩; have HT2 := hidv (HT1.out.step hb2); obtain ⟨⟨d0, d1, d2⟩, ⟨d3, d4, d5⟩, ⟨d6, d7, d8⟩, d9, dx, dy⟩ := HT2.out.cells; obtain ⟨⟨du0, du1, du2⟩, du3, du4, du5⟩ := HT2.out.free; clear hb2))
    all_goals
      go_wp2_with fail
      go_meet
      exact hidv ((HT2.out.seta _ _ _).setb _ _ _)
  case rest =>
  have HC := hcut
  clear hcut cc
  obtain ⟨⟨p0, p1, p2⟩, ⟨p3, p4, p5⟩, ⟨p6, p7, p8⟩, p9, px, py⟩ := HC.out.cells
  obtain ⟨s0, s1, s2⟩ := HC.out.sets
  by_cases g1 : K1 = 4
  · subst g1
    have VD : Hid (pick3 4 N1 T1 K2 N2 T2 DD = (4, N1, T1)) := by show _ = _; simp [pick3]
    go_wp2_with fail
    refine bodyPost_ret (v := .agg #[.int .i64 4, .int .i64 N1, .string T1]) (by simp [results, Tryz.results23, go_sem, *]) rfl ?_
    exact ⟨by rw [← HD.out]; simp [VD.out], HC.out.out _ _ _⟩
  have q1 : (K1 == 4) = false := by simpa using g1
  by_cases g2 : K2 = 4
  · subst g2
    have VD : Hid (pick3 K1 N1 T1 4 N2 T2 DD = (4, N2, T2)) := by show _ = _; simp [pick3, g1]
    clear g1
    go_wp2_with fail
    refine bodyPost_ret (v := .agg #[.int .i64 4, .int .i64 N2, .string T2]) (by simp [results, Tryz.results23, go_sem, *]) rfl ?_
    exact ⟨by rw [← HD.out]; simp [VD.out], HC.out.out _ _ _⟩
  have q2 : (K2 == 4) = false := by simpa using g2
  have VD : Hid (pick3 K1 N1 T1 K2 N2 T2 DD = DD) := by show _ = _; simp [pick3, g1, g2]
  clear g1 g2
  have cm := hidv calculations_any
  go_wp2_with fail
  refine (cm.out _).mono ?_
  rintro e wm ⟨rfl, hwm⟩
  have hm : wm.heap[wc.heap.size]? = some (.map calcMap 5) := by rw [hwm]; show (wc.heap.push _)[_]? = _; rw [Array.getElem?_push_size]
  have HM := hidv (HC.out.step (w1 := wm) (by rw [hwm]; exact (Below.refl _ _).alloc (Nat.le_refl _) _))
  have hl := run_lookup_now (P := Tryz.prog) Tryz.underlying69 Tryz.underlying9 wm wc.heap.size calcMap 5 hm ⟨#[45]⟩ 1 (.func (.func 77) #[] #[]) rfl
  clear hm hwm p0 p1 p2 p3 p4 p5 p6 p7 p8 p9 px py s0 s1 s2
  obtain ⟨⟨m0, m1, m2⟩, ⟨m3, m4, m5⟩, ⟨m6, m7, m8⟩, m9, mx, my⟩ := HM.out.cells
  go_wp2_with fail
  refine (ck.out _ (HE.out.step HM.out.low)).mono ?_
  rintro e w5 ⟨rfl, hb5⟩
  have H5 := hidv (HM.out.step hb5)
  clear hb5 hl m0 m1 m2 m3 m4 m5 m6 m7 m8 m9 mx my
  obtain ⟨⟨n0, n1, n2⟩, ⟨n3, n4, n5⟩, ⟨n6, n7, n8⟩, n9, nx, ny⟩ := H5.out.cells
  obtain ⟨s0, s1, s2⟩ := H5.out.sets
  go_wp2_with fail
  refine bodyPost_ret (v := .agg #[.int .i64 D1, .int .i64 D2, .string ⟨#[]⟩]) (by simp [results, Tryz.results23, go_sem, *]) rfl ?_
  exact ⟨by rw [← HD.out, VD.out, HDD.out], H5.out.out _ _ _⟩

set_option maxHeartbeats 4000000 in
set_option maxRecDepth 100000 in
theorem work_Mul (k1 n1 : Int) (t1 : ByteArray) (k2 n2 : Int) (t2 : ByteArray) (K1 N1 : Int) (T1 : ByteArray) (K2 N2 : Int) (T2 : ByteArray) (h1 : Cn k1 n1 t1 K1 N1 T1) (h2 : Cn k2 n2 t2 K2 N2 T2) (X E1 Y E2 R1 R2 : Int) (hx : numI K1 N1 T1 = (X, E1)) (hy : numI K2 N2 T2 = (Y, E2))
    (hg : E1 = 0 → E2 = 0 → ∀ w, Calls Tryz.prog 78 #[.int .i64 X, .int .i64 Y] w fun e w' => e = .returned (.tuple #[.int .i64 R1, .int .i64 R2]) ∧ Below w.heap.size w w') (w : World) (hE : Env w) (D : Int × Int × ByteArray)
    (hD : pick3 K1 N1 T1 K2 N2 T2 ((calcD E1 E2 R1 R2).1, (calcD E1 E2 R1 R2).2, ⟨#[]⟩) = D) :
    Calls Tryz.prog 23 #[.string ⟨#[42]⟩, .agg #[.int .i64 k1, .int .i64 n1, .string t1], .agg #[.int .i64 k2, .int .i64 n2, .string t2]] w fun e w' => e = .returned (.agg #[.int .i64 D.1, .int .i64 D.2.1, .string D.2.2]) ∧ Below w.heap.size w w' := by
  have ck := hidv (calculated_Mul K1 N1 T1 K2 N2 T2 X E1 Y E2 R1 R2 (cn_self h1) (cn_self h2) hx hy hg)
  have HE := hidv hE
  generalize (calcD E1 E2 R1 R2).1 = D1 at ck hD
  generalize (calcD E1 E2 R1 R2).2 = D2 at ck hD
  obtain ⟨DD, eDD⟩ : ∃ DD : Int × Int × ByteArray, DD = (D1, D2, ⟨#[]⟩) := ⟨_, rfl⟩
  rw [← eDD] at hD
  have HD := hidv hD
  have HDD := hidv eDD
  clear hD eDD hx hy hg hE
  have cc := hidv counted_cn
  have H1 := hidv h1
  have H2 := hidv h2
  go_enter Tryz.func23, Tryz.ntmps23
  go_upto_region 1 with fail
  go_cut [] from 11 (fun wx => Hid (TriB w wx 23 (.int .i64 K1) (.int .i64 N1) (.string T1) (.int .i64 K2) (.int .i64 N2) (.string T2) (.int .i64 0) (.int .i64 0) (.string ⟨#[]⟩)))
  case first =>
    have HX := hidv (triB_new w 23 (.int .i64 k1) (.int .i64 n1) (.string t1) (.int .i64 k2) (.int .i64 n2) (.string t2) (.int .i64 0) (.int .i64 0) (.string ⟨#[]⟩) ((((w.alloc (.cells #[.int .i64 k1, .int .i64 n1, .string t1] 23)).alloc (.cells #[.int .i64 k2, .int .i64 n2, .string t2] 23)).alloc (.cells #[.int .i64 0, .int .i64 0, .string ⟨#[]⟩] 23)).drew) rfl (by go_grown))
    obtain ⟨⟨x0, x1, x2⟩, ⟨x3, x4, x5⟩, ⟨x6, x7, x8⟩, x9, xx, xy⟩ := HX.out.cells
    obtain ⟨⟨xu0, xu1, xu2⟩, xu3, xu4, xu5⟩ := HX.out.free
    go_region_with (first | (go_at_call 39; refine (cc.out _ _ _ _ _ _ (by exact H1.out) _).mono ?_; rintro e w1 ⟨rfl, hb1⟩; have HT1 := hidv (HX.out.step hb1); obtain ⟨⟨c0, c1, c2⟩, ⟨c3, c4, c5⟩, ⟨c6, c7, c8⟩, c9, cx, cy⟩ := HT1.out.cells; obtain ⟨⟨cu0, cu1, cu2⟩, cu3, cu4, cu5⟩ := HT1.out.free; clear hb1) | (go_at_call 39; refine (cc.out _ _ _ _ _ _ (by exact H2.out) _).mono ?_; rintro e w2 ⟨rfl, hb2⟩; have HT2 := hidv (HT1.out.step hb2); obtain ⟨⟨d0, d1, d2⟩, ⟨d3, d4, d5⟩, ⟨d6, d7, d8⟩, d9, dx, dy⟩ := HT2.out.cells; obtain ⟨⟨du0, du1, du2⟩, du3, du4, du5⟩ := HT2.out.free; clear hb2))
    all_goals
      go_wp2_with fail
      go_meet
      exact hidv ((HT2.out.seta _ _ _).setb _ _ _)
  case rest =>
  have HC := hcut
  clear hcut cc
  obtain ⟨⟨p0, p1, p2⟩, ⟨p3, p4, p5⟩, ⟨p6, p7, p8⟩, p9, px, py⟩ := HC.out.cells
  obtain ⟨s0, s1, s2⟩ := HC.out.sets
  by_cases g1 : K1 = 4
  · subst g1
    have VD : Hid (pick3 4 N1 T1 K2 N2 T2 DD = (4, N1, T1)) := by show _ = _; simp [pick3]
    go_wp2_with fail
    refine bodyPost_ret (v := .agg #[.int .i64 4, .int .i64 N1, .string T1]) (by simp [results, Tryz.results23, go_sem, *]) rfl ?_
    exact ⟨by rw [← HD.out]; simp [VD.out], HC.out.out _ _ _⟩
  have q1 : (K1 == 4) = false := by simpa using g1
  by_cases g2 : K2 = 4
  · subst g2
    have VD : Hid (pick3 K1 N1 T1 4 N2 T2 DD = (4, N2, T2)) := by show _ = _; simp [pick3, g1]
    clear g1
    go_wp2_with fail
    refine bodyPost_ret (v := .agg #[.int .i64 4, .int .i64 N2, .string T2]) (by simp [results, Tryz.results23, go_sem, *]) rfl ?_
    exact ⟨by rw [← HD.out]; simp [VD.out], HC.out.out _ _ _⟩
  have q2 : (K2 == 4) = false := by simpa using g2
  have VD : Hid (pick3 K1 N1 T1 K2 N2 T2 DD = DD) := by show _ = _; simp [pick3, g1, g2]
  clear g1 g2
  have cm := hidv calculations_any
  go_wp2_with fail
  refine (cm.out _).mono ?_
  rintro e wm ⟨rfl, hwm⟩
  have hm : wm.heap[wc.heap.size]? = some (.map calcMap 5) := by rw [hwm]; show (wc.heap.push _)[_]? = _; rw [Array.getElem?_push_size]
  have HM := hidv (HC.out.step (w1 := wm) (by rw [hwm]; exact (Below.refl _ _).alloc (Nat.le_refl _) _))
  have hl := run_lookup_now (P := Tryz.prog) Tryz.underlying69 Tryz.underlying9 wm wc.heap.size calcMap 5 hm ⟨#[42]⟩ 2 (.func (.func 78) #[] #[]) rfl
  clear hm hwm p0 p1 p2 p3 p4 p5 p6 p7 p8 p9 px py s0 s1 s2
  obtain ⟨⟨m0, m1, m2⟩, ⟨m3, m4, m5⟩, ⟨m6, m7, m8⟩, m9, mx, my⟩ := HM.out.cells
  go_wp2_with fail
  refine (ck.out _ (HE.out.step HM.out.low)).mono ?_
  rintro e w5 ⟨rfl, hb5⟩
  have H5 := hidv (HM.out.step hb5)
  clear hb5 hl m0 m1 m2 m3 m4 m5 m6 m7 m8 m9 mx my
  obtain ⟨⟨n0, n1, n2⟩, ⟨n3, n4, n5⟩, ⟨n6, n7, n8⟩, n9, nx, ny⟩ := H5.out.cells
  obtain ⟨s0, s1, s2⟩ := H5.out.sets
  go_wp2_with fail
  refine bodyPost_ret (v := .agg #[.int .i64 D1, .int .i64 D2, .string ⟨#[]⟩]) (by simp [results, Tryz.results23, go_sem, *]) rfl ?_
  exact ⟨by rw [← HD.out, VD.out, HDD.out], H5.out.out _ _ _⟩

set_option maxHeartbeats 4000000 in
set_option maxRecDepth 100000 in
theorem work_Div (k1 n1 : Int) (t1 : ByteArray) (k2 n2 : Int) (t2 : ByteArray) (K1 N1 : Int) (T1 : ByteArray) (K2 N2 : Int) (T2 : ByteArray) (h1 : Cn k1 n1 t1 K1 N1 T1) (h2 : Cn k2 n2 t2 K2 N2 T2) (X E1 Y E2 R1 R2 : Int) (hx : numI K1 N1 T1 = (X, E1)) (hy : numI K2 N2 T2 = (Y, E2))
    (hg : E1 = 0 → E2 = 0 → ∀ w, Calls Tryz.prog 79 #[.int .i64 X, .int .i64 Y] w fun e w' => e = .returned (.tuple #[.int .i64 R1, .int .i64 R2]) ∧ Below w.heap.size w w') (w : World) (hE : Env w) (D : Int × Int × ByteArray)
    (hD : pick3 K1 N1 T1 K2 N2 T2 ((calcD E1 E2 R1 R2).1, (calcD E1 E2 R1 R2).2, ⟨#[]⟩) = D) :
    Calls Tryz.prog 23 #[.string ⟨#[47]⟩, .agg #[.int .i64 k1, .int .i64 n1, .string t1], .agg #[.int .i64 k2, .int .i64 n2, .string t2]] w fun e w' => e = .returned (.agg #[.int .i64 D.1, .int .i64 D.2.1, .string D.2.2]) ∧ Below w.heap.size w w' := by
  have ck := hidv (calculated_Div K1 N1 T1 K2 N2 T2 X E1 Y E2 R1 R2 (cn_self h1) (cn_self h2) hx hy hg)
  have HE := hidv hE
  generalize (calcD E1 E2 R1 R2).1 = D1 at ck hD
  generalize (calcD E1 E2 R1 R2).2 = D2 at ck hD
  obtain ⟨DD, eDD⟩ : ∃ DD : Int × Int × ByteArray, DD = (D1, D2, ⟨#[]⟩) := ⟨_, rfl⟩
  rw [← eDD] at hD
  have HD := hidv hD
  have HDD := hidv eDD
  clear hD eDD hx hy hg hE
  have cc := hidv counted_cn
  have H1 := hidv h1
  have H2 := hidv h2
  go_enter Tryz.func23, Tryz.ntmps23
  go_upto_region 1 with fail
  go_cut [] from 11 (fun wx => Hid (TriB w wx 23 (.int .i64 K1) (.int .i64 N1) (.string T1) (.int .i64 K2) (.int .i64 N2) (.string T2) (.int .i64 0) (.int .i64 0) (.string ⟨#[]⟩)))
  case first =>
    have HX := hidv (triB_new w 23 (.int .i64 k1) (.int .i64 n1) (.string t1) (.int .i64 k2) (.int .i64 n2) (.string t2) (.int .i64 0) (.int .i64 0) (.string ⟨#[]⟩) ((((w.alloc (.cells #[.int .i64 k1, .int .i64 n1, .string t1] 23)).alloc (.cells #[.int .i64 k2, .int .i64 n2, .string t2] 23)).alloc (.cells #[.int .i64 0, .int .i64 0, .string ⟨#[]⟩] 23)).drew) rfl (by go_grown))
    obtain ⟨⟨x0, x1, x2⟩, ⟨x3, x4, x5⟩, ⟨x6, x7, x8⟩, x9, xx, xy⟩ := HX.out.cells
    obtain ⟨⟨xu0, xu1, xu2⟩, xu3, xu4, xu5⟩ := HX.out.free
    go_region_with (first | (go_at_call 39; refine (cc.out _ _ _ _ _ _ (by exact H1.out) _).mono ?_; rintro e w1 ⟨rfl, hb1⟩; have HT1 := hidv (HX.out.step hb1); obtain ⟨⟨c0, c1, c2⟩, ⟨c3, c4, c5⟩, ⟨c6, c7, c8⟩, c9, cx, cy⟩ := HT1.out.cells; obtain ⟨⟨cu0, cu1, cu2⟩, cu3, cu4, cu5⟩ := HT1.out.free; clear hb1) | (go_at_call 39; refine (cc.out _ _ _ _ _ _ (by exact H2.out) _).mono ?_; rintro e w2 ⟨rfl, hb2⟩; have HT2 := hidv (HT1.out.step hb2); obtain ⟨⟨d0, d1, d2⟩, ⟨d3, d4, d5⟩, ⟨d6, d7, d8⟩, d9, dx, dy⟩ := HT2.out.cells; obtain ⟨⟨du0, du1, du2⟩, du3, du4, du5⟩ := HT2.out.free; clear hb2))
    all_goals
      go_wp2_with fail
      go_meet
      exact hidv ((HT2.out.seta _ _ _).setb _ _ _)
  case rest =>
  have HC := hcut
  clear hcut cc
  obtain ⟨⟨p0, p1, p2⟩, ⟨p3, p4, p5⟩, ⟨p6, p7, p8⟩, p9, px, py⟩ := HC.out.cells
  obtain ⟨s0, s1, s2⟩ := HC.out.sets
  by_cases g1 : K1 = 4
  · subst g1
    have VD : Hid (pick3 4 N1 T1 K2 N2 T2 DD = (4, N1, T1)) := by show _ = _; simp [pick3]
    go_wp2_with fail
    refine bodyPost_ret (v := .agg #[.int .i64 4, .int .i64 N1, .string T1]) (by simp [results, Tryz.results23, go_sem, *]) rfl ?_
    exact ⟨by rw [← HD.out]; simp [VD.out], HC.out.out _ _ _⟩
  have q1 : (K1 == 4) = false := by simpa using g1
  by_cases g2 : K2 = 4
  · subst g2
    have VD : Hid (pick3 K1 N1 T1 4 N2 T2 DD = (4, N2, T2)) := by show _ = _; simp [pick3, g1]
    clear g1
    go_wp2_with fail
    refine bodyPost_ret (v := .agg #[.int .i64 4, .int .i64 N2, .string T2]) (by simp [results, Tryz.results23, go_sem, *]) rfl ?_
    exact ⟨by rw [← HD.out]; simp [VD.out], HC.out.out _ _ _⟩
  have q2 : (K2 == 4) = false := by simpa using g2
  have VD : Hid (pick3 K1 N1 T1 K2 N2 T2 DD = DD) := by show _ = _; simp [pick3, g1, g2]
  clear g1 g2
  have cm := hidv calculations_any
  go_wp2_with fail
  refine (cm.out _).mono ?_
  rintro e wm ⟨rfl, hwm⟩
  have hm : wm.heap[wc.heap.size]? = some (.map calcMap 5) := by rw [hwm]; show (wc.heap.push _)[_]? = _; rw [Array.getElem?_push_size]
  have HM := hidv (HC.out.step (w1 := wm) (by rw [hwm]; exact (Below.refl _ _).alloc (Nat.le_refl _) _))
  have hl := run_lookup_now (P := Tryz.prog) Tryz.underlying69 Tryz.underlying9 wm wc.heap.size calcMap 5 hm ⟨#[47]⟩ 3 (.func (.func 79) #[] #[]) rfl
  clear hm hwm p0 p1 p2 p3 p4 p5 p6 p7 p8 p9 px py s0 s1 s2
  obtain ⟨⟨m0, m1, m2⟩, ⟨m3, m4, m5⟩, ⟨m6, m7, m8⟩, m9, mx, my⟩ := HM.out.cells
  go_wp2_with fail
  refine (ck.out _ (HE.out.step HM.out.low)).mono ?_
  rintro e w5 ⟨rfl, hb5⟩
  have H5 := hidv (HM.out.step hb5)
  clear hb5 hl m0 m1 m2 m3 m4 m5 m6 m7 m8 m9 mx my
  obtain ⟨⟨n0, n1, n2⟩, ⟨n3, n4, n5⟩, ⟨n6, n7, n8⟩, n9, nx, ny⟩ := H5.out.cells
  obtain ⟨s0, s1, s2⟩ := H5.out.sets
  go_wp2_with fail
  refine bodyPost_ret (v := .agg #[.int .i64 D1, .int .i64 D2, .string ⟨#[]⟩]) (by simp [results, Tryz.results23, go_sem, *]) rfl ?_
  exact ⟨by rw [← HD.out, VD.out, HDD.out], H5.out.out _ _ _⟩

set_option maxHeartbeats 4000000 in
set_option maxRecDepth 100000 in
theorem work_Pow (k1 n1 : Int) (t1 : ByteArray) (k2 n2 : Int) (t2 : ByteArray) (K1 N1 : Int) (T1 : ByteArray) (K2 N2 : Int) (T2 : ByteArray) (h1 : Cn k1 n1 t1 K1 N1 T1) (h2 : Cn k2 n2 t2 K2 N2 T2) (X E1 Y E2 R1 R2 : Int) (hx : numI K1 N1 T1 = (X, E1)) (hy : numI K2 N2 T2 = (Y, E2))
    (hg : E1 = 0 → E2 = 0 → ∀ w, Calls Tryz.prog 80 #[.int .i64 X, .int .i64 Y] w fun e w' => e = .returned (.tuple #[.int .i64 R1, .int .i64 R2]) ∧ Below w.heap.size w w') (w : World) (hE : Env w) (D : Int × Int × ByteArray)
    (hD : pick3 K1 N1 T1 K2 N2 T2 ((calcD E1 E2 R1 R2).1, (calcD E1 E2 R1 R2).2, ⟨#[]⟩) = D) :
    Calls Tryz.prog 23 #[.string ⟨#[94]⟩, .agg #[.int .i64 k1, .int .i64 n1, .string t1], .agg #[.int .i64 k2, .int .i64 n2, .string t2]] w fun e w' => e = .returned (.agg #[.int .i64 D.1, .int .i64 D.2.1, .string D.2.2]) ∧ Below w.heap.size w w' := by
  have ck := hidv (calculated_Pow K1 N1 T1 K2 N2 T2 X E1 Y E2 R1 R2 (cn_self h1) (cn_self h2) hx hy hg)
  have HE := hidv hE
  generalize (calcD E1 E2 R1 R2).1 = D1 at ck hD
  generalize (calcD E1 E2 R1 R2).2 = D2 at ck hD
  obtain ⟨DD, eDD⟩ : ∃ DD : Int × Int × ByteArray, DD = (D1, D2, ⟨#[]⟩) := ⟨_, rfl⟩
  rw [← eDD] at hD
  have HD := hidv hD
  have HDD := hidv eDD
  clear hD eDD hx hy hg hE
  have cc := hidv counted_cn
  have H1 := hidv h1
  have H2 := hidv h2
  go_enter Tryz.func23, Tryz.ntmps23
  go_upto_region 1 with fail
  go_cut [] from 11 (fun wx => Hid (TriB w wx 23 (.int .i64 K1) (.int .i64 N1) (.string T1) (.int .i64 K2) (.int .i64 N2) (.string T2) (.int .i64 0) (.int .i64 0) (.string ⟨#[]⟩)))
  case first =>
    have HX := hidv (triB_new w 23 (.int .i64 k1) (.int .i64 n1) (.string t1) (.int .i64 k2) (.int .i64 n2) (.string t2) (.int .i64 0) (.int .i64 0) (.string ⟨#[]⟩) ((((w.alloc (.cells #[.int .i64 k1, .int .i64 n1, .string t1] 23)).alloc (.cells #[.int .i64 k2, .int .i64 n2, .string t2] 23)).alloc (.cells #[.int .i64 0, .int .i64 0, .string ⟨#[]⟩] 23)).drew) rfl (by go_grown))
    obtain ⟨⟨x0, x1, x2⟩, ⟨x3, x4, x5⟩, ⟨x6, x7, x8⟩, x9, xx, xy⟩ := HX.out.cells
    obtain ⟨⟨xu0, xu1, xu2⟩, xu3, xu4, xu5⟩ := HX.out.free
    go_region_with (first | (go_at_call 39; refine (cc.out _ _ _ _ _ _ (by exact H1.out) _).mono ?_; rintro e w1 ⟨rfl, hb1⟩; have HT1 := hidv (HX.out.step hb1); obtain ⟨⟨c0, c1, c2⟩, ⟨c3, c4, c5⟩, ⟨c6, c7, c8⟩, c9, cx, cy⟩ := HT1.out.cells; obtain ⟨⟨cu0, cu1, cu2⟩, cu3, cu4, cu5⟩ := HT1.out.free; clear hb1) | (go_at_call 39; refine (cc.out _ _ _ _ _ _ (by exact H2.out) _).mono ?_; rintro e w2 ⟨rfl, hb2⟩; have HT2 := hidv (HT1.out.step hb2); obtain ⟨⟨d0, d1, d2⟩, ⟨d3, d4, d5⟩, ⟨d6, d7, d8⟩, d9, dx, dy⟩ := HT2.out.cells; obtain ⟨⟨du0, du1, du2⟩, du3, du4, du5⟩ := HT2.out.free; clear hb2))
    all_goals
      go_wp2_with fail
      go_meet
      exact hidv ((HT2.out.seta _ _ _).setb _ _ _)
  case rest =>
  have HC := hcut
  clear hcut cc
  obtain ⟨⟨p0, p1, p2⟩, ⟨p3, p4, p5⟩, ⟨p6, p7, p8⟩, p9, px, py⟩ := HC.out.cells
  obtain ⟨s0, s1, s2⟩ := HC.out.sets
  by_cases g1 : K1 = 4
  · subst g1
    have VD : Hid (pick3 4 N1 T1 K2 N2 T2 DD = (4, N1, T1)) := by show _ = _; simp [pick3]
    go_wp2_with fail
    refine bodyPost_ret (v := .agg #[.int .i64 4, .int .i64 N1, .string T1]) (by simp [results, Tryz.results23, go_sem, *]) rfl ?_
    exact ⟨by rw [← HD.out]; simp [VD.out], HC.out.out _ _ _⟩
  have q1 : (K1 == 4) = false := by simpa using g1
  by_cases g2 : K2 = 4
  · subst g2
    have VD : Hid (pick3 K1 N1 T1 4 N2 T2 DD = (4, N2, T2)) := by show _ = _; simp [pick3, g1]
    clear g1
    go_wp2_with fail
    refine bodyPost_ret (v := .agg #[.int .i64 4, .int .i64 N2, .string T2]) (by simp [results, Tryz.results23, go_sem, *]) rfl ?_
    exact ⟨by rw [← HD.out]; simp [VD.out], HC.out.out _ _ _⟩
  have q2 : (K2 == 4) = false := by simpa using g2
  have VD : Hid (pick3 K1 N1 T1 K2 N2 T2 DD = DD) := by show _ = _; simp [pick3, g1, g2]
  clear g1 g2
  have cm := hidv calculations_any
  go_wp2_with fail
  refine (cm.out _).mono ?_
  rintro e wm ⟨rfl, hwm⟩
  have hm : wm.heap[wc.heap.size]? = some (.map calcMap 5) := by rw [hwm]; show (wc.heap.push _)[_]? = _; rw [Array.getElem?_push_size]
  have HM := hidv (HC.out.step (w1 := wm) (by rw [hwm]; exact (Below.refl _ _).alloc (Nat.le_refl _) _))
  have hl := run_lookup_now (P := Tryz.prog) Tryz.underlying69 Tryz.underlying9 wm wc.heap.size calcMap 5 hm ⟨#[94]⟩ 4 (.func (.func 80) #[] #[]) rfl
  clear hm hwm p0 p1 p2 p3 p4 p5 p6 p7 p8 p9 px py s0 s1 s2
  obtain ⟨⟨m0, m1, m2⟩, ⟨m3, m4, m5⟩, ⟨m6, m7, m8⟩, m9, mx, my⟩ := HM.out.cells
  go_wp2_with fail
  refine (ck.out _ (HE.out.step HM.out.low)).mono ?_
  rintro e w5 ⟨rfl, hb5⟩
  have H5 := hidv (HM.out.step hb5)
  clear hb5 hl m0 m1 m2 m3 m4 m5 m6 m7 m8 m9 mx my
  obtain ⟨⟨n0, n1, n2⟩, ⟨n3, n4, n5⟩, ⟨n6, n7, n8⟩, n9, nx, ny⟩ := H5.out.cells
  obtain ⟨s0, s1, s2⟩ := H5.out.sets
  go_wp2_with fail
  refine bodyPost_ret (v := .agg #[.int .i64 D1, .int .i64 D2, .string ⟨#[]⟩]) (by simp [results, Tryz.results23, go_sem, *]) rfl ?_
  exact ⟨by rw [← HD.out, VD.out, HDD.out], H5.out.out _ _ _⟩
end Go.Proofs.YtjbkjeabobccaabGreatDoor
namespace Go.Proofs.YtjbkjeabobccaabGreatDoor
open Go.RowKit Go.Sort Go.Lib
set_option linter.unusedVariables false

def operMap : Array MapEntry := #[⟨.string ⟨#[38]⟩, .func (.func 81) #[] #[], 0⟩, ⟨.string ⟨#[61]⟩, .func (.func 82) #[] #[], 1⟩, ⟨.string ⟨#[60, 62]⟩, .func (.func 83) #[] #[], 2⟩, ⟨.string ⟨#[60]⟩, .func (.func 84) #[] #[], 3⟩, ⟨.string ⟨#[60, 61]⟩, .func (.func 85) #[] #[], 4⟩, ⟨.string ⟨#[62]⟩, .func (.func 86) #[] #[], 5⟩, ⟨.string ⟨#[62, 61]⟩, .func (.func 87) #[] #[], 6⟩]
set_option maxHeartbeats 800000 in
theorem operators_any (w : World) : Calls Tryz.prog 50 #[] w fun e w' => e = .returned (.map (some w.heap.size)) ∧ w' = w.alloc (.map operMap 7) := by
  have hmm := @run_makeMap Tryz.prog
  go_enter Tryz.func50, Tryz.ntmps50
  go_wp2_with (refine wpList_insert_now _ rfl _ _ _ _ rfl _ _ Tryz.underlying75 Tryz.underlying9 _ _ rfl _ _ rfl rfl (by rfl) ?_)
  go_ret
  exact ⟨rfl, rfl⟩
theorem cmpB_range : ∀ (l m : List UInt8), Lib.compareBytes l m = -1 ∨ Lib.compareBytes l m = 0 ∨ Lib.compareBytes l m = 1
  | [], [] => by simp [Lib.compareBytes]
  | [], _ :: _ => by simp [Lib.compareBytes]
  | _ :: _, [] => by simp [Lib.compareBytes]
  | a :: l, b :: m => by
    rw [Lib.compareBytes]
    split
    · simp
    · split
      · simp
      · exact cmpB_range l m
theorem cmpI_range (x y : Int) : Lib.compareInt x y = -1 ∨ Lib.compareInt x y = 0 ∨ Lib.compareInt x y = 1 := by
  unfold Lib.compareInt
  split
  · simp
  · split <;> simp
theorem ord_range (k1 n1 : Int) (t1 : ByteArray) (k2 n2 : Int) (t2 : ByteArray) : ordI k1 n1 t1 k2 n2 t2 = -1 ∨ ordI k1 n1 t1 k2 n2 t2 = 0 ∨ ordI k1 n1 t1 k2 n2 t2 = 1 := by
  unfold ordI ordT
  repeat' split
  all_goals first | exact cmpB_range _ _ | exact cmpI_range _ _ | simp
/-- What a comparison makes of an order. -/
def tst (i : Nat) (R : Int) : Int := if (match i with | 1 => decide (R = 0) | 2 => decide (R ≠ 0) | 3 => decide (R < 0) | 4 => decide (R ≤ 0) | 5 => decide (0 < R) | _ => decide (0 ≤ R)) then 1 else 0

set_option maxHeartbeats 2000000 in
set_option maxRecDepth 100000 in
theorem oper_1 (K1 N1 : Int) (T1 : ByteArray) (K2 N2 : Int) (T2 : ByteArray) (c1 : Cn K1 N1 T1 K1 N1 T1) (c2 : Cn K2 N2 T2 K2 N2 T2) (w : World) :
    Calls Tryz.prog 82 #[.agg #[.int .i64 K1, .int .i64 N1, .string T1], .agg #[.int .i64 K2, .int .i64 N2, .string T2]] w fun e w' => e = .returned (.agg #[.int .i64 3, .int .i64 (tst 1 (ordI K1 N1 T1 K2 N2 T2)), .string ⟨#[]⟩]) ∧ Below w.heap.size w w' := by
  have co0 := order_cn K1 N1 T1 K2 N2 T2 K1 N1 T1 K2 N2 T2 c1 c2
  have hr := ord_range K1 N1 T1 K2 N2 T2
  generalize ordI K1 N1 T1 K2 N2 T2 = R at co0 hr ⊢
  have co := hidv co0
  have ct := hidv truthValue_any
  have HB := hidv (triB_new w 23 (.int .i64 K1) (.int .i64 N1) (.string T1) (.int .i64 K2) (.int .i64 N2) (.string T2) (.int .i64 0) (.int .i64 0) (.string ⟨#[]⟩) (((w.alloc (.cells #[.int .i64 K1, .int .i64 N1, .string T1] 23)).alloc (.cells #[.int .i64 K2, .int .i64 N2, .string T2] 23)).alloc (.cells #[.int .i64 0, .int .i64 0, .string ⟨#[]⟩] 23)) rfl (by go_grown))
  clear co0 c1 c2
  rcases hr with h | h | h
  · subst h
    rw [show tst 1 (-1) = 0 by rfl]
    go_enter Tryz.func82, Tryz.ntmps82
    go_wp2_with fail
    refine (co.out _).mono ?_
    rintro e w1 ⟨rfl, hb1⟩
    have HB1 := hidv (HB.out.step hb1)
    obtain ⟨⟨x0, x1, x2⟩, ⟨x3, x4, x5⟩, ⟨x6, x7, x8⟩, x9, xx, xy⟩ := HB1.out.cells
    obtain ⟨s0, s1, s2⟩ := HB1.out.sets
    clear hb1
    go_wp2_with fail
    refine (ct.out _ _).mono ?_
    rintro e w2 ⟨rfl, hb2⟩
    have HB2 := hidv (HB1.out.step hb2)
    obtain ⟨⟨x0, x1, x2⟩, ⟨x3, x4, x5⟩, ⟨x6, x7, x8⟩, x9, xx, xy⟩ := HB2.out.cells
    obtain ⟨s0, s1, s2⟩ := HB2.out.sets
    clear hb2
    go_wp2_with fail
    refine bodyPost_ret (v := .agg #[.int .i64 3, .int .i64 0, .string ⟨#[]⟩]) (by simp [results, Tryz.results82, go_sem, *]) rfl ?_
    exact ⟨rfl, HB2.out.out _ _ _⟩
  · subst h
    rw [show tst 1 (0) = 1 by rfl]
    go_enter Tryz.func82, Tryz.ntmps82
    go_wp2_with fail
    refine (co.out _).mono ?_
    rintro e w1 ⟨rfl, hb1⟩
    have HB1 := hidv (HB.out.step hb1)
    obtain ⟨⟨x0, x1, x2⟩, ⟨x3, x4, x5⟩, ⟨x6, x7, x8⟩, x9, xx, xy⟩ := HB1.out.cells
    obtain ⟨s0, s1, s2⟩ := HB1.out.sets
    clear hb1
    go_wp2_with fail
    refine (ct.out _ _).mono ?_
    rintro e w2 ⟨rfl, hb2⟩
    have HB2 := hidv (HB1.out.step hb2)
    obtain ⟨⟨x0, x1, x2⟩, ⟨x3, x4, x5⟩, ⟨x6, x7, x8⟩, x9, xx, xy⟩ := HB2.out.cells
    obtain ⟨s0, s1, s2⟩ := HB2.out.sets
    clear hb2
    go_wp2_with fail
    refine bodyPost_ret (v := .agg #[.int .i64 3, .int .i64 1, .string ⟨#[]⟩]) (by simp [results, Tryz.results82, go_sem, *]) rfl ?_
    exact ⟨rfl, HB2.out.out _ _ _⟩
  · subst h
    rw [show tst 1 (1) = 0 by rfl]
    go_enter Tryz.func82, Tryz.ntmps82
    go_wp2_with fail
    refine (co.out _).mono ?_
    rintro e w1 ⟨rfl, hb1⟩
    have HB1 := hidv (HB.out.step hb1)
    obtain ⟨⟨x0, x1, x2⟩, ⟨x3, x4, x5⟩, ⟨x6, x7, x8⟩, x9, xx, xy⟩ := HB1.out.cells
    obtain ⟨s0, s1, s2⟩ := HB1.out.sets
    clear hb1
    go_wp2_with fail
    refine (ct.out _ _).mono ?_
    rintro e w2 ⟨rfl, hb2⟩
    have HB2 := hidv (HB1.out.step hb2)
    obtain ⟨⟨x0, x1, x2⟩, ⟨x3, x4, x5⟩, ⟨x6, x7, x8⟩, x9, xx, xy⟩ := HB2.out.cells
    obtain ⟨s0, s1, s2⟩ := HB2.out.sets
    clear hb2
    go_wp2_with fail
    refine bodyPost_ret (v := .agg #[.int .i64 3, .int .i64 0, .string ⟨#[]⟩]) (by simp [results, Tryz.results82, go_sem, *]) rfl ?_
    exact ⟨rfl, HB2.out.out _ _ _⟩

set_option maxHeartbeats 2000000 in
set_option maxRecDepth 100000 in
theorem oper_2 (K1 N1 : Int) (T1 : ByteArray) (K2 N2 : Int) (T2 : ByteArray) (c1 : Cn K1 N1 T1 K1 N1 T1) (c2 : Cn K2 N2 T2 K2 N2 T2) (w : World) :
    Calls Tryz.prog 83 #[.agg #[.int .i64 K1, .int .i64 N1, .string T1], .agg #[.int .i64 K2, .int .i64 N2, .string T2]] w fun e w' => e = .returned (.agg #[.int .i64 3, .int .i64 (tst 2 (ordI K1 N1 T1 K2 N2 T2)), .string ⟨#[]⟩]) ∧ Below w.heap.size w w' := by
  have co0 := order_cn K1 N1 T1 K2 N2 T2 K1 N1 T1 K2 N2 T2 c1 c2
  have hr := ord_range K1 N1 T1 K2 N2 T2
  generalize ordI K1 N1 T1 K2 N2 T2 = R at co0 hr ⊢
  have co := hidv co0
  have ct := hidv truthValue_any
  have HB := hidv (triB_new w 23 (.int .i64 K1) (.int .i64 N1) (.string T1) (.int .i64 K2) (.int .i64 N2) (.string T2) (.int .i64 0) (.int .i64 0) (.string ⟨#[]⟩) (((w.alloc (.cells #[.int .i64 K1, .int .i64 N1, .string T1] 23)).alloc (.cells #[.int .i64 K2, .int .i64 N2, .string T2] 23)).alloc (.cells #[.int .i64 0, .int .i64 0, .string ⟨#[]⟩] 23)) rfl (by go_grown))
  clear co0 c1 c2
  rcases hr with h | h | h
  · subst h
    rw [show tst 2 (-1) = 1 by rfl]
    go_enter Tryz.func83, Tryz.ntmps83
    go_wp2_with fail
    refine (co.out _).mono ?_
    rintro e w1 ⟨rfl, hb1⟩
    have HB1 := hidv (HB.out.step hb1)
    obtain ⟨⟨x0, x1, x2⟩, ⟨x3, x4, x5⟩, ⟨x6, x7, x8⟩, x9, xx, xy⟩ := HB1.out.cells
    obtain ⟨s0, s1, s2⟩ := HB1.out.sets
    clear hb1
    go_wp2_with fail
    refine (ct.out _ _).mono ?_
    rintro e w2 ⟨rfl, hb2⟩
    have HB2 := hidv (HB1.out.step hb2)
    obtain ⟨⟨x0, x1, x2⟩, ⟨x3, x4, x5⟩, ⟨x6, x7, x8⟩, x9, xx, xy⟩ := HB2.out.cells
    obtain ⟨s0, s1, s2⟩ := HB2.out.sets
    clear hb2
    go_wp2_with fail
    refine bodyPost_ret (v := .agg #[.int .i64 3, .int .i64 1, .string ⟨#[]⟩]) (by simp [results, Tryz.results83, go_sem, *]) rfl ?_
    exact ⟨rfl, HB2.out.out _ _ _⟩
  · subst h
    rw [show tst 2 (0) = 0 by rfl]
    go_enter Tryz.func83, Tryz.ntmps83
    go_wp2_with fail
    refine (co.out _).mono ?_
    rintro e w1 ⟨rfl, hb1⟩
    have HB1 := hidv (HB.out.step hb1)
    obtain ⟨⟨x0, x1, x2⟩, ⟨x3, x4, x5⟩, ⟨x6, x7, x8⟩, x9, xx, xy⟩ := HB1.out.cells
    obtain ⟨s0, s1, s2⟩ := HB1.out.sets
    clear hb1
    go_wp2_with fail
    refine (ct.out _ _).mono ?_
    rintro e w2 ⟨rfl, hb2⟩
    have HB2 := hidv (HB1.out.step hb2)
    obtain ⟨⟨x0, x1, x2⟩, ⟨x3, x4, x5⟩, ⟨x6, x7, x8⟩, x9, xx, xy⟩ := HB2.out.cells
    obtain ⟨s0, s1, s2⟩ := HB2.out.sets
    clear hb2
    go_wp2_with fail
    refine bodyPost_ret (v := .agg #[.int .i64 3, .int .i64 0, .string ⟨#[]⟩]) (by simp [results, Tryz.results83, go_sem, *]) rfl ?_
    exact ⟨rfl, HB2.out.out _ _ _⟩
  · subst h
    rw [show tst 2 (1) = 1 by rfl]
    go_enter Tryz.func83, Tryz.ntmps83
    go_wp2_with fail
    refine (co.out _).mono ?_
    rintro e w1 ⟨rfl, hb1⟩
    have HB1 := hidv (HB.out.step hb1)
    obtain ⟨⟨x0, x1, x2⟩, ⟨x3, x4, x5⟩, ⟨x6, x7, x8⟩, x9, xx, xy⟩ := HB1.out.cells
    obtain ⟨s0, s1, s2⟩ := HB1.out.sets
    clear hb1
    go_wp2_with fail
    refine (ct.out _ _).mono ?_
    rintro e w2 ⟨rfl, hb2⟩
    have HB2 := hidv (HB1.out.step hb2)
    obtain ⟨⟨x0, x1, x2⟩, ⟨x3, x4, x5⟩, ⟨x6, x7, x8⟩, x9, xx, xy⟩ := HB2.out.cells
    obtain ⟨s0, s1, s2⟩ := HB2.out.sets
    clear hb2
    go_wp2_with fail
    refine bodyPost_ret (v := .agg #[.int .i64 3, .int .i64 1, .string ⟨#[]⟩]) (by simp [results, Tryz.results83, go_sem, *]) rfl ?_
    exact ⟨rfl, HB2.out.out _ _ _⟩

set_option maxHeartbeats 2000000 in
set_option maxRecDepth 100000 in
theorem oper_3 (K1 N1 : Int) (T1 : ByteArray) (K2 N2 : Int) (T2 : ByteArray) (c1 : Cn K1 N1 T1 K1 N1 T1) (c2 : Cn K2 N2 T2 K2 N2 T2) (w : World) :
    Calls Tryz.prog 84 #[.agg #[.int .i64 K1, .int .i64 N1, .string T1], .agg #[.int .i64 K2, .int .i64 N2, .string T2]] w fun e w' => e = .returned (.agg #[.int .i64 3, .int .i64 (tst 3 (ordI K1 N1 T1 K2 N2 T2)), .string ⟨#[]⟩]) ∧ Below w.heap.size w w' := by
  have co0 := order_cn K1 N1 T1 K2 N2 T2 K1 N1 T1 K2 N2 T2 c1 c2
  have hr := ord_range K1 N1 T1 K2 N2 T2
  generalize ordI K1 N1 T1 K2 N2 T2 = R at co0 hr ⊢
  have co := hidv co0
  have ct := hidv truthValue_any
  have HB := hidv (triB_new w 23 (.int .i64 K1) (.int .i64 N1) (.string T1) (.int .i64 K2) (.int .i64 N2) (.string T2) (.int .i64 0) (.int .i64 0) (.string ⟨#[]⟩) (((w.alloc (.cells #[.int .i64 K1, .int .i64 N1, .string T1] 23)).alloc (.cells #[.int .i64 K2, .int .i64 N2, .string T2] 23)).alloc (.cells #[.int .i64 0, .int .i64 0, .string ⟨#[]⟩] 23)) rfl (by go_grown))
  clear co0 c1 c2
  rcases hr with h | h | h
  · subst h
    rw [show tst 3 (-1) = 1 by rfl]
    go_enter Tryz.func84, Tryz.ntmps84
    go_wp2_with fail
    refine (co.out _).mono ?_
    rintro e w1 ⟨rfl, hb1⟩
    have HB1 := hidv (HB.out.step hb1)
    obtain ⟨⟨x0, x1, x2⟩, ⟨x3, x4, x5⟩, ⟨x6, x7, x8⟩, x9, xx, xy⟩ := HB1.out.cells
    obtain ⟨s0, s1, s2⟩ := HB1.out.sets
    clear hb1
    go_wp2_with fail
    refine (ct.out _ _).mono ?_
    rintro e w2 ⟨rfl, hb2⟩
    have HB2 := hidv (HB1.out.step hb2)
    obtain ⟨⟨x0, x1, x2⟩, ⟨x3, x4, x5⟩, ⟨x6, x7, x8⟩, x9, xx, xy⟩ := HB2.out.cells
    obtain ⟨s0, s1, s2⟩ := HB2.out.sets
    clear hb2
    go_wp2_with fail
    refine bodyPost_ret (v := .agg #[.int .i64 3, .int .i64 1, .string ⟨#[]⟩]) (by simp [results, Tryz.results84, go_sem, *]) rfl ?_
    exact ⟨rfl, HB2.out.out _ _ _⟩
  · subst h
    rw [show tst 3 (0) = 0 by rfl]
    go_enter Tryz.func84, Tryz.ntmps84
    go_wp2_with fail
    refine (co.out _).mono ?_
    rintro e w1 ⟨rfl, hb1⟩
    have HB1 := hidv (HB.out.step hb1)
    obtain ⟨⟨x0, x1, x2⟩, ⟨x3, x4, x5⟩, ⟨x6, x7, x8⟩, x9, xx, xy⟩ := HB1.out.cells
    obtain ⟨s0, s1, s2⟩ := HB1.out.sets
    clear hb1
    go_wp2_with fail
    refine (ct.out _ _).mono ?_
    rintro e w2 ⟨rfl, hb2⟩
    have HB2 := hidv (HB1.out.step hb2)
    obtain ⟨⟨x0, x1, x2⟩, ⟨x3, x4, x5⟩, ⟨x6, x7, x8⟩, x9, xx, xy⟩ := HB2.out.cells
    obtain ⟨s0, s1, s2⟩ := HB2.out.sets
    clear hb2
    go_wp2_with fail
    refine bodyPost_ret (v := .agg #[.int .i64 3, .int .i64 0, .string ⟨#[]⟩]) (by simp [results, Tryz.results84, go_sem, *]) rfl ?_
    exact ⟨rfl, HB2.out.out _ _ _⟩
  · subst h
    rw [show tst 3 (1) = 0 by rfl]
    go_enter Tryz.func84, Tryz.ntmps84
    go_wp2_with fail
    refine (co.out _).mono ?_
    rintro e w1 ⟨rfl, hb1⟩
    have HB1 := hidv (HB.out.step hb1)
    obtain ⟨⟨x0, x1, x2⟩, ⟨x3, x4, x5⟩, ⟨x6, x7, x8⟩, x9, xx, xy⟩ := HB1.out.cells
    obtain ⟨s0, s1, s2⟩ := HB1.out.sets
    clear hb1
    go_wp2_with fail
    refine (ct.out _ _).mono ?_
    rintro e w2 ⟨rfl, hb2⟩
    have HB2 := hidv (HB1.out.step hb2)
    obtain ⟨⟨x0, x1, x2⟩, ⟨x3, x4, x5⟩, ⟨x6, x7, x8⟩, x9, xx, xy⟩ := HB2.out.cells
    obtain ⟨s0, s1, s2⟩ := HB2.out.sets
    clear hb2
    go_wp2_with fail
    refine bodyPost_ret (v := .agg #[.int .i64 3, .int .i64 0, .string ⟨#[]⟩]) (by simp [results, Tryz.results84, go_sem, *]) rfl ?_
    exact ⟨rfl, HB2.out.out _ _ _⟩

set_option maxHeartbeats 2000000 in
set_option maxRecDepth 100000 in
theorem oper_4 (K1 N1 : Int) (T1 : ByteArray) (K2 N2 : Int) (T2 : ByteArray) (c1 : Cn K1 N1 T1 K1 N1 T1) (c2 : Cn K2 N2 T2 K2 N2 T2) (w : World) :
    Calls Tryz.prog 85 #[.agg #[.int .i64 K1, .int .i64 N1, .string T1], .agg #[.int .i64 K2, .int .i64 N2, .string T2]] w fun e w' => e = .returned (.agg #[.int .i64 3, .int .i64 (tst 4 (ordI K1 N1 T1 K2 N2 T2)), .string ⟨#[]⟩]) ∧ Below w.heap.size w w' := by
  have co0 := order_cn K1 N1 T1 K2 N2 T2 K1 N1 T1 K2 N2 T2 c1 c2
  have hr := ord_range K1 N1 T1 K2 N2 T2
  generalize ordI K1 N1 T1 K2 N2 T2 = R at co0 hr ⊢
  have co := hidv co0
  have ct := hidv truthValue_any
  have HB := hidv (triB_new w 23 (.int .i64 K1) (.int .i64 N1) (.string T1) (.int .i64 K2) (.int .i64 N2) (.string T2) (.int .i64 0) (.int .i64 0) (.string ⟨#[]⟩) (((w.alloc (.cells #[.int .i64 K1, .int .i64 N1, .string T1] 23)).alloc (.cells #[.int .i64 K2, .int .i64 N2, .string T2] 23)).alloc (.cells #[.int .i64 0, .int .i64 0, .string ⟨#[]⟩] 23)) rfl (by go_grown))
  clear co0 c1 c2
  rcases hr with h | h | h
  · subst h
    rw [show tst 4 (-1) = 1 by rfl]
    go_enter Tryz.func85, Tryz.ntmps85
    go_wp2_with fail
    refine (co.out _).mono ?_
    rintro e w1 ⟨rfl, hb1⟩
    have HB1 := hidv (HB.out.step hb1)
    obtain ⟨⟨x0, x1, x2⟩, ⟨x3, x4, x5⟩, ⟨x6, x7, x8⟩, x9, xx, xy⟩ := HB1.out.cells
    obtain ⟨s0, s1, s2⟩ := HB1.out.sets
    clear hb1
    go_wp2_with fail
    refine (ct.out _ _).mono ?_
    rintro e w2 ⟨rfl, hb2⟩
    have HB2 := hidv (HB1.out.step hb2)
    obtain ⟨⟨x0, x1, x2⟩, ⟨x3, x4, x5⟩, ⟨x6, x7, x8⟩, x9, xx, xy⟩ := HB2.out.cells
    obtain ⟨s0, s1, s2⟩ := HB2.out.sets
    clear hb2
    go_wp2_with fail
    refine bodyPost_ret (v := .agg #[.int .i64 3, .int .i64 1, .string ⟨#[]⟩]) (by simp [results, Tryz.results85, go_sem, *]) rfl ?_
    exact ⟨rfl, HB2.out.out _ _ _⟩
  · subst h
    rw [show tst 4 (0) = 1 by rfl]
    go_enter Tryz.func85, Tryz.ntmps85
    go_wp2_with fail
    refine (co.out _).mono ?_
    rintro e w1 ⟨rfl, hb1⟩
    have HB1 := hidv (HB.out.step hb1)
    obtain ⟨⟨x0, x1, x2⟩, ⟨x3, x4, x5⟩, ⟨x6, x7, x8⟩, x9, xx, xy⟩ := HB1.out.cells
    obtain ⟨s0, s1, s2⟩ := HB1.out.sets
    clear hb1
    go_wp2_with fail
    refine (ct.out _ _).mono ?_
    rintro e w2 ⟨rfl, hb2⟩
    have HB2 := hidv (HB1.out.step hb2)
    obtain ⟨⟨x0, x1, x2⟩, ⟨x3, x4, x5⟩, ⟨x6, x7, x8⟩, x9, xx, xy⟩ := HB2.out.cells
    obtain ⟨s0, s1, s2⟩ := HB2.out.sets
    clear hb2
    go_wp2_with fail
    refine bodyPost_ret (v := .agg #[.int .i64 3, .int .i64 1, .string ⟨#[]⟩]) (by simp [results, Tryz.results85, go_sem, *]) rfl ?_
    exact ⟨rfl, HB2.out.out _ _ _⟩
  · subst h
    rw [show tst 4 (1) = 0 by rfl]
    go_enter Tryz.func85, Tryz.ntmps85
    go_wp2_with fail
    refine (co.out _).mono ?_
    rintro e w1 ⟨rfl, hb1⟩
    have HB1 := hidv (HB.out.step hb1)
    obtain ⟨⟨x0, x1, x2⟩, ⟨x3, x4, x5⟩, ⟨x6, x7, x8⟩, x9, xx, xy⟩ := HB1.out.cells
    obtain ⟨s0, s1, s2⟩ := HB1.out.sets
    clear hb1
    go_wp2_with fail
    refine (ct.out _ _).mono ?_
    rintro e w2 ⟨rfl, hb2⟩
    have HB2 := hidv (HB1.out.step hb2)
    obtain ⟨⟨x0, x1, x2⟩, ⟨x3, x4, x5⟩, ⟨x6, x7, x8⟩, x9, xx, xy⟩ := HB2.out.cells
    obtain ⟨s0, s1, s2⟩ := HB2.out.sets
    clear hb2
    go_wp2_with fail
    refine bodyPost_ret (v := .agg #[.int .i64 3, .int .i64 0, .string ⟨#[]⟩]) (by simp [results, Tryz.results85, go_sem, *]) rfl ?_
    exact ⟨rfl, HB2.out.out _ _ _⟩

set_option maxHeartbeats 2000000 in
set_option maxRecDepth 100000 in
theorem oper_5 (K1 N1 : Int) (T1 : ByteArray) (K2 N2 : Int) (T2 : ByteArray) (c1 : Cn K1 N1 T1 K1 N1 T1) (c2 : Cn K2 N2 T2 K2 N2 T2) (w : World) :
    Calls Tryz.prog 86 #[.agg #[.int .i64 K1, .int .i64 N1, .string T1], .agg #[.int .i64 K2, .int .i64 N2, .string T2]] w fun e w' => e = .returned (.agg #[.int .i64 3, .int .i64 (tst 5 (ordI K1 N1 T1 K2 N2 T2)), .string ⟨#[]⟩]) ∧ Below w.heap.size w w' := by
  have co0 := order_cn K1 N1 T1 K2 N2 T2 K1 N1 T1 K2 N2 T2 c1 c2
  have hr := ord_range K1 N1 T1 K2 N2 T2
  generalize ordI K1 N1 T1 K2 N2 T2 = R at co0 hr ⊢
  have co := hidv co0
  have ct := hidv truthValue_any
  have HB := hidv (triB_new w 23 (.int .i64 K1) (.int .i64 N1) (.string T1) (.int .i64 K2) (.int .i64 N2) (.string T2) (.int .i64 0) (.int .i64 0) (.string ⟨#[]⟩) (((w.alloc (.cells #[.int .i64 K1, .int .i64 N1, .string T1] 23)).alloc (.cells #[.int .i64 K2, .int .i64 N2, .string T2] 23)).alloc (.cells #[.int .i64 0, .int .i64 0, .string ⟨#[]⟩] 23)) rfl (by go_grown))
  clear co0 c1 c2
  rcases hr with h | h | h
  · subst h
    rw [show tst 5 (-1) = 0 by rfl]
    go_enter Tryz.func86, Tryz.ntmps86
    go_wp2_with fail
    refine (co.out _).mono ?_
    rintro e w1 ⟨rfl, hb1⟩
    have HB1 := hidv (HB.out.step hb1)
    obtain ⟨⟨x0, x1, x2⟩, ⟨x3, x4, x5⟩, ⟨x6, x7, x8⟩, x9, xx, xy⟩ := HB1.out.cells
    obtain ⟨s0, s1, s2⟩ := HB1.out.sets
    clear hb1
    go_wp2_with fail
    refine (ct.out _ _).mono ?_
    rintro e w2 ⟨rfl, hb2⟩
    have HB2 := hidv (HB1.out.step hb2)
    obtain ⟨⟨x0, x1, x2⟩, ⟨x3, x4, x5⟩, ⟨x6, x7, x8⟩, x9, xx, xy⟩ := HB2.out.cells
    obtain ⟨s0, s1, s2⟩ := HB2.out.sets
    clear hb2
    go_wp2_with fail
    refine bodyPost_ret (v := .agg #[.int .i64 3, .int .i64 0, .string ⟨#[]⟩]) (by simp [results, Tryz.results86, go_sem, *]) rfl ?_
    exact ⟨rfl, HB2.out.out _ _ _⟩
  · subst h
    rw [show tst 5 (0) = 0 by rfl]
    go_enter Tryz.func86, Tryz.ntmps86
    go_wp2_with fail
    refine (co.out _).mono ?_
    rintro e w1 ⟨rfl, hb1⟩
    have HB1 := hidv (HB.out.step hb1)
    obtain ⟨⟨x0, x1, x2⟩, ⟨x3, x4, x5⟩, ⟨x6, x7, x8⟩, x9, xx, xy⟩ := HB1.out.cells
    obtain ⟨s0, s1, s2⟩ := HB1.out.sets
    clear hb1
    go_wp2_with fail
    refine (ct.out _ _).mono ?_
    rintro e w2 ⟨rfl, hb2⟩
    have HB2 := hidv (HB1.out.step hb2)
    obtain ⟨⟨x0, x1, x2⟩, ⟨x3, x4, x5⟩, ⟨x6, x7, x8⟩, x9, xx, xy⟩ := HB2.out.cells
    obtain ⟨s0, s1, s2⟩ := HB2.out.sets
    clear hb2
    go_wp2_with fail
    refine bodyPost_ret (v := .agg #[.int .i64 3, .int .i64 0, .string ⟨#[]⟩]) (by simp [results, Tryz.results86, go_sem, *]) rfl ?_
    exact ⟨rfl, HB2.out.out _ _ _⟩
  · subst h
    rw [show tst 5 (1) = 1 by rfl]
    go_enter Tryz.func86, Tryz.ntmps86
    go_wp2_with fail
    refine (co.out _).mono ?_
    rintro e w1 ⟨rfl, hb1⟩
    have HB1 := hidv (HB.out.step hb1)
    obtain ⟨⟨x0, x1, x2⟩, ⟨x3, x4, x5⟩, ⟨x6, x7, x8⟩, x9, xx, xy⟩ := HB1.out.cells
    obtain ⟨s0, s1, s2⟩ := HB1.out.sets
    clear hb1
    go_wp2_with fail
    refine (ct.out _ _).mono ?_
    rintro e w2 ⟨rfl, hb2⟩
    have HB2 := hidv (HB1.out.step hb2)
    obtain ⟨⟨x0, x1, x2⟩, ⟨x3, x4, x5⟩, ⟨x6, x7, x8⟩, x9, xx, xy⟩ := HB2.out.cells
    obtain ⟨s0, s1, s2⟩ := HB2.out.sets
    clear hb2
    go_wp2_with fail
    refine bodyPost_ret (v := .agg #[.int .i64 3, .int .i64 1, .string ⟨#[]⟩]) (by simp [results, Tryz.results86, go_sem, *]) rfl ?_
    exact ⟨rfl, HB2.out.out _ _ _⟩

set_option maxHeartbeats 2000000 in
set_option maxRecDepth 100000 in
theorem oper_6 (K1 N1 : Int) (T1 : ByteArray) (K2 N2 : Int) (T2 : ByteArray) (c1 : Cn K1 N1 T1 K1 N1 T1) (c2 : Cn K2 N2 T2 K2 N2 T2) (w : World) :
    Calls Tryz.prog 87 #[.agg #[.int .i64 K1, .int .i64 N1, .string T1], .agg #[.int .i64 K2, .int .i64 N2, .string T2]] w fun e w' => e = .returned (.agg #[.int .i64 3, .int .i64 (tst 6 (ordI K1 N1 T1 K2 N2 T2)), .string ⟨#[]⟩]) ∧ Below w.heap.size w w' := by
  have co0 := order_cn K1 N1 T1 K2 N2 T2 K1 N1 T1 K2 N2 T2 c1 c2
  have hr := ord_range K1 N1 T1 K2 N2 T2
  generalize ordI K1 N1 T1 K2 N2 T2 = R at co0 hr ⊢
  have co := hidv co0
  have ct := hidv truthValue_any
  have HB := hidv (triB_new w 23 (.int .i64 K1) (.int .i64 N1) (.string T1) (.int .i64 K2) (.int .i64 N2) (.string T2) (.int .i64 0) (.int .i64 0) (.string ⟨#[]⟩) (((w.alloc (.cells #[.int .i64 K1, .int .i64 N1, .string T1] 23)).alloc (.cells #[.int .i64 K2, .int .i64 N2, .string T2] 23)).alloc (.cells #[.int .i64 0, .int .i64 0, .string ⟨#[]⟩] 23)) rfl (by go_grown))
  clear co0 c1 c2
  rcases hr with h | h | h
  · subst h
    rw [show tst 6 (-1) = 0 by rfl]
    go_enter Tryz.func87, Tryz.ntmps87
    go_wp2_with fail
    refine (co.out _).mono ?_
    rintro e w1 ⟨rfl, hb1⟩
    have HB1 := hidv (HB.out.step hb1)
    obtain ⟨⟨x0, x1, x2⟩, ⟨x3, x4, x5⟩, ⟨x6, x7, x8⟩, x9, xx, xy⟩ := HB1.out.cells
    obtain ⟨s0, s1, s2⟩ := HB1.out.sets
    clear hb1
    go_wp2_with fail
    refine (ct.out _ _).mono ?_
    rintro e w2 ⟨rfl, hb2⟩
    have HB2 := hidv (HB1.out.step hb2)
    obtain ⟨⟨x0, x1, x2⟩, ⟨x3, x4, x5⟩, ⟨x6, x7, x8⟩, x9, xx, xy⟩ := HB2.out.cells
    obtain ⟨s0, s1, s2⟩ := HB2.out.sets
    clear hb2
    go_wp2_with fail
    refine bodyPost_ret (v := .agg #[.int .i64 3, .int .i64 0, .string ⟨#[]⟩]) (by simp [results, Tryz.results87, go_sem, *]) rfl ?_
    exact ⟨rfl, HB2.out.out _ _ _⟩
  · subst h
    rw [show tst 6 (0) = 1 by rfl]
    go_enter Tryz.func87, Tryz.ntmps87
    go_wp2_with fail
    refine (co.out _).mono ?_
    rintro e w1 ⟨rfl, hb1⟩
    have HB1 := hidv (HB.out.step hb1)
    obtain ⟨⟨x0, x1, x2⟩, ⟨x3, x4, x5⟩, ⟨x6, x7, x8⟩, x9, xx, xy⟩ := HB1.out.cells
    obtain ⟨s0, s1, s2⟩ := HB1.out.sets
    clear hb1
    go_wp2_with fail
    refine (ct.out _ _).mono ?_
    rintro e w2 ⟨rfl, hb2⟩
    have HB2 := hidv (HB1.out.step hb2)
    obtain ⟨⟨x0, x1, x2⟩, ⟨x3, x4, x5⟩, ⟨x6, x7, x8⟩, x9, xx, xy⟩ := HB2.out.cells
    obtain ⟨s0, s1, s2⟩ := HB2.out.sets
    clear hb2
    go_wp2_with fail
    refine bodyPost_ret (v := .agg #[.int .i64 3, .int .i64 1, .string ⟨#[]⟩]) (by simp [results, Tryz.results87, go_sem, *]) rfl ?_
    exact ⟨rfl, HB2.out.out _ _ _⟩
  · subst h
    rw [show tst 6 (1) = 1 by rfl]
    go_enter Tryz.func87, Tryz.ntmps87
    go_wp2_with fail
    refine (co.out _).mono ?_
    rintro e w1 ⟨rfl, hb1⟩
    have HB1 := hidv (HB.out.step hb1)
    obtain ⟨⟨x0, x1, x2⟩, ⟨x3, x4, x5⟩, ⟨x6, x7, x8⟩, x9, xx, xy⟩ := HB1.out.cells
    obtain ⟨s0, s1, s2⟩ := HB1.out.sets
    clear hb1
    go_wp2_with fail
    refine (ct.out _ _).mono ?_
    rintro e w2 ⟨rfl, hb2⟩
    have HB2 := hidv (HB1.out.step hb2)
    obtain ⟨⟨x0, x1, x2⟩, ⟨x3, x4, x5⟩, ⟨x6, x7, x8⟩, x9, xx, xy⟩ := HB2.out.cells
    obtain ⟨s0, s1, s2⟩ := HB2.out.sets
    clear hb2
    go_wp2_with fail
    refine bodyPost_ret (v := .agg #[.int .i64 3, .int .i64 1, .string ⟨#[]⟩]) (by simp [results, Tryz.results87, go_sem, *]) rfl ?_
    exact ⟨rfl, HB2.out.out _ _ _⟩
end Go.Proofs.YtjbkjeabobccaabGreatDoor
namespace Go.Proofs.YtjbkjeabobccaabGreatDoor
open Go.RowKit Go.Sort Go.Lib
set_option linter.unusedVariables false

/-- Two texts joined, as a value (B6). -/
def joinV (a b : ByteArray) : Int × Int × ByteArray := if 1000 < (a ++ b).size then (4, 3, ⟨#[]⟩) else (2, 0, a ++ b)
set_option maxHeartbeats 2000000 in
set_option maxRecDepth 100000 in
theorem join_cn (K1 N1 : Int) (T1 : ByteArray) (K2 N2 : Int) (T2 : ByteArray) (c1 : Ci K1 N1 T1 K1 N1 T1) (c2 : Ci K2 N2 T2 K2 N2 T2) (hz : (txtI K1 N1 T1).1.size ≤ 1000 ∧ (txtI K2 N2 T2).1.size ≤ 1000) (w : World) (hE : Env w) :
    Calls Tryz.prog 81 #[.agg #[.int .i64 K1, .int .i64 N1, .string T1], .agg #[.int .i64 K2, .int .i64 N2, .string T2]] w fun e w' =>
      e = .returned (.agg #[.int .i64 (joinV (txtI K1 N1 T1).1 (txtI K2 N2 T2).1).1, .int .i64 (joinV (txtI K1 N1 T1).1 (txtI K2 N2 T2).1).2.1, .string (joinV (txtI K1 N1 T1).1 (txtI K2 N2 T2).1).2.2]) ∧ Below w.heap.size w w' := by
  have d1 := hidv (text_cn K1 N1 T1 K1 N1 T1 c1)
  have d2 := hidv (text_cn K2 N2 T2 K2 N2 T2 c2)
  have HE := hidv hE
  have HB := hidv (triB_new w 23 (.int .i64 K1) (.int .i64 N1) (.string T1) (.int .i64 K2) (.int .i64 N2) (.string T2) (.int .i64 0) (.int .i64 0) (.string ⟨#[]⟩) (((w.alloc (.cells #[.int .i64 K1, .int .i64 N1, .string T1] 23)).alloc (.cells #[.int .i64 K2, .int .i64 N2, .string T2] 23)).alloc (.cells #[.int .i64 0, .int .i64 0, .string ⟨#[]⟩] 23)) rfl (by go_grown))
  generalize (txtI K1 N1 T1).2 = y1 at d1
  generalize (txtI K2 N2 T2).2 = y2 at d2
  generalize (txtI K1 N1 T1).1 = x1 at d1 hz ⊢
  generalize (txtI K2 N2 T2).1 = x2 at d2 hz ⊢
  have hadd : ∀ W, (Op.stringOp .add x1 x2).run Tryz.prog W = .ok (.string (x1 ++ x2)) W := fun W => run_string_add_sum W _ _ (by omega)
  have cv0 := fun w => textValue_any (x1 ++ x2) w
  have hv : (if 1000 < (x1 ++ x2).size then Value.agg #[.int .i64 4, .int .i64 3, .string ⟨#[]⟩] else .agg #[.int .i64 2, .int .i64 0, .string (x1 ++ x2)]) = .agg #[.int .i64 (joinV x1 x2).1, .int .i64 (joinV x1 x2).2.1, .string (joinV x1 x2).2.2] := by
    unfold joinV
    split <;> rfl
  simp only [hv] at cv0
  have cv := hidv cv0
  generalize joinV x1 x2 = Z at cv ⊢
  obtain ⟨z1, z2, z3⟩ := Z
  generalize x1 ++ x2 = U at hadd cv
  clear cv0 hv hz hE c1 c2
  go_enter Tryz.func81, Tryz.ntmps81
  go_wp2_with fail
  refine (d1.out _ (HE.out.step HB.out.low)).mono ?_
  rintro e w1 ⟨rfl, hb1⟩
  have HB1 := hidv (HB.out.step hb1)
  obtain ⟨⟨x0, x1', x2'⟩, ⟨x3, x4, x5⟩, ⟨x6, x7, x8⟩, x9, xx, xy⟩ := HB1.out.cells
  clear hb1 HB
  go_wp2_with fail
  refine (d2.out _ (HE.out.step HB1.out.low)).mono ?_
  rintro e w2 ⟨rfl, hb2⟩
  have HB2 := hidv (HB1.out.step hb2)
  clear hb2 HB1 x0 x1' x2' x3 x4 x5 x6 x7 x8 x9 xx xy
  go_wp2_with fail
  refine (cv.out _).mono ?_
  rintro e w3 ⟨rfl, hb3⟩
  have HB3 := hidv (HB2.out.step hb3)
  obtain ⟨⟨x0, x1', x2'⟩, ⟨x3, x4, x5⟩, ⟨x6, x7, x8⟩, x9, xx, xy⟩ := HB3.out.cells
  obtain ⟨s0, s1, s2⟩ := HB3.out.sets
  clear hb3 HB2
  go_wp2_with fail
  refine bodyPost_ret (v := .agg #[.int .i64 z1, .int .i64 z2, .string z3]) (by simp [results, Tryz.results81, go_sem, *]) rfl ?_
  exact ⟨rfl, HB3.out.out _ _ _⟩
end Go.Proofs.YtjbkjeabobccaabGreatDoor
namespace Go.Proofs.YtjbkjeabobccaabGreatDoor
open Go.RowKit Go.Sort Go.Lib
set_option linter.unusedVariables false

set_option maxHeartbeats 4000000 in
set_option maxRecDepth 100000 in
theorem work_join (k1 n1 : Int) (t1 : ByteArray) (k2 n2 : Int) (t2 : ByteArray) (K1 N1 : Int) (T1 : ByteArray) (K2 N2 : Int) (T2 : ByteArray) (h1 : Cn k1 n1 t1 K1 N1 T1) (h2 : Cn k2 n2 t2 K2 N2 T2) (g1 : Ci K1 N1 T1 K1 N1 T1) (g2 : Ci K2 N2 T2 K2 N2 T2) (hz : (txtI K1 N1 T1).1.size ≤ 1000 ∧ (txtI K2 N2 T2).1.size ≤ 1000) (w : World) (hE : Env w) (D : Int × Int × ByteArray)
    (hD : pick3 K1 N1 T1 K2 N2 T2 (joinV (txtI K1 N1 T1).1 (txtI K2 N2 T2).1) = D) :
    Calls Tryz.prog 23 #[.string ⟨#[38]⟩, .agg #[.int .i64 k1, .int .i64 n1, .string t1], .agg #[.int .i64 k2, .int .i64 n2, .string t2]] w fun e w' => e = .returned (.agg #[.int .i64 D.1, .int .i64 D.2.1, .string D.2.2]) ∧ Below w.heap.size w w' := by
  have ck := hidv (join_cn K1 N1 T1 K2 N2 T2 g1 g2 hz)
  have HE := hidv hE
  clear g1 g2 hz hE
  generalize joinV (txtI K1 N1 T1).1 (txtI K2 N2 T2).1 = J at ck hD
  obtain ⟨D1, D2, D3⟩ := J
  obtain ⟨DD, eDD⟩ : ∃ DD : Int × Int × ByteArray, DD = (D1, D2, D3) := ⟨_, rfl⟩
  rw [← eDD] at hD
  have HD := hidv hD
  have HDD := hidv eDD
  clear hD eDD
  have cc := hidv counted_cn
  have H1 := hidv h1
  have H2 := hidv h2
  go_enter Tryz.func23, Tryz.ntmps23
  go_upto_region 1 with fail
  go_cut [] from 11 (fun wx => Hid (TriB w wx 23 (.int .i64 K1) (.int .i64 N1) (.string T1) (.int .i64 K2) (.int .i64 N2) (.string T2) (.int .i64 0) (.int .i64 0) (.string ⟨#[]⟩)))
  case first =>
    have HX := hidv (triB_new w 23 (.int .i64 k1) (.int .i64 n1) (.string t1) (.int .i64 k2) (.int .i64 n2) (.string t2) (.int .i64 0) (.int .i64 0) (.string ⟨#[]⟩) ((((w.alloc (.cells #[.int .i64 k1, .int .i64 n1, .string t1] 23)).alloc (.cells #[.int .i64 k2, .int .i64 n2, .string t2] 23)).alloc (.cells #[.int .i64 0, .int .i64 0, .string ⟨#[]⟩] 23)).drew) rfl (by go_grown))
    obtain ⟨⟨x0, x1, x2⟩, ⟨x3, x4, x5⟩, ⟨x6, x7, x8⟩, x9, xx, xy⟩ := HX.out.cells
    obtain ⟨⟨xu0, xu1, xu2⟩, xu3, xu4, xu5⟩ := HX.out.free
    go_region_with (first | (go_at_call 39; refine (cc.out _ _ _ _ _ _ (by exact H1.out) _).mono ?_; rintro e w1 ⟨rfl, hb1⟩; have HT1 := hidv (HX.out.step hb1); obtain ⟨⟨c0, c1, c2⟩, ⟨c3, c4, c5⟩, ⟨c6, c7, c8⟩, c9, cx, cy⟩ := HT1.out.cells; obtain ⟨⟨cu0, cu1, cu2⟩, cu3, cu4, cu5⟩ := HT1.out.free; clear hb1) | (go_at_call 39; refine (cc.out _ _ _ _ _ _ (by exact H2.out) _).mono ?_; rintro e w2 ⟨rfl, hb2⟩; have HT2 := hidv (HT1.out.step hb2); obtain ⟨⟨d0, d1, d2⟩, ⟨d3, d4, d5⟩, ⟨d6, d7, d8⟩, d9, dx, dy⟩ := HT2.out.cells; obtain ⟨⟨du0, du1, du2⟩, du3, du4, du5⟩ := HT2.out.free; clear hb2))
    all_goals
      go_wp2_with fail
      go_meet
      exact hidv ((HT2.out.seta _ _ _).setb _ _ _)
  case rest =>
  have HC := hcut
  clear hcut cc
  obtain ⟨⟨p0, p1, p2⟩, ⟨p3, p4, p5⟩, ⟨p6, p7, p8⟩, p9, px, py⟩ := HC.out.cells
  obtain ⟨s0, s1, s2⟩ := HC.out.sets
  by_cases g1 : K1 = 4
  · subst g1
    have VD : Hid (pick3 4 N1 T1 K2 N2 T2 DD = (4, N1, T1)) := by show _ = _; simp [pick3]
    go_wp2_with fail
    refine bodyPost_ret (v := .agg #[.int .i64 4, .int .i64 N1, .string T1]) (by simp [results, Tryz.results23, go_sem, *]) rfl ?_
    exact ⟨by rw [← HD.out]; simp [VD.out], HC.out.out _ _ _⟩
  have q1 : (K1 == 4) = false := by simpa using g1
  by_cases g2 : K2 = 4
  · subst g2
    have VD : Hid (pick3 K1 N1 T1 4 N2 T2 DD = (4, N2, T2)) := by show _ = _; simp [pick3, g1]
    clear g1
    go_wp2_with fail
    refine bodyPost_ret (v := .agg #[.int .i64 4, .int .i64 N2, .string T2]) (by simp [results, Tryz.results23, go_sem, *]) rfl ?_
    exact ⟨by rw [← HD.out]; simp [VD.out], HC.out.out _ _ _⟩
  have q2 : (K2 == 4) = false := by simpa using g2
  have VD : Hid (pick3 K1 N1 T1 K2 N2 T2 DD = DD) := by show _ = _; simp [pick3, g1, g2]
  clear g1 g2
  have cm := hidv calculations_any
  have cq := hidv operators_any
  go_wp2_with fail
  refine (cm.out _).mono ?_
  rintro e wm ⟨rfl, hwm⟩
  have hm : wm.heap[wc.heap.size]? = some (.map calcMap 5) := by rw [hwm]; show (wc.heap.push _)[_]? = _; rw [Array.getElem?_push_size]
  have HM := hidv (HC.out.step (w1 := wm) (by rw [hwm]; exact (Below.refl _ _).alloc (Nat.le_refl _) _))
  have hl := run_lookup_none (P := Tryz.prog) Tryz.underlying69 Tryz.underlying9 wm wc.heap.size calcMap 5 hm ⟨#[38]⟩ _ (by rfl) rfl
  clear hm hwm p0 p1 p2 p3 p4 p5 p6 p7 p8 p9 px py s0 s1 s2
  obtain ⟨⟨m0, m1, m2⟩, ⟨m3, m4, m5⟩, ⟨m6, m7, m8⟩, m9, mx, my⟩ := HM.out.cells
  go_wp2_with fail
  refine (cq.out _).mono ?_
  rintro e wo ⟨rfl, hwo⟩
  have ho : wo.heap[wm.heap.size]? = some (.map operMap 7) := by rw [hwo]; show (wm.heap.push _)[_]? = _; rw [Array.getElem?_push_size]
  have HO := hidv (HM.out.step (w1 := wo) (by rw [hwo]; exact (Below.refl _ _).alloc (Nat.le_refl _) _))
  have hl2 := run_lookup_now (P := Tryz.prog) Tryz.underlying75 Tryz.underlying9 wo wm.heap.size operMap 7 ho ⟨#[38]⟩ 0 (.func (.func 81) #[] #[]) rfl
  clear ho hwo hl m0 m1 m2 m3 m4 m5 m6 m7 m8 m9 mx my
  obtain ⟨⟨q0, q1, q2⟩, ⟨q3, q4, q5⟩, ⟨q6, q7, q8⟩, q9, qx, qy⟩ := HO.out.cells
  go_wp2_with fail
  refine (ck.out _ (HE.out.step HO.out.low)).mono ?_
  rintro e w5 ⟨rfl, hb5⟩
  have H5 := hidv (HO.out.step hb5)
  clear hb5 hl2 q0 q1 q2 q3 q4 q5 q6 q7 q8 q9 qx qy
  obtain ⟨⟨n0, n1, n2⟩, ⟨n3, n4, n5⟩, ⟨n6, n7, n8⟩, n9, nx, ny⟩ := H5.out.cells
  obtain ⟨s0, s1, s2⟩ := H5.out.sets
  go_wp2_with fail
  refine bodyPost_ret (v := .agg #[.int .i64 D1, .int .i64 D2, .string D3]) (by simp [results, Tryz.results23, go_sem, *]) rfl ?_
  exact ⟨by rw [← HD.out, VD.out, HDD.out], H5.out.out _ _ _⟩

end Go.Proofs.YtjbkjeabobccaabGreatDoor
namespace Go.Proofs.YtjbkjeabobccaabGreatDoor
open Go.RowKit Go.Sort Go.Lib
set_option linter.unusedVariables false

set_option maxHeartbeats 4000000 in
set_option maxRecDepth 100000 in
theorem work_cmp1 (k1 n1 : Int) (t1 : ByteArray) (k2 n2 : Int) (t2 : ByteArray) (K1 N1 : Int) (T1 : ByteArray) (K2 N2 : Int) (T2 : ByteArray) (h1 : Cn k1 n1 t1 K1 N1 T1) (h2 : Cn k2 n2 t2 K2 N2 T2) (w : World) (D : Int × Int × ByteArray)
    (hD : pick3 K1 N1 T1 K2 N2 T2 (3, tst 1 (ordI K1 N1 T1 K2 N2 T2), ⟨#[]⟩) = D) :
    Calls Tryz.prog 23 #[.string ⟨#[61]⟩, .agg #[.int .i64 k1, .int .i64 n1, .string t1], .agg #[.int .i64 k2, .int .i64 n2, .string t2]] w fun e w' => e = .returned (.agg #[.int .i64 D.1, .int .i64 D.2.1, .string D.2.2]) ∧ Below w.heap.size w w' := by
  have ck := hidv (oper_1 K1 N1 T1 K2 N2 T2 (cn_self h1) (cn_self h2))
  generalize tst 1 (ordI K1 N1 T1 K2 N2 T2) = D2 at ck hD
  obtain ⟨DD, eDD⟩ : ∃ DD : Int × Int × ByteArray, DD = (3, D2, ⟨#[]⟩) := ⟨_, rfl⟩
  rw [← eDD] at hD
  have HD := hidv hD
  have HDD := hidv eDD
  clear hD eDD
  have cc := hidv counted_cn
  have H1 := hidv h1
  have H2 := hidv h2
  go_enter Tryz.func23, Tryz.ntmps23
  go_upto_region 1 with fail
  go_cut [] from 11 (fun wx => Hid (TriB w wx 23 (.int .i64 K1) (.int .i64 N1) (.string T1) (.int .i64 K2) (.int .i64 N2) (.string T2) (.int .i64 0) (.int .i64 0) (.string ⟨#[]⟩)))
  case first =>
    have HX := hidv (triB_new w 23 (.int .i64 k1) (.int .i64 n1) (.string t1) (.int .i64 k2) (.int .i64 n2) (.string t2) (.int .i64 0) (.int .i64 0) (.string ⟨#[]⟩) ((((w.alloc (.cells #[.int .i64 k1, .int .i64 n1, .string t1] 23)).alloc (.cells #[.int .i64 k2, .int .i64 n2, .string t2] 23)).alloc (.cells #[.int .i64 0, .int .i64 0, .string ⟨#[]⟩] 23)).drew) rfl (by go_grown))
    obtain ⟨⟨x0, x1, x2⟩, ⟨x3, x4, x5⟩, ⟨x6, x7, x8⟩, x9, xx, xy⟩ := HX.out.cells
    obtain ⟨⟨xu0, xu1, xu2⟩, xu3, xu4, xu5⟩ := HX.out.free
    go_region_with (first | (go_at_call 39; refine (cc.out _ _ _ _ _ _ (by exact H1.out) _).mono ?_; rintro e w1 ⟨rfl, hb1⟩; have HT1 := hidv (HX.out.step hb1); obtain ⟨⟨c0, c1, c2⟩, ⟨c3, c4, c5⟩, ⟨c6, c7, c8⟩, c9, cx, cy⟩ := HT1.out.cells; obtain ⟨⟨cu0, cu1, cu2⟩, cu3, cu4, cu5⟩ := HT1.out.free; clear hb1) | (go_at_call 39; refine (cc.out _ _ _ _ _ _ (by exact H2.out) _).mono ?_; rintro e w2 ⟨rfl, hb2⟩; have HT2 := hidv (HT1.out.step hb2); obtain ⟨⟨d0, d1, d2⟩, ⟨d3, d4, d5⟩, ⟨d6, d7, d8⟩, d9, dx, dy⟩ := HT2.out.cells; obtain ⟨⟨du0, du1, du2⟩, du3, du4, du5⟩ := HT2.out.free; clear hb2))
    all_goals
      go_wp2_with fail
      go_meet
      exact hidv ((HT2.out.seta _ _ _).setb _ _ _)
  case rest =>
  have HC := hcut
  clear hcut cc
  obtain ⟨⟨p0, p1, p2⟩, ⟨p3, p4, p5⟩, ⟨p6, p7, p8⟩, p9, px, py⟩ := HC.out.cells
  obtain ⟨s0, s1, s2⟩ := HC.out.sets
  by_cases g1 : K1 = 4
  · subst g1
    have VD : Hid (pick3 4 N1 T1 K2 N2 T2 DD = (4, N1, T1)) := by show _ = _; simp [pick3]
    go_wp2_with fail
    refine bodyPost_ret (v := .agg #[.int .i64 4, .int .i64 N1, .string T1]) (by simp [results, Tryz.results23, go_sem, *]) rfl ?_
    exact ⟨by rw [← HD.out]; simp [VD.out], HC.out.out _ _ _⟩
  have q1 : (K1 == 4) = false := by simpa using g1
  by_cases g2 : K2 = 4
  · subst g2
    have VD : Hid (pick3 K1 N1 T1 4 N2 T2 DD = (4, N2, T2)) := by show _ = _; simp [pick3, g1]
    clear g1
    go_wp2_with fail
    refine bodyPost_ret (v := .agg #[.int .i64 4, .int .i64 N2, .string T2]) (by simp [results, Tryz.results23, go_sem, *]) rfl ?_
    exact ⟨by rw [← HD.out]; simp [VD.out], HC.out.out _ _ _⟩
  have q2 : (K2 == 4) = false := by simpa using g2
  have VD : Hid (pick3 K1 N1 T1 K2 N2 T2 DD = DD) := by show _ = _; simp [pick3, g1, g2]
  clear g1 g2
  have cm := hidv calculations_any
  have cq := hidv operators_any
  go_wp2_with fail
  refine (cm.out _).mono ?_
  rintro e wm ⟨rfl, hwm⟩
  have hm : wm.heap[wc.heap.size]? = some (.map calcMap 5) := by rw [hwm]; show (wc.heap.push _)[_]? = _; rw [Array.getElem?_push_size]
  have HM := hidv (HC.out.step (w1 := wm) (by rw [hwm]; exact (Below.refl _ _).alloc (Nat.le_refl _) _))
  have hl := run_lookup_none (P := Tryz.prog) Tryz.underlying69 Tryz.underlying9 wm wc.heap.size calcMap 5 hm ⟨#[61]⟩ _ (by rfl) rfl
  clear hm hwm p0 p1 p2 p3 p4 p5 p6 p7 p8 p9 px py s0 s1 s2
  obtain ⟨⟨m0, m1, m2⟩, ⟨m3, m4, m5⟩, ⟨m6, m7, m8⟩, m9, mx, my⟩ := HM.out.cells
  go_wp2_with fail
  refine (cq.out _).mono ?_
  rintro e wo ⟨rfl, hwo⟩
  have ho : wo.heap[wm.heap.size]? = some (.map operMap 7) := by rw [hwo]; show (wm.heap.push _)[_]? = _; rw [Array.getElem?_push_size]
  have HO := hidv (HM.out.step (w1 := wo) (by rw [hwo]; exact (Below.refl _ _).alloc (Nat.le_refl _) _))
  have hl2 := run_lookup_now (P := Tryz.prog) Tryz.underlying75 Tryz.underlying9 wo wm.heap.size operMap 7 ho ⟨#[61]⟩ 1 (.func (.func 82) #[] #[]) rfl
  clear ho hwo hl m0 m1 m2 m3 m4 m5 m6 m7 m8 m9 mx my
  obtain ⟨⟨q0, q1, q2⟩, ⟨q3, q4, q5⟩, ⟨q6, q7, q8⟩, q9, qx, qy⟩ := HO.out.cells
  go_wp2_with fail
  refine (ck.out _).mono ?_
  rintro e w5 ⟨rfl, hb5⟩
  have H5 := hidv (HO.out.step hb5)
  clear hb5 hl2 q0 q1 q2 q3 q4 q5 q6 q7 q8 q9 qx qy
  obtain ⟨⟨n0, n1, n2⟩, ⟨n3, n4, n5⟩, ⟨n6, n7, n8⟩, n9, nx, ny⟩ := H5.out.cells
  obtain ⟨s0, s1, s2⟩ := H5.out.sets
  go_wp2_with fail
  refine bodyPost_ret (v := .agg #[.int .i64 3, .int .i64 D2, .string ⟨#[]⟩]) (by simp [results, Tryz.results23, go_sem, *]) rfl ?_
  exact ⟨by rw [← HD.out, VD.out, HDD.out], H5.out.out _ _ _⟩

set_option maxHeartbeats 4000000 in
set_option maxRecDepth 100000 in
theorem work_cmp2 (k1 n1 : Int) (t1 : ByteArray) (k2 n2 : Int) (t2 : ByteArray) (K1 N1 : Int) (T1 : ByteArray) (K2 N2 : Int) (T2 : ByteArray) (h1 : Cn k1 n1 t1 K1 N1 T1) (h2 : Cn k2 n2 t2 K2 N2 T2) (w : World) (D : Int × Int × ByteArray)
    (hD : pick3 K1 N1 T1 K2 N2 T2 (3, tst 2 (ordI K1 N1 T1 K2 N2 T2), ⟨#[]⟩) = D) :
    Calls Tryz.prog 23 #[.string ⟨#[60, 62]⟩, .agg #[.int .i64 k1, .int .i64 n1, .string t1], .agg #[.int .i64 k2, .int .i64 n2, .string t2]] w fun e w' => e = .returned (.agg #[.int .i64 D.1, .int .i64 D.2.1, .string D.2.2]) ∧ Below w.heap.size w w' := by
  have ck := hidv (oper_2 K1 N1 T1 K2 N2 T2 (cn_self h1) (cn_self h2))
  generalize tst 2 (ordI K1 N1 T1 K2 N2 T2) = D2 at ck hD
  obtain ⟨DD, eDD⟩ : ∃ DD : Int × Int × ByteArray, DD = (3, D2, ⟨#[]⟩) := ⟨_, rfl⟩
  rw [← eDD] at hD
  have HD := hidv hD
  have HDD := hidv eDD
  clear hD eDD
  have cc := hidv counted_cn
  have H1 := hidv h1
  have H2 := hidv h2
  go_enter Tryz.func23, Tryz.ntmps23
  go_upto_region 1 with fail
  go_cut [] from 11 (fun wx => Hid (TriB w wx 23 (.int .i64 K1) (.int .i64 N1) (.string T1) (.int .i64 K2) (.int .i64 N2) (.string T2) (.int .i64 0) (.int .i64 0) (.string ⟨#[]⟩)))
  case first =>
    have HX := hidv (triB_new w 23 (.int .i64 k1) (.int .i64 n1) (.string t1) (.int .i64 k2) (.int .i64 n2) (.string t2) (.int .i64 0) (.int .i64 0) (.string ⟨#[]⟩) ((((w.alloc (.cells #[.int .i64 k1, .int .i64 n1, .string t1] 23)).alloc (.cells #[.int .i64 k2, .int .i64 n2, .string t2] 23)).alloc (.cells #[.int .i64 0, .int .i64 0, .string ⟨#[]⟩] 23)).drew) rfl (by go_grown))
    obtain ⟨⟨x0, x1, x2⟩, ⟨x3, x4, x5⟩, ⟨x6, x7, x8⟩, x9, xx, xy⟩ := HX.out.cells
    obtain ⟨⟨xu0, xu1, xu2⟩, xu3, xu4, xu5⟩ := HX.out.free
    go_region_with (first | (go_at_call 39; refine (cc.out _ _ _ _ _ _ (by exact H1.out) _).mono ?_; rintro e w1 ⟨rfl, hb1⟩; have HT1 := hidv (HX.out.step hb1); obtain ⟨⟨c0, c1, c2⟩, ⟨c3, c4, c5⟩, ⟨c6, c7, c8⟩, c9, cx, cy⟩ := HT1.out.cells; obtain ⟨⟨cu0, cu1, cu2⟩, cu3, cu4, cu5⟩ := HT1.out.free; clear hb1) | (go_at_call 39; refine (cc.out _ _ _ _ _ _ (by exact H2.out) _).mono ?_; rintro e w2 ⟨rfl, hb2⟩; have HT2 := hidv (HT1.out.step hb2); obtain ⟨⟨d0, d1, d2⟩, ⟨d3, d4, d5⟩, ⟨d6, d7, d8⟩, d9, dx, dy⟩ := HT2.out.cells; obtain ⟨⟨du0, du1, du2⟩, du3, du4, du5⟩ := HT2.out.free; clear hb2))
    all_goals
      go_wp2_with fail
      go_meet
      exact hidv ((HT2.out.seta _ _ _).setb _ _ _)
  case rest =>
  have HC := hcut
  clear hcut cc
  obtain ⟨⟨p0, p1, p2⟩, ⟨p3, p4, p5⟩, ⟨p6, p7, p8⟩, p9, px, py⟩ := HC.out.cells
  obtain ⟨s0, s1, s2⟩ := HC.out.sets
  by_cases g1 : K1 = 4
  · subst g1
    have VD : Hid (pick3 4 N1 T1 K2 N2 T2 DD = (4, N1, T1)) := by show _ = _; simp [pick3]
    go_wp2_with fail
    refine bodyPost_ret (v := .agg #[.int .i64 4, .int .i64 N1, .string T1]) (by simp [results, Tryz.results23, go_sem, *]) rfl ?_
    exact ⟨by rw [← HD.out]; simp [VD.out], HC.out.out _ _ _⟩
  have q1 : (K1 == 4) = false := by simpa using g1
  by_cases g2 : K2 = 4
  · subst g2
    have VD : Hid (pick3 K1 N1 T1 4 N2 T2 DD = (4, N2, T2)) := by show _ = _; simp [pick3, g1]
    clear g1
    go_wp2_with fail
    refine bodyPost_ret (v := .agg #[.int .i64 4, .int .i64 N2, .string T2]) (by simp [results, Tryz.results23, go_sem, *]) rfl ?_
    exact ⟨by rw [← HD.out]; simp [VD.out], HC.out.out _ _ _⟩
  have q2 : (K2 == 4) = false := by simpa using g2
  have VD : Hid (pick3 K1 N1 T1 K2 N2 T2 DD = DD) := by show _ = _; simp [pick3, g1, g2]
  clear g1 g2
  have cm := hidv calculations_any
  have cq := hidv operators_any
  go_wp2_with fail
  refine (cm.out _).mono ?_
  rintro e wm ⟨rfl, hwm⟩
  have hm : wm.heap[wc.heap.size]? = some (.map calcMap 5) := by rw [hwm]; show (wc.heap.push _)[_]? = _; rw [Array.getElem?_push_size]
  have HM := hidv (HC.out.step (w1 := wm) (by rw [hwm]; exact (Below.refl _ _).alloc (Nat.le_refl _) _))
  have hl := run_lookup_none (P := Tryz.prog) Tryz.underlying69 Tryz.underlying9 wm wc.heap.size calcMap 5 hm ⟨#[60, 62]⟩ _ (by rfl) rfl
  clear hm hwm p0 p1 p2 p3 p4 p5 p6 p7 p8 p9 px py s0 s1 s2
  obtain ⟨⟨m0, m1, m2⟩, ⟨m3, m4, m5⟩, ⟨m6, m7, m8⟩, m9, mx, my⟩ := HM.out.cells
  go_wp2_with fail
  refine (cq.out _).mono ?_
  rintro e wo ⟨rfl, hwo⟩
  have ho : wo.heap[wm.heap.size]? = some (.map operMap 7) := by rw [hwo]; show (wm.heap.push _)[_]? = _; rw [Array.getElem?_push_size]
  have HO := hidv (HM.out.step (w1 := wo) (by rw [hwo]; exact (Below.refl _ _).alloc (Nat.le_refl _) _))
  have hl2 := run_lookup_now (P := Tryz.prog) Tryz.underlying75 Tryz.underlying9 wo wm.heap.size operMap 7 ho ⟨#[60, 62]⟩ 2 (.func (.func 83) #[] #[]) rfl
  clear ho hwo hl m0 m1 m2 m3 m4 m5 m6 m7 m8 m9 mx my
  obtain ⟨⟨q0, q1, q2⟩, ⟨q3, q4, q5⟩, ⟨q6, q7, q8⟩, q9, qx, qy⟩ := HO.out.cells
  go_wp2_with fail
  refine (ck.out _).mono ?_
  rintro e w5 ⟨rfl, hb5⟩
  have H5 := hidv (HO.out.step hb5)
  clear hb5 hl2 q0 q1 q2 q3 q4 q5 q6 q7 q8 q9 qx qy
  obtain ⟨⟨n0, n1, n2⟩, ⟨n3, n4, n5⟩, ⟨n6, n7, n8⟩, n9, nx, ny⟩ := H5.out.cells
  obtain ⟨s0, s1, s2⟩ := H5.out.sets
  go_wp2_with fail
  refine bodyPost_ret (v := .agg #[.int .i64 3, .int .i64 D2, .string ⟨#[]⟩]) (by simp [results, Tryz.results23, go_sem, *]) rfl ?_
  exact ⟨by rw [← HD.out, VD.out, HDD.out], H5.out.out _ _ _⟩

set_option maxHeartbeats 4000000 in
set_option maxRecDepth 100000 in
theorem work_cmp3 (k1 n1 : Int) (t1 : ByteArray) (k2 n2 : Int) (t2 : ByteArray) (K1 N1 : Int) (T1 : ByteArray) (K2 N2 : Int) (T2 : ByteArray) (h1 : Cn k1 n1 t1 K1 N1 T1) (h2 : Cn k2 n2 t2 K2 N2 T2) (w : World) (D : Int × Int × ByteArray)
    (hD : pick3 K1 N1 T1 K2 N2 T2 (3, tst 3 (ordI K1 N1 T1 K2 N2 T2), ⟨#[]⟩) = D) :
    Calls Tryz.prog 23 #[.string ⟨#[60]⟩, .agg #[.int .i64 k1, .int .i64 n1, .string t1], .agg #[.int .i64 k2, .int .i64 n2, .string t2]] w fun e w' => e = .returned (.agg #[.int .i64 D.1, .int .i64 D.2.1, .string D.2.2]) ∧ Below w.heap.size w w' := by
  have ck := hidv (oper_3 K1 N1 T1 K2 N2 T2 (cn_self h1) (cn_self h2))
  generalize tst 3 (ordI K1 N1 T1 K2 N2 T2) = D2 at ck hD
  obtain ⟨DD, eDD⟩ : ∃ DD : Int × Int × ByteArray, DD = (3, D2, ⟨#[]⟩) := ⟨_, rfl⟩
  rw [← eDD] at hD
  have HD := hidv hD
  have HDD := hidv eDD
  clear hD eDD
  have cc := hidv counted_cn
  have H1 := hidv h1
  have H2 := hidv h2
  go_enter Tryz.func23, Tryz.ntmps23
  go_upto_region 1 with fail
  go_cut [] from 11 (fun wx => Hid (TriB w wx 23 (.int .i64 K1) (.int .i64 N1) (.string T1) (.int .i64 K2) (.int .i64 N2) (.string T2) (.int .i64 0) (.int .i64 0) (.string ⟨#[]⟩)))
  case first =>
    have HX := hidv (triB_new w 23 (.int .i64 k1) (.int .i64 n1) (.string t1) (.int .i64 k2) (.int .i64 n2) (.string t2) (.int .i64 0) (.int .i64 0) (.string ⟨#[]⟩) ((((w.alloc (.cells #[.int .i64 k1, .int .i64 n1, .string t1] 23)).alloc (.cells #[.int .i64 k2, .int .i64 n2, .string t2] 23)).alloc (.cells #[.int .i64 0, .int .i64 0, .string ⟨#[]⟩] 23)).drew) rfl (by go_grown))
    obtain ⟨⟨x0, x1, x2⟩, ⟨x3, x4, x5⟩, ⟨x6, x7, x8⟩, x9, xx, xy⟩ := HX.out.cells
    obtain ⟨⟨xu0, xu1, xu2⟩, xu3, xu4, xu5⟩ := HX.out.free
    go_region_with (first | (go_at_call 39; refine (cc.out _ _ _ _ _ _ (by exact H1.out) _).mono ?_; rintro e w1 ⟨rfl, hb1⟩; have HT1 := hidv (HX.out.step hb1); obtain ⟨⟨c0, c1, c2⟩, ⟨c3, c4, c5⟩, ⟨c6, c7, c8⟩, c9, cx, cy⟩ := HT1.out.cells; obtain ⟨⟨cu0, cu1, cu2⟩, cu3, cu4, cu5⟩ := HT1.out.free; clear hb1) | (go_at_call 39; refine (cc.out _ _ _ _ _ _ (by exact H2.out) _).mono ?_; rintro e w2 ⟨rfl, hb2⟩; have HT2 := hidv (HT1.out.step hb2); obtain ⟨⟨d0, d1, d2⟩, ⟨d3, d4, d5⟩, ⟨d6, d7, d8⟩, d9, dx, dy⟩ := HT2.out.cells; obtain ⟨⟨du0, du1, du2⟩, du3, du4, du5⟩ := HT2.out.free; clear hb2))
    all_goals
      go_wp2_with fail
      go_meet
      exact hidv ((HT2.out.seta _ _ _).setb _ _ _)
  case rest =>
  have HC := hcut
  clear hcut cc
  obtain ⟨⟨p0, p1, p2⟩, ⟨p3, p4, p5⟩, ⟨p6, p7, p8⟩, p9, px, py⟩ := HC.out.cells
  obtain ⟨s0, s1, s2⟩ := HC.out.sets
  by_cases g1 : K1 = 4
  · subst g1
    have VD : Hid (pick3 4 N1 T1 K2 N2 T2 DD = (4, N1, T1)) := by show _ = _; simp [pick3]
    go_wp2_with fail
    refine bodyPost_ret (v := .agg #[.int .i64 4, .int .i64 N1, .string T1]) (by simp [results, Tryz.results23, go_sem, *]) rfl ?_
    exact ⟨by rw [← HD.out]; simp [VD.out], HC.out.out _ _ _⟩
  have q1 : (K1 == 4) = false := by simpa using g1
  by_cases g2 : K2 = 4
  · subst g2
    have VD : Hid (pick3 K1 N1 T1 4 N2 T2 DD = (4, N2, T2)) := by show _ = _; simp [pick3, g1]
    clear g1
    go_wp2_with fail
    refine bodyPost_ret (v := .agg #[.int .i64 4, .int .i64 N2, .string T2]) (by simp [results, Tryz.results23, go_sem, *]) rfl ?_
    exact ⟨by rw [← HD.out]; simp [VD.out], HC.out.out _ _ _⟩
  have q2 : (K2 == 4) = false := by simpa using g2
  have VD : Hid (pick3 K1 N1 T1 K2 N2 T2 DD = DD) := by show _ = _; simp [pick3, g1, g2]
  clear g1 g2
  have cm := hidv calculations_any
  have cq := hidv operators_any
  go_wp2_with fail
  refine (cm.out _).mono ?_
  rintro e wm ⟨rfl, hwm⟩
  have hm : wm.heap[wc.heap.size]? = some (.map calcMap 5) := by rw [hwm]; show (wc.heap.push _)[_]? = _; rw [Array.getElem?_push_size]
  have HM := hidv (HC.out.step (w1 := wm) (by rw [hwm]; exact (Below.refl _ _).alloc (Nat.le_refl _) _))
  have hl := run_lookup_none (P := Tryz.prog) Tryz.underlying69 Tryz.underlying9 wm wc.heap.size calcMap 5 hm ⟨#[60]⟩ _ (by rfl) rfl
  clear hm hwm p0 p1 p2 p3 p4 p5 p6 p7 p8 p9 px py s0 s1 s2
  obtain ⟨⟨m0, m1, m2⟩, ⟨m3, m4, m5⟩, ⟨m6, m7, m8⟩, m9, mx, my⟩ := HM.out.cells
  go_wp2_with fail
  refine (cq.out _).mono ?_
  rintro e wo ⟨rfl, hwo⟩
  have ho : wo.heap[wm.heap.size]? = some (.map operMap 7) := by rw [hwo]; show (wm.heap.push _)[_]? = _; rw [Array.getElem?_push_size]
  have HO := hidv (HM.out.step (w1 := wo) (by rw [hwo]; exact (Below.refl _ _).alloc (Nat.le_refl _) _))
  have hl2 := run_lookup_now (P := Tryz.prog) Tryz.underlying75 Tryz.underlying9 wo wm.heap.size operMap 7 ho ⟨#[60]⟩ 3 (.func (.func 84) #[] #[]) rfl
  clear ho hwo hl m0 m1 m2 m3 m4 m5 m6 m7 m8 m9 mx my
  obtain ⟨⟨q0, q1, q2⟩, ⟨q3, q4, q5⟩, ⟨q6, q7, q8⟩, q9, qx, qy⟩ := HO.out.cells
  go_wp2_with fail
  refine (ck.out _).mono ?_
  rintro e w5 ⟨rfl, hb5⟩
  have H5 := hidv (HO.out.step hb5)
  clear hb5 hl2 q0 q1 q2 q3 q4 q5 q6 q7 q8 q9 qx qy
  obtain ⟨⟨n0, n1, n2⟩, ⟨n3, n4, n5⟩, ⟨n6, n7, n8⟩, n9, nx, ny⟩ := H5.out.cells
  obtain ⟨s0, s1, s2⟩ := H5.out.sets
  go_wp2_with fail
  refine bodyPost_ret (v := .agg #[.int .i64 3, .int .i64 D2, .string ⟨#[]⟩]) (by simp [results, Tryz.results23, go_sem, *]) rfl ?_
  exact ⟨by rw [← HD.out, VD.out, HDD.out], H5.out.out _ _ _⟩

set_option maxHeartbeats 4000000 in
set_option maxRecDepth 100000 in
theorem work_cmp4 (k1 n1 : Int) (t1 : ByteArray) (k2 n2 : Int) (t2 : ByteArray) (K1 N1 : Int) (T1 : ByteArray) (K2 N2 : Int) (T2 : ByteArray) (h1 : Cn k1 n1 t1 K1 N1 T1) (h2 : Cn k2 n2 t2 K2 N2 T2) (w : World) (D : Int × Int × ByteArray)
    (hD : pick3 K1 N1 T1 K2 N2 T2 (3, tst 4 (ordI K1 N1 T1 K2 N2 T2), ⟨#[]⟩) = D) :
    Calls Tryz.prog 23 #[.string ⟨#[60, 61]⟩, .agg #[.int .i64 k1, .int .i64 n1, .string t1], .agg #[.int .i64 k2, .int .i64 n2, .string t2]] w fun e w' => e = .returned (.agg #[.int .i64 D.1, .int .i64 D.2.1, .string D.2.2]) ∧ Below w.heap.size w w' := by
  have ck := hidv (oper_4 K1 N1 T1 K2 N2 T2 (cn_self h1) (cn_self h2))
  generalize tst 4 (ordI K1 N1 T1 K2 N2 T2) = D2 at ck hD
  obtain ⟨DD, eDD⟩ : ∃ DD : Int × Int × ByteArray, DD = (3, D2, ⟨#[]⟩) := ⟨_, rfl⟩
  rw [← eDD] at hD
  have HD := hidv hD
  have HDD := hidv eDD
  clear hD eDD
  have cc := hidv counted_cn
  have H1 := hidv h1
  have H2 := hidv h2
  go_enter Tryz.func23, Tryz.ntmps23
  go_upto_region 1 with fail
  go_cut [] from 11 (fun wx => Hid (TriB w wx 23 (.int .i64 K1) (.int .i64 N1) (.string T1) (.int .i64 K2) (.int .i64 N2) (.string T2) (.int .i64 0) (.int .i64 0) (.string ⟨#[]⟩)))
  case first =>
    have HX := hidv (triB_new w 23 (.int .i64 k1) (.int .i64 n1) (.string t1) (.int .i64 k2) (.int .i64 n2) (.string t2) (.int .i64 0) (.int .i64 0) (.string ⟨#[]⟩) ((((w.alloc (.cells #[.int .i64 k1, .int .i64 n1, .string t1] 23)).alloc (.cells #[.int .i64 k2, .int .i64 n2, .string t2] 23)).alloc (.cells #[.int .i64 0, .int .i64 0, .string ⟨#[]⟩] 23)).drew) rfl (by go_grown))
    obtain ⟨⟨x0, x1, x2⟩, ⟨x3, x4, x5⟩, ⟨x6, x7, x8⟩, x9, xx, xy⟩ := HX.out.cells
    obtain ⟨⟨xu0, xu1, xu2⟩, xu3, xu4, xu5⟩ := HX.out.free
    go_region_with (first | (go_at_call 39; refine (cc.out _ _ _ _ _ _ (by exact H1.out) _).mono ?_; rintro e w1 ⟨rfl, hb1⟩; have HT1 := hidv (HX.out.step hb1); obtain ⟨⟨c0, c1, c2⟩, ⟨c3, c4, c5⟩, ⟨c6, c7, c8⟩, c9, cx, cy⟩ := HT1.out.cells; obtain ⟨⟨cu0, cu1, cu2⟩, cu3, cu4, cu5⟩ := HT1.out.free; clear hb1) | (go_at_call 39; refine (cc.out _ _ _ _ _ _ (by exact H2.out) _).mono ?_; rintro e w2 ⟨rfl, hb2⟩; have HT2 := hidv (HT1.out.step hb2); obtain ⟨⟨d0, d1, d2⟩, ⟨d3, d4, d5⟩, ⟨d6, d7, d8⟩, d9, dx, dy⟩ := HT2.out.cells; obtain ⟨⟨du0, du1, du2⟩, du3, du4, du5⟩ := HT2.out.free; clear hb2))
    all_goals
      go_wp2_with fail
      go_meet
      exact hidv ((HT2.out.seta _ _ _).setb _ _ _)
  case rest =>
  have HC := hcut
  clear hcut cc
  obtain ⟨⟨p0, p1, p2⟩, ⟨p3, p4, p5⟩, ⟨p6, p7, p8⟩, p9, px, py⟩ := HC.out.cells
  obtain ⟨s0, s1, s2⟩ := HC.out.sets
  by_cases g1 : K1 = 4
  · subst g1
    have VD : Hid (pick3 4 N1 T1 K2 N2 T2 DD = (4, N1, T1)) := by show _ = _; simp [pick3]
    go_wp2_with fail
    refine bodyPost_ret (v := .agg #[.int .i64 4, .int .i64 N1, .string T1]) (by simp [results, Tryz.results23, go_sem, *]) rfl ?_
    exact ⟨by rw [← HD.out]; simp [VD.out], HC.out.out _ _ _⟩
  have q1 : (K1 == 4) = false := by simpa using g1
  by_cases g2 : K2 = 4
  · subst g2
    have VD : Hid (pick3 K1 N1 T1 4 N2 T2 DD = (4, N2, T2)) := by show _ = _; simp [pick3, g1]
    clear g1
    go_wp2_with fail
    refine bodyPost_ret (v := .agg #[.int .i64 4, .int .i64 N2, .string T2]) (by simp [results, Tryz.results23, go_sem, *]) rfl ?_
    exact ⟨by rw [← HD.out]; simp [VD.out], HC.out.out _ _ _⟩
  have q2 : (K2 == 4) = false := by simpa using g2
  have VD : Hid (pick3 K1 N1 T1 K2 N2 T2 DD = DD) := by show _ = _; simp [pick3, g1, g2]
  clear g1 g2
  have cm := hidv calculations_any
  have cq := hidv operators_any
  go_wp2_with fail
  refine (cm.out _).mono ?_
  rintro e wm ⟨rfl, hwm⟩
  have hm : wm.heap[wc.heap.size]? = some (.map calcMap 5) := by rw [hwm]; show (wc.heap.push _)[_]? = _; rw [Array.getElem?_push_size]
  have HM := hidv (HC.out.step (w1 := wm) (by rw [hwm]; exact (Below.refl _ _).alloc (Nat.le_refl _) _))
  have hl := run_lookup_none (P := Tryz.prog) Tryz.underlying69 Tryz.underlying9 wm wc.heap.size calcMap 5 hm ⟨#[60, 61]⟩ _ (by rfl) rfl
  clear hm hwm p0 p1 p2 p3 p4 p5 p6 p7 p8 p9 px py s0 s1 s2
  obtain ⟨⟨m0, m1, m2⟩, ⟨m3, m4, m5⟩, ⟨m6, m7, m8⟩, m9, mx, my⟩ := HM.out.cells
  go_wp2_with fail
  refine (cq.out _).mono ?_
  rintro e wo ⟨rfl, hwo⟩
  have ho : wo.heap[wm.heap.size]? = some (.map operMap 7) := by rw [hwo]; show (wm.heap.push _)[_]? = _; rw [Array.getElem?_push_size]
  have HO := hidv (HM.out.step (w1 := wo) (by rw [hwo]; exact (Below.refl _ _).alloc (Nat.le_refl _) _))
  have hl2 := run_lookup_now (P := Tryz.prog) Tryz.underlying75 Tryz.underlying9 wo wm.heap.size operMap 7 ho ⟨#[60, 61]⟩ 4 (.func (.func 85) #[] #[]) rfl
  clear ho hwo hl m0 m1 m2 m3 m4 m5 m6 m7 m8 m9 mx my
  obtain ⟨⟨q0, q1, q2⟩, ⟨q3, q4, q5⟩, ⟨q6, q7, q8⟩, q9, qx, qy⟩ := HO.out.cells
  go_wp2_with fail
  refine (ck.out _).mono ?_
  rintro e w5 ⟨rfl, hb5⟩
  have H5 := hidv (HO.out.step hb5)
  clear hb5 hl2 q0 q1 q2 q3 q4 q5 q6 q7 q8 q9 qx qy
  obtain ⟨⟨n0, n1, n2⟩, ⟨n3, n4, n5⟩, ⟨n6, n7, n8⟩, n9, nx, ny⟩ := H5.out.cells
  obtain ⟨s0, s1, s2⟩ := H5.out.sets
  go_wp2_with fail
  refine bodyPost_ret (v := .agg #[.int .i64 3, .int .i64 D2, .string ⟨#[]⟩]) (by simp [results, Tryz.results23, go_sem, *]) rfl ?_
  exact ⟨by rw [← HD.out, VD.out, HDD.out], H5.out.out _ _ _⟩

set_option maxHeartbeats 4000000 in
set_option maxRecDepth 100000 in
theorem work_cmp5 (k1 n1 : Int) (t1 : ByteArray) (k2 n2 : Int) (t2 : ByteArray) (K1 N1 : Int) (T1 : ByteArray) (K2 N2 : Int) (T2 : ByteArray) (h1 : Cn k1 n1 t1 K1 N1 T1) (h2 : Cn k2 n2 t2 K2 N2 T2) (w : World) (D : Int × Int × ByteArray)
    (hD : pick3 K1 N1 T1 K2 N2 T2 (3, tst 5 (ordI K1 N1 T1 K2 N2 T2), ⟨#[]⟩) = D) :
    Calls Tryz.prog 23 #[.string ⟨#[62]⟩, .agg #[.int .i64 k1, .int .i64 n1, .string t1], .agg #[.int .i64 k2, .int .i64 n2, .string t2]] w fun e w' => e = .returned (.agg #[.int .i64 D.1, .int .i64 D.2.1, .string D.2.2]) ∧ Below w.heap.size w w' := by
  have ck := hidv (oper_5 K1 N1 T1 K2 N2 T2 (cn_self h1) (cn_self h2))
  generalize tst 5 (ordI K1 N1 T1 K2 N2 T2) = D2 at ck hD
  obtain ⟨DD, eDD⟩ : ∃ DD : Int × Int × ByteArray, DD = (3, D2, ⟨#[]⟩) := ⟨_, rfl⟩
  rw [← eDD] at hD
  have HD := hidv hD
  have HDD := hidv eDD
  clear hD eDD
  have cc := hidv counted_cn
  have H1 := hidv h1
  have H2 := hidv h2
  go_enter Tryz.func23, Tryz.ntmps23
  go_upto_region 1 with fail
  go_cut [] from 11 (fun wx => Hid (TriB w wx 23 (.int .i64 K1) (.int .i64 N1) (.string T1) (.int .i64 K2) (.int .i64 N2) (.string T2) (.int .i64 0) (.int .i64 0) (.string ⟨#[]⟩)))
  case first =>
    have HX := hidv (triB_new w 23 (.int .i64 k1) (.int .i64 n1) (.string t1) (.int .i64 k2) (.int .i64 n2) (.string t2) (.int .i64 0) (.int .i64 0) (.string ⟨#[]⟩) ((((w.alloc (.cells #[.int .i64 k1, .int .i64 n1, .string t1] 23)).alloc (.cells #[.int .i64 k2, .int .i64 n2, .string t2] 23)).alloc (.cells #[.int .i64 0, .int .i64 0, .string ⟨#[]⟩] 23)).drew) rfl (by go_grown))
    obtain ⟨⟨x0, x1, x2⟩, ⟨x3, x4, x5⟩, ⟨x6, x7, x8⟩, x9, xx, xy⟩ := HX.out.cells
    obtain ⟨⟨xu0, xu1, xu2⟩, xu3, xu4, xu5⟩ := HX.out.free
    go_region_with (first | (go_at_call 39; refine (cc.out _ _ _ _ _ _ (by exact H1.out) _).mono ?_; rintro e w1 ⟨rfl, hb1⟩; have HT1 := hidv (HX.out.step hb1); obtain ⟨⟨c0, c1, c2⟩, ⟨c3, c4, c5⟩, ⟨c6, c7, c8⟩, c9, cx, cy⟩ := HT1.out.cells; obtain ⟨⟨cu0, cu1, cu2⟩, cu3, cu4, cu5⟩ := HT1.out.free; clear hb1) | (go_at_call 39; refine (cc.out _ _ _ _ _ _ (by exact H2.out) _).mono ?_; rintro e w2 ⟨rfl, hb2⟩; have HT2 := hidv (HT1.out.step hb2); obtain ⟨⟨d0, d1, d2⟩, ⟨d3, d4, d5⟩, ⟨d6, d7, d8⟩, d9, dx, dy⟩ := HT2.out.cells; obtain ⟨⟨du0, du1, du2⟩, du3, du4, du5⟩ := HT2.out.free; clear hb2))
    all_goals
      go_wp2_with fail
      go_meet
      exact hidv ((HT2.out.seta _ _ _).setb _ _ _)
  case rest =>
  have HC := hcut
  clear hcut cc
  obtain ⟨⟨p0, p1, p2⟩, ⟨p3, p4, p5⟩, ⟨p6, p7, p8⟩, p9, px, py⟩ := HC.out.cells
  obtain ⟨s0, s1, s2⟩ := HC.out.sets
  by_cases g1 : K1 = 4
  · subst g1
    have VD : Hid (pick3 4 N1 T1 K2 N2 T2 DD = (4, N1, T1)) := by show _ = _; simp [pick3]
    go_wp2_with fail
    refine bodyPost_ret (v := .agg #[.int .i64 4, .int .i64 N1, .string T1]) (by simp [results, Tryz.results23, go_sem, *]) rfl ?_
    exact ⟨by rw [← HD.out]; simp [VD.out], HC.out.out _ _ _⟩
  have q1 : (K1 == 4) = false := by simpa using g1
  by_cases g2 : K2 = 4
  · subst g2
    have VD : Hid (pick3 K1 N1 T1 4 N2 T2 DD = (4, N2, T2)) := by show _ = _; simp [pick3, g1]
    clear g1
    go_wp2_with fail
    refine bodyPost_ret (v := .agg #[.int .i64 4, .int .i64 N2, .string T2]) (by simp [results, Tryz.results23, go_sem, *]) rfl ?_
    exact ⟨by rw [← HD.out]; simp [VD.out], HC.out.out _ _ _⟩
  have q2 : (K2 == 4) = false := by simpa using g2
  have VD : Hid (pick3 K1 N1 T1 K2 N2 T2 DD = DD) := by show _ = _; simp [pick3, g1, g2]
  clear g1 g2
  have cm := hidv calculations_any
  have cq := hidv operators_any
  go_wp2_with fail
  refine (cm.out _).mono ?_
  rintro e wm ⟨rfl, hwm⟩
  have hm : wm.heap[wc.heap.size]? = some (.map calcMap 5) := by rw [hwm]; show (wc.heap.push _)[_]? = _; rw [Array.getElem?_push_size]
  have HM := hidv (HC.out.step (w1 := wm) (by rw [hwm]; exact (Below.refl _ _).alloc (Nat.le_refl _) _))
  have hl := run_lookup_none (P := Tryz.prog) Tryz.underlying69 Tryz.underlying9 wm wc.heap.size calcMap 5 hm ⟨#[62]⟩ _ (by rfl) rfl
  clear hm hwm p0 p1 p2 p3 p4 p5 p6 p7 p8 p9 px py s0 s1 s2
  obtain ⟨⟨m0, m1, m2⟩, ⟨m3, m4, m5⟩, ⟨m6, m7, m8⟩, m9, mx, my⟩ := HM.out.cells
  go_wp2_with fail
  refine (cq.out _).mono ?_
  rintro e wo ⟨rfl, hwo⟩
  have ho : wo.heap[wm.heap.size]? = some (.map operMap 7) := by rw [hwo]; show (wm.heap.push _)[_]? = _; rw [Array.getElem?_push_size]
  have HO := hidv (HM.out.step (w1 := wo) (by rw [hwo]; exact (Below.refl _ _).alloc (Nat.le_refl _) _))
  have hl2 := run_lookup_now (P := Tryz.prog) Tryz.underlying75 Tryz.underlying9 wo wm.heap.size operMap 7 ho ⟨#[62]⟩ 5 (.func (.func 86) #[] #[]) rfl
  clear ho hwo hl m0 m1 m2 m3 m4 m5 m6 m7 m8 m9 mx my
  obtain ⟨⟨q0, q1, q2⟩, ⟨q3, q4, q5⟩, ⟨q6, q7, q8⟩, q9, qx, qy⟩ := HO.out.cells
  go_wp2_with fail
  refine (ck.out _).mono ?_
  rintro e w5 ⟨rfl, hb5⟩
  have H5 := hidv (HO.out.step hb5)
  clear hb5 hl2 q0 q1 q2 q3 q4 q5 q6 q7 q8 q9 qx qy
  obtain ⟨⟨n0, n1, n2⟩, ⟨n3, n4, n5⟩, ⟨n6, n7, n8⟩, n9, nx, ny⟩ := H5.out.cells
  obtain ⟨s0, s1, s2⟩ := H5.out.sets
  go_wp2_with fail
  refine bodyPost_ret (v := .agg #[.int .i64 3, .int .i64 D2, .string ⟨#[]⟩]) (by simp [results, Tryz.results23, go_sem, *]) rfl ?_
  exact ⟨by rw [← HD.out, VD.out, HDD.out], H5.out.out _ _ _⟩

set_option maxHeartbeats 4000000 in
set_option maxRecDepth 100000 in
theorem work_cmp6 (k1 n1 : Int) (t1 : ByteArray) (k2 n2 : Int) (t2 : ByteArray) (K1 N1 : Int) (T1 : ByteArray) (K2 N2 : Int) (T2 : ByteArray) (h1 : Cn k1 n1 t1 K1 N1 T1) (h2 : Cn k2 n2 t2 K2 N2 T2) (w : World) (D : Int × Int × ByteArray)
    (hD : pick3 K1 N1 T1 K2 N2 T2 (3, tst 6 (ordI K1 N1 T1 K2 N2 T2), ⟨#[]⟩) = D) :
    Calls Tryz.prog 23 #[.string ⟨#[62, 61]⟩, .agg #[.int .i64 k1, .int .i64 n1, .string t1], .agg #[.int .i64 k2, .int .i64 n2, .string t2]] w fun e w' => e = .returned (.agg #[.int .i64 D.1, .int .i64 D.2.1, .string D.2.2]) ∧ Below w.heap.size w w' := by
  have ck := hidv (oper_6 K1 N1 T1 K2 N2 T2 (cn_self h1) (cn_self h2))
  generalize tst 6 (ordI K1 N1 T1 K2 N2 T2) = D2 at ck hD
  obtain ⟨DD, eDD⟩ : ∃ DD : Int × Int × ByteArray, DD = (3, D2, ⟨#[]⟩) := ⟨_, rfl⟩
  rw [← eDD] at hD
  have HD := hidv hD
  have HDD := hidv eDD
  clear hD eDD
  have cc := hidv counted_cn
  have H1 := hidv h1
  have H2 := hidv h2
  go_enter Tryz.func23, Tryz.ntmps23
  go_upto_region 1 with fail
  go_cut [] from 11 (fun wx => Hid (TriB w wx 23 (.int .i64 K1) (.int .i64 N1) (.string T1) (.int .i64 K2) (.int .i64 N2) (.string T2) (.int .i64 0) (.int .i64 0) (.string ⟨#[]⟩)))
  case first =>
    have HX := hidv (triB_new w 23 (.int .i64 k1) (.int .i64 n1) (.string t1) (.int .i64 k2) (.int .i64 n2) (.string t2) (.int .i64 0) (.int .i64 0) (.string ⟨#[]⟩) ((((w.alloc (.cells #[.int .i64 k1, .int .i64 n1, .string t1] 23)).alloc (.cells #[.int .i64 k2, .int .i64 n2, .string t2] 23)).alloc (.cells #[.int .i64 0, .int .i64 0, .string ⟨#[]⟩] 23)).drew) rfl (by go_grown))
    obtain ⟨⟨x0, x1, x2⟩, ⟨x3, x4, x5⟩, ⟨x6, x7, x8⟩, x9, xx, xy⟩ := HX.out.cells
    obtain ⟨⟨xu0, xu1, xu2⟩, xu3, xu4, xu5⟩ := HX.out.free
    go_region_with (first | (go_at_call 39; refine (cc.out _ _ _ _ _ _ (by exact H1.out) _).mono ?_; rintro e w1 ⟨rfl, hb1⟩; have HT1 := hidv (HX.out.step hb1); obtain ⟨⟨c0, c1, c2⟩, ⟨c3, c4, c5⟩, ⟨c6, c7, c8⟩, c9, cx, cy⟩ := HT1.out.cells; obtain ⟨⟨cu0, cu1, cu2⟩, cu3, cu4, cu5⟩ := HT1.out.free; clear hb1) | (go_at_call 39; refine (cc.out _ _ _ _ _ _ (by exact H2.out) _).mono ?_; rintro e w2 ⟨rfl, hb2⟩; have HT2 := hidv (HT1.out.step hb2); obtain ⟨⟨d0, d1, d2⟩, ⟨d3, d4, d5⟩, ⟨d6, d7, d8⟩, d9, dx, dy⟩ := HT2.out.cells; obtain ⟨⟨du0, du1, du2⟩, du3, du4, du5⟩ := HT2.out.free; clear hb2))
    all_goals
      go_wp2_with fail
      go_meet
      exact hidv ((HT2.out.seta _ _ _).setb _ _ _)
  case rest =>
  have HC := hcut
  clear hcut cc
  obtain ⟨⟨p0, p1, p2⟩, ⟨p3, p4, p5⟩, ⟨p6, p7, p8⟩, p9, px, py⟩ := HC.out.cells
  obtain ⟨s0, s1, s2⟩ := HC.out.sets
  by_cases g1 : K1 = 4
  · subst g1
    have VD : Hid (pick3 4 N1 T1 K2 N2 T2 DD = (4, N1, T1)) := by show _ = _; simp [pick3]
    go_wp2_with fail
    refine bodyPost_ret (v := .agg #[.int .i64 4, .int .i64 N1, .string T1]) (by simp [results, Tryz.results23, go_sem, *]) rfl ?_
    exact ⟨by rw [← HD.out]; simp [VD.out], HC.out.out _ _ _⟩
  have q1 : (K1 == 4) = false := by simpa using g1
  by_cases g2 : K2 = 4
  · subst g2
    have VD : Hid (pick3 K1 N1 T1 4 N2 T2 DD = (4, N2, T2)) := by show _ = _; simp [pick3, g1]
    clear g1
    go_wp2_with fail
    refine bodyPost_ret (v := .agg #[.int .i64 4, .int .i64 N2, .string T2]) (by simp [results, Tryz.results23, go_sem, *]) rfl ?_
    exact ⟨by rw [← HD.out]; simp [VD.out], HC.out.out _ _ _⟩
  have q2 : (K2 == 4) = false := by simpa using g2
  have VD : Hid (pick3 K1 N1 T1 K2 N2 T2 DD = DD) := by show _ = _; simp [pick3, g1, g2]
  clear g1 g2
  have cm := hidv calculations_any
  have cq := hidv operators_any
  go_wp2_with fail
  refine (cm.out _).mono ?_
  rintro e wm ⟨rfl, hwm⟩
  have hm : wm.heap[wc.heap.size]? = some (.map calcMap 5) := by rw [hwm]; show (wc.heap.push _)[_]? = _; rw [Array.getElem?_push_size]
  have HM := hidv (HC.out.step (w1 := wm) (by rw [hwm]; exact (Below.refl _ _).alloc (Nat.le_refl _) _))
  have hl := run_lookup_none (P := Tryz.prog) Tryz.underlying69 Tryz.underlying9 wm wc.heap.size calcMap 5 hm ⟨#[62, 61]⟩ _ (by rfl) rfl
  clear hm hwm p0 p1 p2 p3 p4 p5 p6 p7 p8 p9 px py s0 s1 s2
  obtain ⟨⟨m0, m1, m2⟩, ⟨m3, m4, m5⟩, ⟨m6, m7, m8⟩, m9, mx, my⟩ := HM.out.cells
  go_wp2_with fail
  refine (cq.out _).mono ?_
  rintro e wo ⟨rfl, hwo⟩
  have ho : wo.heap[wm.heap.size]? = some (.map operMap 7) := by rw [hwo]; show (wm.heap.push _)[_]? = _; rw [Array.getElem?_push_size]
  have HO := hidv (HM.out.step (w1 := wo) (by rw [hwo]; exact (Below.refl _ _).alloc (Nat.le_refl _) _))
  have hl2 := run_lookup_now (P := Tryz.prog) Tryz.underlying75 Tryz.underlying9 wo wm.heap.size operMap 7 ho ⟨#[62, 61]⟩ 6 (.func (.func 87) #[] #[]) rfl
  clear ho hwo hl m0 m1 m2 m3 m4 m5 m6 m7 m8 m9 mx my
  obtain ⟨⟨q0, q1, q2⟩, ⟨q3, q4, q5⟩, ⟨q6, q7, q8⟩, q9, qx, qy⟩ := HO.out.cells
  go_wp2_with fail
  refine (ck.out _).mono ?_
  rintro e w5 ⟨rfl, hb5⟩
  have H5 := hidv (HO.out.step hb5)
  clear hb5 hl2 q0 q1 q2 q3 q4 q5 q6 q7 q8 q9 qx qy
  obtain ⟨⟨n0, n1, n2⟩, ⟨n3, n4, n5⟩, ⟨n6, n7, n8⟩, n9, nx, ny⟩ := H5.out.cells
  obtain ⟨s0, s1, s2⟩ := H5.out.sets
  go_wp2_with fail
  refine bodyPost_ret (v := .agg #[.int .i64 3, .int .i64 D2, .string ⟨#[]⟩]) (by simp [results, Tryz.results23, go_sem, *]) rfl ?_
  exact ⟨by rw [← HD.out, VD.out, HDD.out], H5.out.out _ _ _⟩
end Go.Proofs.YtjbkjeabobccaabGreatDoor
namespace Go.Proofs.YtjbkjeabobccaabGreatDoor
open Go.RowKit Go.Sort Go.Lib
set_option linter.unusedVariables false

theorem beq_no {op x : ByteArray} {l : List UInt8} (hx : x.toList = l) (h : (op.toList == l) = false) : (op == x) = false := by
  cases e : (op == x)
  · rfl
  · exfalso
    have e1 : (op.data == x.data) = true := by
      first | exact e | (cases op; cases x; simpa [BEq.beq] using e)
    have e2 : op = x := by
      have e3 := eq_of_beq e1
      cases op; cases x
      exact congrArg ByteArray.mk e3
    rw [e2, hx] at h
    simp at h
theorem find_calc {op : ByteArray} (f1 : NoCmp op) (f2 : NoCalc op) : Instr.findNow .string (.string op) calcMap.toList 0 = some none := by
  have h1 := beq_no (x := ⟨#[43]⟩) (by rw [Lib.toList_data]) f2.b1
  have h2 := beq_no (x := ⟨#[45]⟩) (by rw [Lib.toList_data]) f2.b2
  have h3 := beq_no (x := ⟨#[42]⟩) (by rw [Lib.toList_data]) f2.b3
  have h4 := beq_no (x := ⟨#[47]⟩) (by rw [Lib.toList_data]) f2.b4
  have h5 := beq_no (x := ⟨#[94]⟩) (by rw [Lib.toList_data]) f2.b5
  simp [calcMap, Instr.findNow, Instr.sameNow, h1, h2, h3, h4, h5]
theorem find_oper {op : ByteArray} (f1 : NoCmp op) (f2 : NoCalc op) : Instr.findNow .string (.string op) operMap.toList 0 = some none := by
  have h0 := beq_no (x := ⟨#[38]⟩) (by rw [Lib.toList_data]) f2.b6
  have h1 := beq_no (x := ⟨#[61]⟩) (by rw [Lib.toList_data]) f1.c1
  have h2 := beq_no (x := ⟨#[60, 62]⟩) (by rw [Lib.toList_data]) f1.c2
  have h3 := beq_no (x := ⟨#[60]⟩) (by rw [Lib.toList_data]) f1.c3
  have h4 := beq_no (x := ⟨#[60, 61]⟩) (by rw [Lib.toList_data]) f1.c4
  have h5 := beq_no (x := ⟨#[62]⟩) (by rw [Lib.toList_data]) f1.c5
  have h6 := beq_no (x := ⟨#[62, 61]⟩) (by rw [Lib.toList_data]) f1.c6
  simp [operMap, Instr.findNow, Instr.sameNow, h0, h1, h2, h3, h4, h5, h6]

set_option maxHeartbeats 4000000 in
set_option maxRecDepth 100000 in
theorem work_none (op : ByteArray) (f1 : NoCmp op) (f2 : NoCalc op) (k1 n1 : Int) (t1 : ByteArray) (k2 n2 : Int) (t2 : ByteArray) (K1 N1 : Int) (T1 : ByteArray) (K2 N2 : Int) (T2 : ByteArray) (h1 : Cn k1 n1 t1 K1 N1 T1) (h2 : Cn k2 n2 t2 K2 N2 T2) (w : World) (D : Int × Int × ByteArray)
    (hD : pick3 K1 N1 T1 K2 N2 T2 (4, 3, ⟨#[]⟩) = D) :
    Calls Tryz.prog 23 #[.string op, .agg #[.int .i64 k1, .int .i64 n1, .string t1], .agg #[.int .i64 k2, .int .i64 n2, .string t2]] w fun e w' => e = .returned (.agg #[.int .i64 D.1, .int .i64 D.2.1, .string D.2.2]) ∧ Below w.heap.size w w' := by
  have HF := hidv (And.intro (find_calc f1 f2) (find_oper f1 f2))
  clear f1 f2
  have c0 := fun w => faultValue_any 3 w
  simp only [if_neg (show ¬ ((3 : Int) < 1 ∨ 6 < (3 : Int)) by omega)] at c0
  have cf := hidv c0
  clear c0
  obtain ⟨DD, eDD⟩ : ∃ DD : Int × Int × ByteArray, DD = (4, 3, ⟨#[]⟩) := ⟨_, rfl⟩
  rw [← eDD] at hD
  have HD := hidv hD
  have HDD := hidv eDD
  clear hD eDD
  have cc := hidv counted_cn
  have H1 := hidv h1
  have H2 := hidv h2
  go_enter Tryz.func23, Tryz.ntmps23
  go_upto_region 1 with fail
  go_cut [] from 11 (fun wx => Hid (TriB w wx 23 (.int .i64 K1) (.int .i64 N1) (.string T1) (.int .i64 K2) (.int .i64 N2) (.string T2) (.int .i64 0) (.int .i64 0) (.string ⟨#[]⟩)))
  case first =>
    have HX := hidv (triB_new w 23 (.int .i64 k1) (.int .i64 n1) (.string t1) (.int .i64 k2) (.int .i64 n2) (.string t2) (.int .i64 0) (.int .i64 0) (.string ⟨#[]⟩) ((((w.alloc (.cells #[.int .i64 k1, .int .i64 n1, .string t1] 23)).alloc (.cells #[.int .i64 k2, .int .i64 n2, .string t2] 23)).alloc (.cells #[.int .i64 0, .int .i64 0, .string ⟨#[]⟩] 23)).drew) rfl (by go_grown))
    obtain ⟨⟨x0, x1, x2⟩, ⟨x3, x4, x5⟩, ⟨x6, x7, x8⟩, x9, xx, xy⟩ := HX.out.cells
    obtain ⟨⟨xu0, xu1, xu2⟩, xu3, xu4, xu5⟩ := HX.out.free
    go_region_with (first | (go_at_call 39; refine (cc.out _ _ _ _ _ _ (by exact H1.out) _).mono ?_; rintro e w1 ⟨rfl, hb1⟩; have HT1 := hidv (HX.out.step hb1); obtain ⟨⟨c0, c1, c2⟩, ⟨c3, c4, c5⟩, ⟨c6, c7, c8⟩, c9, cx, cy⟩ := HT1.out.cells; obtain ⟨⟨cu0, cu1, cu2⟩, cu3, cu4, cu5⟩ := HT1.out.free; clear hb1) | (go_at_call 39; refine (cc.out _ _ _ _ _ _ (by exact H2.out) _).mono ?_; rintro e w2 ⟨rfl, hb2⟩; have HT2 := hidv (HT1.out.step hb2); obtain ⟨⟨d0, d1, d2⟩, ⟨d3, d4, d5⟩, ⟨d6, d7, d8⟩, d9, dx, dy⟩ := HT2.out.cells; obtain ⟨⟨du0, du1, du2⟩, du3, du4, du5⟩ := HT2.out.free; clear hb2))
    all_goals
      go_wp2_with fail
      go_meet
      exact hidv ((HT2.out.seta _ _ _).setb _ _ _)
  case rest =>
  have HC := hcut
  clear hcut cc
  obtain ⟨⟨p0, p1, p2⟩, ⟨p3, p4, p5⟩, ⟨p6, p7, p8⟩, p9, px, py⟩ := HC.out.cells
  obtain ⟨s0, s1, s2⟩ := HC.out.sets
  by_cases g1 : K1 = 4
  · subst g1
    have VD : Hid (pick3 4 N1 T1 K2 N2 T2 DD = (4, N1, T1)) := by show _ = _; simp [pick3]
    go_wp2_with fail
    refine bodyPost_ret (v := .agg #[.int .i64 4, .int .i64 N1, .string T1]) (by simp [results, Tryz.results23, go_sem, *]) rfl ?_
    exact ⟨by rw [← HD.out]; simp [VD.out], HC.out.out _ _ _⟩
  have q1 : (K1 == 4) = false := by simpa using g1
  by_cases g2 : K2 = 4
  · subst g2
    have VD : Hid (pick3 K1 N1 T1 4 N2 T2 DD = (4, N2, T2)) := by show _ = _; simp [pick3, g1]
    clear g1
    go_wp2_with fail
    refine bodyPost_ret (v := .agg #[.int .i64 4, .int .i64 N2, .string T2]) (by simp [results, Tryz.results23, go_sem, *]) rfl ?_
    exact ⟨by rw [← HD.out]; simp [VD.out], HC.out.out _ _ _⟩
  have q2 : (K2 == 4) = false := by simpa using g2
  have VD : Hid (pick3 K1 N1 T1 K2 N2 T2 DD = DD) := by show _ = _; simp [pick3, g1, g2]
  clear g1 g2
  have cm := hidv calculations_any
  have cq := hidv operators_any
  go_wp2_with fail
  refine (cm.out _).mono ?_
  rintro e wm ⟨rfl, hwm⟩
  have hm : wm.heap[wc.heap.size]? = some (.map calcMap 5) := by rw [hwm]; show (wc.heap.push _)[_]? = _; rw [Array.getElem?_push_size]
  have HM := hidv (HC.out.step (w1 := wm) (by rw [hwm]; exact (Below.refl _ _).alloc (Nat.le_refl _) _))
  have hl := run_lookup_none (P := Tryz.prog) Tryz.underlying69 Tryz.underlying9 wm wc.heap.size calcMap 5 hm op _ (by rfl) HF.out.1
  clear hm hwm p0 p1 p2 p3 p4 p5 p6 p7 p8 p9 px py s0 s1 s2
  obtain ⟨⟨m0, m1, m2⟩, ⟨m3, m4, m5⟩, ⟨m6, m7, m8⟩, m9, mx, my⟩ := HM.out.cells
  go_wp2_with fail
  refine (cq.out _).mono ?_
  rintro e wo ⟨rfl, hwo⟩
  have ho : wo.heap[wm.heap.size]? = some (.map operMap 7) := by rw [hwo]; show (wm.heap.push _)[_]? = _; rw [Array.getElem?_push_size]
  have HO := hidv (HM.out.step (w1 := wo) (by rw [hwo]; exact (Below.refl _ _).alloc (Nat.le_refl _) _))
  have hl2 := run_lookup_none (P := Tryz.prog) Tryz.underlying75 Tryz.underlying9 wo wm.heap.size operMap 7 ho op _ (by rfl) HF.out.2
  clear ho hwo hl m0 m1 m2 m3 m4 m5 m6 m7 m8 m9 mx my
  obtain ⟨⟨q0, q1, q2⟩, ⟨q3, q4, q5⟩, ⟨q6, q7, q8⟩, q9, qx, qy⟩ := HO.out.cells
  go_wp2_with fail
  refine (cf.out _).mono ?_
  rintro e w5 ⟨rfl, hb5⟩
  have H5 := hidv (HO.out.step hb5)
  clear hb5 hl2 q0 q1 q2 q3 q4 q5 q6 q7 q8 q9 qx qy
  obtain ⟨⟨n0, n1, n2⟩, ⟨n3, n4, n5⟩, ⟨n6, n7, n8⟩, n9, nx, ny⟩ := H5.out.cells
  obtain ⟨s0, s1, s2⟩ := H5.out.sets
  go_wp2_with fail
  refine bodyPost_ret (v := .agg #[.int .i64 4, .int .i64 3, .string ⟨#[]⟩]) (by simp [results, Tryz.results23, go_sem, *]) rfl ?_
  exact ⟨by rw [← HD.out, VD.out, HDD.out], H5.out.out _ _ _⟩

end Go.Proofs.YtjbkjeabobccaabGreatDoor
