import Derived.Test.YtjbkjeabobccaabGreatDoorValShow
import Derived.Test.YtjbkjeabobccaabGreatDoorValWork
namespace Go.Proofs.YtjbkjeabobccaabGreatDoor
open Go.RowKit Go.Sort Go.Lib
set_option linter.unusedVariables false

set_option maxHeartbeats 2000000 in
set_option maxRecDepth 100000 in
theorem read_num (s : ByteArray) (v : Int) (hp : parseR s.data.toList = (v, true)) (hs0 : s.size ≠ 0) (hs : s.size < 4294967281) (hv : v ≠ -9223372036854775808) (w : World) (hE : Env w) :
    Calls Tryz.prog 8 #[.string s] w fun e w' => e = .returned (.agg #[.int .i64 1, .int .i64 v, .string ⟨#[]⟩]) ∧ Below w.heap.size w w' := by
  have cp0 := fun w hE => parse_any s w hE hs
  simp only [hp] at cp0
  have cp := hidv cp0
  have cn0 := fun w => numberValue_any v w
  simp only [if_neg hv] at cn0
  have cn := hidv cn0
  have HE := hidv hE
  have hq : s.toList.isEmpty = false := by
    rw [Lib.toList_data, List.isEmpty_eq_false_iff]
    intro h
    apply hs0
    rw [Lib.size_eq, h]
    rfl
  have HB := hidv (oneB_new w 23 (.int .i64 0) (.int .i64 0) (.string ⟨#[]⟩))
  clear hp hs0 hs hv hE cp0 cn0
  go_enter Tryz.func8, Tryz.ntmps8
  go_wp2_with fail
  refine (cp.out _ (HE.out.step HB.out.low)).mono ?_
  rintro e w1 ⟨rfl, hb1⟩
  have HB1 := hidv (HB.out.step hb1)
  clear hb1 HB
  go_wp2_with fail
  refine (cn.out _).mono ?_
  rintro e w2 ⟨rfl, hb2⟩
  have HB2 := hidv (HB1.out.step hb2)
  have HL := hidv (fun x y z => (HB2.out.seta x y z).low)
  obtain ⟨p0, p1, p2, f0, f1, f2⟩ := three HB2.out.a
  obtain ⟨s0, s1, s2⟩ := three_set p0 p1 p2
  clear hb2 HB1
  go_wp2_with fail
  refine bodyPost_ret (v := .agg #[.int .i64 1, .int .i64 v, .string ⟨#[]⟩]) (by simp [results, Tryz.results8, go_sem, *]) rfl ?_
  exact ⟨rfl, HL.out _ _ _⟩

theorem one_num (n : Int) (h1 : -9223372036854775808 < n) (h2 : n ≤ 9223372036854775807) : Ci 1 n ⟨#[]⟩ 1 n ⟨#[]⟩ := ⟨⟨by simp [cnt]; omega⟩, by omega, h2⟩
theorem work_15 (w : World) (hE : Env w) : Calls Tryz.prog 23 #[.string ⟨#[43]⟩, .agg #[.int .i64 1, .int .i64 1500000, .string ⟨#[]⟩], .agg #[.int .i64 1, .int .i64 1500000, .string ⟨#[]⟩]] w fun e w' => e = .returned (.agg #[.int .i64 1, .int .i64 3000000, .string ⟨#[]⟩]) ∧ Below w.heap.size w w' :=
  work_Add 1 1500000 ⟨#[]⟩ 1 1500000 ⟨#[]⟩ 1 1500000 ⟨#[]⟩ 1 1500000 ⟨#[]⟩ (one_num _ (by omega) (by omega)).cn (one_num _ (by omega) (by omega)).cn 1500000 0 1500000 0 3000000 0 rfl rfl
    (fun _ _ w => (add_yes w).mono (by rintro e w' ⟨rfl, rfl⟩; exact ⟨rfl, Below.refl _ _⟩)) w hE (1, 3000000, ⟨#[]⟩) (by simp [pick3, calcD])
theorem show_3 (w : World) (hE : Env w) : Calls Tryz.prog 11 #[.agg #[.int .i64 1, .int .i64 3000000, .string ⟨#[]⟩]] w fun e w' => e = .returned (.string ⟨#[51]⟩) ∧ Below w.heap.size w w' := by
  have := show_cn 1 3000000 ⟨#[]⟩ 1 3000000 ⟨#[]⟩ (one_num _ (by omega) (by omega)) w hE (by intro h; cases h)
  rw [show shwI 1 3000000 ⟨#[]⟩ = ⟨#[51]⟩ by simp [shwI, txtI, print_3]] at this
  exact this
theorem order_15 (w : World) : Calls Tryz.prog 21 #[.agg #[.int .i64 1, .int .i64 1500000, .string ⟨#[]⟩], .agg #[.int .i64 1, .int .i64 3000000, .string ⟨#[]⟩]] w fun e w' => e = .returned (.int .i64 (-1)) ∧ Below w.heap.size w w' := by
  have := order_cn 1 1500000 ⟨#[]⟩ 1 3000000 ⟨#[]⟩ 1 1500000 ⟨#[]⟩ 1 3000000 ⟨#[]⟩ (one_num _ (by omega) (by omega)).cn (one_num _ (by omega) (by omega)).cn w
  rw [show ordI 1 1500000 ⟨#[]⟩ 1 3000000 ⟨#[]⟩ = -1 by simp [ordI, Lib.compareInt]] at this
  exact this

set_option maxHeartbeats 2000000 in
set_option maxRecDepth 100000 in
theorem alive2_any (w : World) (hE : Env w) :
    Calls Tryz.prog 13 #[] w fun e w' => e = .returned (.bool true) ∧ Below w.heap.size w w' := by
  have cr := hidv (fun w hE => read_num ⟨#[49, 46, 53]⟩ 1500000 parse_15 (by decide) (by decide) (by omega) w hE)
  have cw := hidv work_15
  have cs := hidv show_3
  have co := hidv order_15
  have HE := hidv hE
  clear hE
  go_enter Tryz.func13, Tryz.ntmps13
  go_wp2_with fail
  refine (cr.out _ HE.out).mono ?_
  rintro e w1 ⟨rfl, hb1⟩
  have L1 := hidv hb1
  have V1 := hidv (oneB_new w1 23 (.int .i64 1) (.int .i64 1500000) (.string ⟨#[]⟩))
  clear hb1
  go_wp2_with fail
  refine (cw.out _ (HE.out.step (key2v L1.out V1.out.low))).mono ?_
  rintro e w2 ⟨rfl, hb2⟩
  have V2 := hidv (V1.out.step hb2)
  have L2 := hidv (key2v L1.out V2.out.low)
  have V3 := hidv (V2.out.step ((Below.refl _ w2).alloc (Nat.le_refl _) (.cells #[.int .i64 1, .int .i64 3000000, .string ⟨#[]⟩] 23)))
  have L3 := hidv (key2v L1.out V3.out.low)
  have W3 := hidv (oneB_new w2 23 (.int .i64 1) (.int .i64 3000000) (.string ⟨#[]⟩))
  obtain ⟨p0, p1, p2, f0, f1, f2⟩ := three V3.out.a
  obtain ⟨r0, r1, r2, g0, g1, g2⟩ := three W3.out.a
  clear hb2 V1
  go_wp2_with fail
  refine (cs.out _ (HE.out.step L3.out)).mono ?_
  rintro e w4 ⟨rfl, hb4⟩
  have V4 := hidv (V3.out.step hb4)
  have W4 := hidv (W3.out.step hb4)
  have L4 := hidv (key2v L1.out V4.out.low)
  clear p0 p1 p2 f0 f1 f2 r0 r1 r2 g0 g1 g2
  obtain ⟨p0, p1, p2, f0, f1, f2⟩ := three V4.out.a
  obtain ⟨r0, r1, r2, g0, g1, g2⟩ := three W4.out.a
  clear hb4
  go_wp2_with fail
  refine (co.out _).mono ?_
  rintro e w5 ⟨rfl, hb5⟩
  have L5 := hidv (key2v L4.out hb5)
  go_wp2_with fail
  go_ret
  exact ⟨rfl, L5.out⟩
end Go.Proofs.YtjbkjeabobccaabGreatDoor
