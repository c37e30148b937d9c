import Derived.Test.YtjbkjeabobccaacGreatDoorValWork0
import Derived.Test.YtjbkjeabobccaacGreatDoorValShow
namespace Go.Proofs.YtjbkjeabobccaacGreatDoor
open Go.RowKit Go.Sort Go.Lib
set_option linter.unusedVariables false

def operMap : Array MapEntry := #[⟨.string ⟨#[38]⟩, .func (.func 39) #[] #[], 0⟩, ⟨.string ⟨#[61]⟩, .func (.func 40) #[] #[], 1⟩, ⟨.string ⟨#[60, 62]⟩, .func (.func 41) #[] #[], 2⟩, ⟨.string ⟨#[60]⟩, .func (.func 42) #[] #[], 3⟩, ⟨.string ⟨#[60, 61]⟩, .func (.func 43) #[] #[], 4⟩, ⟨.string ⟨#[62]⟩, .func (.func 44) #[] #[], 5⟩, ⟨.string ⟨#[62, 61]⟩, .func (.func 45) #[] #[], 6⟩]
set_option maxHeartbeats 800000 in
theorem operators_any (w : World) : Calls Tryz.prog 20 #[] w fun e w' => e = .returned (.map (some w.heap.size)) ∧ w' = w.alloc (.map operMap 7) := by
  have hmm := @run_makeMap Tryz.prog
  go_enter Tryz.func20, Tryz.ntmps20
  go_wp2_with (refine wpList_insert_now _ rfl _ _ _ _ rfl _ _ Tryz.underlying51 Tryz.underlying9 _ _ rfl _ _ rfl rfl (by rfl) ?_)
  go_ret
  exact ⟨rfl, rfl⟩
theorem cmpB_range : ∀ (l m : List UInt8), Lib.compareBytes l m = -1 ∨ Lib.compareBytes l m = 0 ∨ Lib.compareBytes l m = 1
  | [], [] => by simp [Lib.compareBytes]
  | [], _ :: _ => by simp [Lib.compareBytes]
  | _ :: _, [] => by simp [Lib.compareBytes]
  | a :: l, b :: m => by
    rw [Lib.compareBytes]
    split
    · simp
    · split
      · simp
      · exact cmpB_range l m
theorem cmpI_range (x y : Int) : Lib.compareInt x y = -1 ∨ Lib.compareInt x y = 0 ∨ Lib.compareInt x y = 1 := by
  unfold Lib.compareInt
  split
  · simp
  · split <;> simp
theorem ord_range (k1 n1 : Int) (t1 : ByteArray) (k2 n2 : Int) (t2 : ByteArray) : ordI k1 n1 t1 k2 n2 t2 = -1 ∨ ordI k1 n1 t1 k2 n2 t2 = 0 ∨ ordI k1 n1 t1 k2 n2 t2 = 1 := by
  unfold ordI ordT
  repeat' split
  all_goals first | exact cmpB_range _ _ | exact cmpI_range _ _ | simp
/-- What a comparison makes of an order. -/
def tst (i : Nat) (R : Int) : Int := if (match i with | 1 => decide (R = 0) | 2 => decide (R ≠ 0) | 3 => decide (R < 0) | 4 => decide (R ≤ 0) | 5 => decide (0 < R) | _ => decide (0 ≤ R)) then 1 else 0

set_option maxHeartbeats 2000000 in
set_option maxRecDepth 100000 in
theorem oper_1 (K1 N1 : Int) (T1 : ByteArray) (K2 N2 : Int) (T2 : ByteArray) (c1 : Cn K1 N1 T1 K1 N1 T1) (c2 : Cn K2 N2 T2 K2 N2 T2) (w : World) :
    Calls Tryz.prog 40 #[.agg #[.int .i64 K1, .int .i64 N1, .string T1], .agg #[.int .i64 K2, .int .i64 N2, .string T2]] w fun e w' => e = .returned (.agg #[.int .i64 3, .int .i64 (tst 1 (ordI K1 N1 T1 K2 N2 T2)), .string ⟨#[]⟩]) ∧ Below w.heap.size w w' := by
  have co0 := order_cn K1 N1 T1 K2 N2 T2 K1 N1 T1 K2 N2 T2 c1 c2
  have hr := ord_range K1 N1 T1 K2 N2 T2
  generalize ordI K1 N1 T1 K2 N2 T2 = R at co0 hr ⊢
  have co := hidv co0
  have ct := hidv truthValue_any
  have HB := hidv (triB_new w 24 (.int .i64 K1) (.int .i64 N1) (.string T1) (.int .i64 K2) (.int .i64 N2) (.string T2) (.int .i64 0) (.int .i64 0) (.string ⟨#[]⟩) (((w.alloc (.cells #[.int .i64 K1, .int .i64 N1, .string T1] 24)).alloc (.cells #[.int .i64 K2, .int .i64 N2, .string T2] 24)).alloc (.cells #[.int .i64 0, .int .i64 0, .string ⟨#[]⟩] 24)) rfl (by go_grown))
  clear co0 c1 c2
  rcases hr with h | h | h
  · subst h
    rw [show tst 1 (-1) = 0 by rfl]
    go_enter Tryz.func40, Tryz.ntmps40
    go_wp2_with fail
    refine (co.out _).mono ?_
    rintro e w1 ⟨rfl, hb1⟩
    have HB1 := hidv (HB.out.step hb1)
    obtain ⟨⟨x0, x1, x2⟩, ⟨x3, x4, x5⟩, ⟨x6, x7, x8⟩, x9, xx, xy⟩ := HB1.out.cells
    obtain ⟨s0, s1, s2⟩ := HB1.out.sets
    clear hb1
    go_wp2_with fail
    refine (ct.out _ _).mono ?_
    rintro e w2 ⟨rfl, hb2⟩
    have HB2 := hidv (HB1.out.step hb2)
    obtain ⟨⟨x0, x1, x2⟩, ⟨x3, x4, x5⟩, ⟨x6, x7, x8⟩, x9, xx, xy⟩ := HB2.out.cells
    obtain ⟨s0, s1, s2⟩ := HB2.out.sets
    clear hb2
    go_wp2_with fail
    refine bodyPost_ret (v := .agg #[.int .i64 3, .int .i64 0, .string ⟨#[]⟩]) (by simp [results, Tryz.results40, go_sem, *]) rfl ?_
    exact ⟨rfl, HB2.out.out _ _ _⟩
  · subst h
    rw [show tst 1 (0) = 1 by rfl]
    go_enter Tryz.func40, Tryz.ntmps40
    go_wp2_with fail
    refine (co.out _).mono ?_
    rintro e w1 ⟨rfl, hb1⟩
    have HB1 := hidv (HB.out.step hb1)
    obtain ⟨⟨x0, x1, x2⟩, ⟨x3, x4, x5⟩, ⟨x6, x7, x8⟩, x9, xx, xy⟩ := HB1.out.cells
    obtain ⟨s0, s1, s2⟩ := HB1.out.sets
    clear hb1
    go_wp2_with fail
    refine (ct.out _ _).mono ?_
    rintro e w2 ⟨rfl, hb2⟩
    have HB2 := hidv (HB1.out.step hb2)
    obtain ⟨⟨x0, x1, x2⟩, ⟨x3, x4, x5⟩, ⟨x6, x7, x8⟩, x9, xx, xy⟩ := HB2.out.cells
    obtain ⟨s0, s1, s2⟩ := HB2.out.sets
    clear hb2
    go_wp2_with fail
    refine bodyPost_ret (v := .agg #[.int .i64 3, .int .i64 1, .string ⟨#[]⟩]) (by simp [results, Tryz.results40, go_sem, *]) rfl ?_
    exact ⟨rfl, HB2.out.out _ _ _⟩
  · subst h
    rw [show tst 1 (1) = 0 by rfl]
    go_enter Tryz.func40, Tryz.ntmps40
    go_wp2_with fail
    refine (co.out _).mono ?_
    rintro e w1 ⟨rfl, hb1⟩
    have HB1 := hidv (HB.out.step hb1)
    obtain ⟨⟨x0, x1, x2⟩, ⟨x3, x4, x5⟩, ⟨x6, x7, x8⟩, x9, xx, xy⟩ := HB1.out.cells
    obtain ⟨s0, s1, s2⟩ := HB1.out.sets
    clear hb1
    go_wp2_with fail
    refine (ct.out _ _).mono ?_
    rintro e w2 ⟨rfl, hb2⟩
    have HB2 := hidv (HB1.out.step hb2)
    obtain ⟨⟨x0, x1, x2⟩, ⟨x3, x4, x5⟩, ⟨x6, x7, x8⟩, x9, xx, xy⟩ := HB2.out.cells
    obtain ⟨s0, s1, s2⟩ := HB2.out.sets
    clear hb2
    go_wp2_with fail
    refine bodyPost_ret (v := .agg #[.int .i64 3, .int .i64 0, .string ⟨#[]⟩]) (by simp [results, Tryz.results40, go_sem, *]) rfl ?_
    exact ⟨rfl, HB2.out.out _ _ _⟩

set_option maxHeartbeats 2000000 in
set_option maxRecDepth 100000 in
theorem oper_2 (K1 N1 : Int) (T1 : ByteArray) (K2 N2 : Int) (T2 : ByteArray) (c1 : Cn K1 N1 T1 K1 N1 T1) (c2 : Cn K2 N2 T2 K2 N2 T2) (w : World) :
    Calls Tryz.prog 41 #[.agg #[.int .i64 K1, .int .i64 N1, .string T1], .agg #[.int .i64 K2, .int .i64 N2, .string T2]] w fun e w' => e = .returned (.agg #[.int .i64 3, .int .i64 (tst 2 (ordI K1 N1 T1 K2 N2 T2)), .string ⟨#[]⟩]) ∧ Below w.heap.size w w' := by
  have co0 := order_cn K1 N1 T1 K2 N2 T2 K1 N1 T1 K2 N2 T2 c1 c2
  have hr := ord_range K1 N1 T1 K2 N2 T2
  generalize ordI K1 N1 T1 K2 N2 T2 = R at co0 hr ⊢
  have co := hidv co0
  have ct := hidv truthValue_any
  have HB := hidv (triB_new w 24 (.int .i64 K1) (.int .i64 N1) (.string T1) (.int .i64 K2) (.int .i64 N2) (.string T2) (.int .i64 0) (.int .i64 0) (.string ⟨#[]⟩) (((w.alloc (.cells #[.int .i64 K1, .int .i64 N1, .string T1] 24)).alloc (.cells #[.int .i64 K2, .int .i64 N2, .string T2] 24)).alloc (.cells #[.int .i64 0, .int .i64 0, .string ⟨#[]⟩] 24)) rfl (by go_grown))
  clear co0 c1 c2
  rcases hr with h | h | h
  · subst h
    rw [show tst 2 (-1) = 1 by rfl]
    go_enter Tryz.func41, Tryz.ntmps41
    go_wp2_with fail
    refine (co.out _).mono ?_
    rintro e w1 ⟨rfl, hb1⟩
    have HB1 := hidv (HB.out.step hb1)
    obtain ⟨⟨x0, x1, x2⟩, ⟨x3, x4, x5⟩, ⟨x6, x7, x8⟩, x9, xx, xy⟩ := HB1.out.cells
    obtain ⟨s0, s1, s2⟩ := HB1.out.sets
    clear hb1
    go_wp2_with fail
    refine (ct.out _ _).mono ?_
    rintro e w2 ⟨rfl, hb2⟩
    have HB2 := hidv (HB1.out.step hb2)
    obtain ⟨⟨x0, x1, x2⟩, ⟨x3, x4, x5⟩, ⟨x6, x7, x8⟩, x9, xx, xy⟩ := HB2.out.cells
    obtain ⟨s0, s1, s2⟩ := HB2.out.sets
    clear hb2
    go_wp2_with fail
    refine bodyPost_ret (v := .agg #[.int .i64 3, .int .i64 1, .string ⟨#[]⟩]) (by simp [results, Tryz.results41, go_sem, *]) rfl ?_
    exact ⟨rfl, HB2.out.out _ _ _⟩
  · subst h
    rw [show tst 2 (0) = 0 by rfl]
    go_enter Tryz.func41, Tryz.ntmps41
    go_wp2_with fail
    refine (co.out _).mono ?_
    rintro e w1 ⟨rfl, hb1⟩
    have HB1 := hidv (HB.out.step hb1)
    obtain ⟨⟨x0, x1, x2⟩, ⟨x3, x4, x5⟩, ⟨x6, x7, x8⟩, x9, xx, xy⟩ := HB1.out.cells
    obtain ⟨s0, s1, s2⟩ := HB1.out.sets
    clear hb1
    go_wp2_with fail
    refine (ct.out _ _).mono ?_
    rintro e w2 ⟨rfl, hb2⟩
    have HB2 := hidv (HB1.out.step hb2)
    obtain ⟨⟨x0, x1, x2⟩, ⟨x3, x4, x5⟩, ⟨x6, x7, x8⟩, x9, xx, xy⟩ := HB2.out.cells
    obtain ⟨s0, s1, s2⟩ := HB2.out.sets
    clear hb2
    go_wp2_with fail
    refine bodyPost_ret (v := .agg #[.int .i64 3, .int .i64 0, .string ⟨#[]⟩]) (by simp [results, Tryz.results41, go_sem, *]) rfl ?_
    exact ⟨rfl, HB2.out.out _ _ _⟩
  · subst h
    rw [show tst 2 (1) = 1 by rfl]
    go_enter Tryz.func41, Tryz.ntmps41
    go_wp2_with fail
    refine (co.out _).mono ?_
    rintro e w1 ⟨rfl, hb1⟩
    have HB1 := hidv (HB.out.step hb1)
    obtain ⟨⟨x0, x1, x2⟩, ⟨x3, x4, x5⟩, ⟨x6, x7, x8⟩, x9, xx, xy⟩ := HB1.out.cells
    obtain ⟨s0, s1, s2⟩ := HB1.out.sets
    clear hb1
    go_wp2_with fail
    refine (ct.out _ _).mono ?_
    rintro e w2 ⟨rfl, hb2⟩
    have HB2 := hidv (HB1.out.step hb2)
    obtain ⟨⟨x0, x1, x2⟩, ⟨x3, x4, x5⟩, ⟨x6, x7, x8⟩, x9, xx, xy⟩ := HB2.out.cells
    obtain ⟨s0, s1, s2⟩ := HB2.out.sets
    clear hb2
    go_wp2_with fail
    refine bodyPost_ret (v := .agg #[.int .i64 3, .int .i64 1, .string ⟨#[]⟩]) (by simp [results, Tryz.results41, go_sem, *]) rfl ?_
    exact ⟨rfl, HB2.out.out _ _ _⟩

set_option maxHeartbeats 2000000 in
set_option maxRecDepth 100000 in
theorem oper_3 (K1 N1 : Int) (T1 : ByteArray) (K2 N2 : Int) (T2 : ByteArray) (c1 : Cn K1 N1 T1 K1 N1 T1) (c2 : Cn K2 N2 T2 K2 N2 T2) (w : World) :
    Calls Tryz.prog 42 #[.agg #[.int .i64 K1, .int .i64 N1, .string T1], .agg #[.int .i64 K2, .int .i64 N2, .string T2]] w fun e w' => e = .returned (.agg #[.int .i64 3, .int .i64 (tst 3 (ordI K1 N1 T1 K2 N2 T2)), .string ⟨#[]⟩]) ∧ Below w.heap.size w w' := by
  have co0 := order_cn K1 N1 T1 K2 N2 T2 K1 N1 T1 K2 N2 T2 c1 c2
  have hr := ord_range K1 N1 T1 K2 N2 T2
  generalize ordI K1 N1 T1 K2 N2 T2 = R at co0 hr ⊢
  have co := hidv co0
  have ct := hidv truthValue_any
  have HB := hidv (triB_new w 24 (.int .i64 K1) (.int .i64 N1) (.string T1) (.int .i64 K2) (.int .i64 N2) (.string T2) (.int .i64 0) (.int .i64 0) (.string ⟨#[]⟩) (((w.alloc (.cells #[.int .i64 K1, .int .i64 N1, .string T1] 24)).alloc (.cells #[.int .i64 K2, .int .i64 N2, .string T2] 24)).alloc (.cells #[.int .i64 0, .int .i64 0, .string ⟨#[]⟩] 24)) rfl (by go_grown))
  clear co0 c1 c2
  rcases hr with h | h | h
  · subst h
    rw [show tst 3 (-1) = 1 by rfl]
    go_enter Tryz.func42, Tryz.ntmps42
    go_wp2_with fail
    refine (co.out _).mono ?_
    rintro e w1 ⟨rfl, hb1⟩
    have HB1 := hidv (HB.out.step hb1)
    obtain ⟨⟨x0, x1, x2⟩, ⟨x3, x4, x5⟩, ⟨x6, x7, x8⟩, x9, xx, xy⟩ := HB1.out.cells
    obtain ⟨s0, s1, s2⟩ := HB1.out.sets
    clear hb1
    go_wp2_with fail
    refine (ct.out _ _).mono ?_
    rintro e w2 ⟨rfl, hb2⟩
    have HB2 := hidv (HB1.out.step hb2)
    obtain ⟨⟨x0, x1, x2⟩, ⟨x3, x4, x5⟩, ⟨x6, x7, x8⟩, x9, xx, xy⟩ := HB2.out.cells
    obtain ⟨s0, s1, s2⟩ := HB2.out.sets
    clear hb2
    go_wp2_with fail
    refine bodyPost_ret (v := .agg #[.int .i64 3, .int .i64 1, .string ⟨#[]⟩]) (by simp [results, Tryz.results42, go_sem, *]) rfl ?_
    exact ⟨rfl, HB2.out.out _ _ _⟩
  · subst h
    rw [show tst 3 (0) = 0 by rfl]
    go_enter Tryz.func42, Tryz.ntmps42
    go_wp2_with fail
    refine (co.out _).mono ?_
    rintro e w1 ⟨rfl, hb1⟩
    have HB1 := hidv (HB.out.step hb1)
    obtain ⟨⟨x0, x1, x2⟩, ⟨x3, x4, x5⟩, ⟨x6, x7, x8⟩, x9, xx, xy⟩ := HB1.out.cells
    obtain ⟨s0, s1, s2⟩ := HB1.out.sets
    clear hb1
    go_wp2_with fail
    refine (ct.out _ _).mono ?_
    rintro e w2 ⟨rfl, hb2⟩
    have HB2 := hidv (HB1.out.step hb2)
    obtain ⟨⟨x0, x1, x2⟩, ⟨x3, x4, x5⟩, ⟨x6, x7, x8⟩, x9, xx, xy⟩ := HB2.out.cells
    obtain ⟨s0, s1, s2⟩ := HB2.out.sets
    clear hb2
    go_wp2_with fail
    refine bodyPost_ret (v := .agg #[.int .i64 3, .int .i64 0, .string ⟨#[]⟩]) (by simp [results, Tryz.results42, go_sem, *]) rfl ?_
    exact ⟨rfl, HB2.out.out _ _ _⟩
  · subst h
    rw [show tst 3 (1) = 0 by rfl]
    go_enter Tryz.func42, Tryz.ntmps42
    go_wp2_with fail
    refine (co.out _).mono ?_
    rintro e w1 ⟨rfl, hb1⟩
    have HB1 := hidv (HB.out.step hb1)
    obtain ⟨⟨x0, x1, x2⟩, ⟨x3, x4, x5⟩, ⟨x6, x7, x8⟩, x9, xx, xy⟩ := HB1.out.cells
    obtain ⟨s0, s1, s2⟩ := HB1.out.sets
    clear hb1
    go_wp2_with fail
    refine (ct.out _ _).mono ?_
    rintro e w2 ⟨rfl, hb2⟩
    have HB2 := hidv (HB1.out.step hb2)
    obtain ⟨⟨x0, x1, x2⟩, ⟨x3, x4, x5⟩, ⟨x6, x7, x8⟩, x9, xx, xy⟩ := HB2.out.cells
    obtain ⟨s0, s1, s2⟩ := HB2.out.sets
    clear hb2
    go_wp2_with fail
    refine bodyPost_ret (v := .agg #[.int .i64 3, .int .i64 0, .string ⟨#[]⟩]) (by simp [results, Tryz.results42, go_sem, *]) rfl ?_
    exact ⟨rfl, HB2.out.out _ _ _⟩

set_option maxHeartbeats 2000000 in
set_option maxRecDepth 100000 in
theorem oper_4 (K1 N1 : Int) (T1 : ByteArray) (K2 N2 : Int) (T2 : ByteArray) (c1 : Cn K1 N1 T1 K1 N1 T1) (c2 : Cn K2 N2 T2 K2 N2 T2) (w : World) :
    Calls Tryz.prog 43 #[.agg #[.int .i64 K1, .int .i64 N1, .string T1], .agg #[.int .i64 K2, .int .i64 N2, .string T2]] w fun e w' => e = .returned (.agg #[.int .i64 3, .int .i64 (tst 4 (ordI K1 N1 T1 K2 N2 T2)), .string ⟨#[]⟩]) ∧ Below w.heap.size w w' := by
  have co0 := order_cn K1 N1 T1 K2 N2 T2 K1 N1 T1 K2 N2 T2 c1 c2
  have hr := ord_range K1 N1 T1 K2 N2 T2
  generalize ordI K1 N1 T1 K2 N2 T2 = R at co0 hr ⊢
  have co := hidv co0
  have ct := hidv truthValue_any
  have HB := hidv (triB_new w 24 (.int .i64 K1) (.int .i64 N1) (.string T1) (.int .i64 K2) (.int .i64 N2) (.string T2) (.int .i64 0) (.int .i64 0) (.string ⟨#[]⟩) (((w.alloc (.cells #[.int .i64 K1, .int .i64 N1, .string T1] 24)).alloc (.cells #[.int .i64 K2, .int .i64 N2, .string T2] 24)).alloc (.cells #[.int .i64 0, .int .i64 0, .string ⟨#[]⟩] 24)) rfl (by go_grown))
  clear co0 c1 c2
  rcases hr with h | h | h
  · subst h
    rw [show tst 4 (-1) = 1 by rfl]
    go_enter Tryz.func43, Tryz.ntmps43
    go_wp2_with fail
    refine (co.out _).mono ?_
    rintro e w1 ⟨rfl, hb1⟩
    have HB1 := hidv (HB.out.step hb1)
    obtain ⟨⟨x0, x1, x2⟩, ⟨x3, x4, x5⟩, ⟨x6, x7, x8⟩, x9, xx, xy⟩ := HB1.out.cells
    obtain ⟨s0, s1, s2⟩ := HB1.out.sets
    clear hb1
    go_wp2_with fail
    refine (ct.out _ _).mono ?_
    rintro e w2 ⟨rfl, hb2⟩
    have HB2 := hidv (HB1.out.step hb2)
    obtain ⟨⟨x0, x1, x2⟩, ⟨x3, x4, x5⟩, ⟨x6, x7, x8⟩, x9, xx, xy⟩ := HB2.out.cells
    obtain ⟨s0, s1, s2⟩ := HB2.out.sets
    clear hb2
    go_wp2_with fail
    refine bodyPost_ret (v := .agg #[.int .i64 3, .int .i64 1, .string ⟨#[]⟩]) (by simp [results, Tryz.results43, go_sem, *]) rfl ?_
    exact ⟨rfl, HB2.out.out _ _ _⟩
  · subst h
    rw [show tst 4 (0) = 1 by rfl]
    go_enter Tryz.func43, Tryz.ntmps43
    go_wp2_with fail
    refine (co.out _).mono ?_
    rintro e w1 ⟨rfl, hb1⟩
    have HB1 := hidv (HB.out.step hb1)
    obtain ⟨⟨x0, x1, x2⟩, ⟨x3, x4, x5⟩, ⟨x6, x7, x8⟩, x9, xx, xy⟩ := HB1.out.cells
    obtain ⟨s0, s1, s2⟩ := HB1.out.sets
    clear hb1
    go_wp2_with fail
    refine (ct.out _ _).mono ?_
    rintro e w2 ⟨rfl, hb2⟩
    have HB2 := hidv (HB1.out.step hb2)
    obtain ⟨⟨x0, x1, x2⟩, ⟨x3, x4, x5⟩, ⟨x6, x7, x8⟩, x9, xx, xy⟩ := HB2.out.cells
    obtain ⟨s0, s1, s2⟩ := HB2.out.sets
    clear hb2
    go_wp2_with fail
    refine bodyPost_ret (v := .agg #[.int .i64 3, .int .i64 1, .string ⟨#[]⟩]) (by simp [results, Tryz.results43, go_sem, *]) rfl ?_
    exact ⟨rfl, HB2.out.out _ _ _⟩
  · subst h
    rw [show tst 4 (1) = 0 by rfl]
    go_enter Tryz.func43, Tryz.ntmps43
    go_wp2_with fail
    refine (co.out _).mono ?_
    rintro e w1 ⟨rfl, hb1⟩
    have HB1 := hidv (HB.out.step hb1)
    obtain ⟨⟨x0, x1, x2⟩, ⟨x3, x4, x5⟩, ⟨x6, x7, x8⟩, x9, xx, xy⟩ := HB1.out.cells
    obtain ⟨s0, s1, s2⟩ := HB1.out.sets
    clear hb1
    go_wp2_with fail
    refine (ct.out _ _).mono ?_
    rintro e w2 ⟨rfl, hb2⟩
    have HB2 := hidv (HB1.out.step hb2)
    obtain ⟨⟨x0, x1, x2⟩, ⟨x3, x4, x5⟩, ⟨x6, x7, x8⟩, x9, xx, xy⟩ := HB2.out.cells
    obtain ⟨s0, s1, s2⟩ := HB2.out.sets
    clear hb2
    go_wp2_with fail
    refine bodyPost_ret (v := .agg #[.int .i64 3, .int .i64 0, .string ⟨#[]⟩]) (by simp [results, Tryz.results43, go_sem, *]) rfl ?_
    exact ⟨rfl, HB2.out.out _ _ _⟩

set_option maxHeartbeats 2000000 in
set_option maxRecDepth 100000 in
theorem oper_5 (K1 N1 : Int) (T1 : ByteArray) (K2 N2 : Int) (T2 : ByteArray) (c1 : Cn K1 N1 T1 K1 N1 T1) (c2 : Cn K2 N2 T2 K2 N2 T2) (w : World) :
    Calls Tryz.prog 44 #[.agg #[.int .i64 K1, .int .i64 N1, .string T1], .agg #[.int .i64 K2, .int .i64 N2, .string T2]] w fun e w' => e = .returned (.agg #[.int .i64 3, .int .i64 (tst 5 (ordI K1 N1 T1 K2 N2 T2)), .string ⟨#[]⟩]) ∧ Below w.heap.size w w' := by
  have co0 := order_cn K1 N1 T1 K2 N2 T2 K1 N1 T1 K2 N2 T2 c1 c2
  have hr := ord_range K1 N1 T1 K2 N2 T2
  generalize ordI K1 N1 T1 K2 N2 T2 = R at co0 hr ⊢
  have co := hidv co0
  have ct := hidv truthValue_any
  have HB := hidv (triB_new w 24 (.int .i64 K1) (.int .i64 N1) (.string T1) (.int .i64 K2) (.int .i64 N2) (.string T2) (.int .i64 0) (.int .i64 0) (.string ⟨#[]⟩) (((w.alloc (.cells #[.int .i64 K1, .int .i64 N1, .string T1] 24)).alloc (.cells #[.int .i64 K2, .int .i64 N2, .string T2] 24)).alloc (.cells #[.int .i64 0, .int .i64 0, .string ⟨#[]⟩] 24)) rfl (by go_grown))
  clear co0 c1 c2
  rcases hr with h | h | h
  · subst h
    rw [show tst 5 (-1) = 0 by rfl]
    go_enter Tryz.func44, Tryz.ntmps44
    go_wp2_with fail
    refine (co.out _).mono ?_
    rintro e w1 ⟨rfl, hb1⟩
    have HB1 := hidv (HB.out.step hb1)
    obtain ⟨⟨x0, x1, x2⟩, ⟨x3, x4, x5⟩, ⟨x6, x7, x8⟩, x9, xx, xy⟩ := HB1.out.cells
    obtain ⟨s0, s1, s2⟩ := HB1.out.sets
    clear hb1
    go_wp2_with fail
    refine (ct.out _ _).mono ?_
    rintro e w2 ⟨rfl, hb2⟩
    have HB2 := hidv (HB1.out.step hb2)
    obtain ⟨⟨x0, x1, x2⟩, ⟨x3, x4, x5⟩, ⟨x6, x7, x8⟩, x9, xx, xy⟩ := HB2.out.cells
    obtain ⟨s0, s1, s2⟩ := HB2.out.sets
    clear hb2
    go_wp2_with fail
    refine bodyPost_ret (v := .agg #[.int .i64 3, .int .i64 0, .string ⟨#[]⟩]) (by simp [results, Tryz.results44, go_sem, *]) rfl ?_
    exact ⟨rfl, HB2.out.out _ _ _⟩
  · subst h
    rw [show tst 5 (0) = 0 by rfl]
    go_enter Tryz.func44, Tryz.ntmps44
    go_wp2_with fail
    refine (co.out _).mono ?_
    rintro e w1 ⟨rfl, hb1⟩
    have HB1 := hidv (HB.out.step hb1)
    obtain ⟨⟨x0, x1, x2⟩, ⟨x3, x4, x5⟩, ⟨x6, x7, x8⟩, x9, xx, xy⟩ := HB1.out.cells
    obtain ⟨s0, s1, s2⟩ := HB1.out.sets
    clear hb1
    go_wp2_with fail
    refine (ct.out _ _).mono ?_
    rintro e w2 ⟨rfl, hb2⟩
    have HB2 := hidv (HB1.out.step hb2)
    obtain ⟨⟨x0, x1, x2⟩, ⟨x3, x4, x5⟩, ⟨x6, x7, x8⟩, x9, xx, xy⟩ := HB2.out.cells
    obtain ⟨s0, s1, s2⟩ := HB2.out.sets
    clear hb2
    go_wp2_with fail
    refine bodyPost_ret (v := .agg #[.int .i64 3, .int .i64 0, .string ⟨#[]⟩]) (by simp [results, Tryz.results44, go_sem, *]) rfl ?_
    exact ⟨rfl, HB2.out.out _ _ _⟩
  · subst h
    rw [show tst 5 (1) = 1 by rfl]
    go_enter Tryz.func44, Tryz.ntmps44
    go_wp2_with fail
    refine (co.out _).mono ?_
    rintro e w1 ⟨rfl, hb1⟩
    have HB1 := hidv (HB.out.step hb1)
    obtain ⟨⟨x0, x1, x2⟩, ⟨x3, x4, x5⟩, ⟨x6, x7, x8⟩, x9, xx, xy⟩ := HB1.out.cells
    obtain ⟨s0, s1, s2⟩ := HB1.out.sets
    clear hb1
    go_wp2_with fail
    refine (ct.out _ _).mono ?_
    rintro e w2 ⟨rfl, hb2⟩
    have HB2 := hidv (HB1.out.step hb2)
    obtain ⟨⟨x0, x1, x2⟩, ⟨x3, x4, x5⟩, ⟨x6, x7, x8⟩, x9, xx, xy⟩ := HB2.out.cells
    obtain ⟨s0, s1, s2⟩ := HB2.out.sets
    clear hb2
    go_wp2_with fail
    refine bodyPost_ret (v := .agg #[.int .i64 3, .int .i64 1, .string ⟨#[]⟩]) (by simp [results, Tryz.results44, go_sem, *]) rfl ?_
    exact ⟨rfl, HB2.out.out _ _ _⟩

set_option maxHeartbeats 2000000 in
set_option maxRecDepth 100000 in
theorem oper_6 (K1 N1 : Int) (T1 : ByteArray) (K2 N2 : Int) (T2 : ByteArray) (c1 : Cn K1 N1 T1 K1 N1 T1) (c2 : Cn K2 N2 T2 K2 N2 T2) (w : World) :
    Calls Tryz.prog 45 #[.agg #[.int .i64 K1, .int .i64 N1, .string T1], .agg #[.int .i64 K2, .int .i64 N2, .string T2]] w fun e w' => e = .returned (.agg #[.int .i64 3, .int .i64 (tst 6 (ordI K1 N1 T1 K2 N2 T2)), .string ⟨#[]⟩]) ∧ Below w.heap.size w w' := by
  have co0 := order_cn K1 N1 T1 K2 N2 T2 K1 N1 T1 K2 N2 T2 c1 c2
  have hr := ord_range K1 N1 T1 K2 N2 T2
  generalize ordI K1 N1 T1 K2 N2 T2 = R at co0 hr ⊢
  have co := hidv co0
  have ct := hidv truthValue_any
  have HB := hidv (triB_new w 24 (.int .i64 K1) (.int .i64 N1) (.string T1) (.int .i64 K2) (.int .i64 N2) (.string T2) (.int .i64 0) (.int .i64 0) (.string ⟨#[]⟩) (((w.alloc (.cells #[.int .i64 K1, .int .i64 N1, .string T1] 24)).alloc (.cells #[.int .i64 K2, .int .i64 N2, .string T2] 24)).alloc (.cells #[.int .i64 0, .int .i64 0, .string ⟨#[]⟩] 24)) rfl (by go_grown))
  clear co0 c1 c2
  rcases hr with h | h | h
  · subst h
    rw [show tst 6 (-1) = 0 by rfl]
    go_enter Tryz.func45, Tryz.ntmps45
    go_wp2_with fail
    refine (co.out _).mono ?_
    rintro e w1 ⟨rfl, hb1⟩
    have HB1 := hidv (HB.out.step hb1)
    obtain ⟨⟨x0, x1, x2⟩, ⟨x3, x4, x5⟩, ⟨x6, x7, x8⟩, x9, xx, xy⟩ := HB1.out.cells
    obtain ⟨s0, s1, s2⟩ := HB1.out.sets
    clear hb1
    go_wp2_with fail
    refine (ct.out _ _).mono ?_
    rintro e w2 ⟨rfl, hb2⟩
    have HB2 := hidv (HB1.out.step hb2)
    obtain ⟨⟨x0, x1, x2⟩, ⟨x3, x4, x5⟩, ⟨x6, x7, x8⟩, x9, xx, xy⟩ := HB2.out.cells
    obtain ⟨s0, s1, s2⟩ := HB2.out.sets
    clear hb2
    go_wp2_with fail
    refine bodyPost_ret (v := .agg #[.int .i64 3, .int .i64 0, .string ⟨#[]⟩]) (by simp [results, Tryz.results45, go_sem, *]) rfl ?_
    exact ⟨rfl, HB2.out.out _ _ _⟩
  · subst h
    rw [show tst 6 (0) = 1 by rfl]
    go_enter Tryz.func45, Tryz.ntmps45
    go_wp2_with fail
    refine (co.out _).mono ?_
    rintro e w1 ⟨rfl, hb1⟩
    have HB1 := hidv (HB.out.step hb1)
    obtain ⟨⟨x0, x1, x2⟩, ⟨x3, x4, x5⟩, ⟨x6, x7, x8⟩, x9, xx, xy⟩ := HB1.out.cells
    obtain ⟨s0, s1, s2⟩ := HB1.out.sets
    clear hb1
    go_wp2_with fail
    refine (ct.out _ _).mono ?_
    rintro e w2 ⟨rfl, hb2⟩
    have HB2 := hidv (HB1.out.step hb2)
    obtain ⟨⟨x0, x1, x2⟩, ⟨x3, x4, x5⟩, ⟨x6, x7, x8⟩, x9, xx, xy⟩ := HB2.out.cells
    obtain ⟨s0, s1, s2⟩ := HB2.out.sets
    clear hb2
    go_wp2_with fail
    refine bodyPost_ret (v := .agg #[.int .i64 3, .int .i64 1, .string ⟨#[]⟩]) (by simp [results, Tryz.results45, go_sem, *]) rfl ?_
    exact ⟨rfl, HB2.out.out _ _ _⟩
  · subst h
    rw [show tst 6 (1) = 1 by rfl]
    go_enter Tryz.func45, Tryz.ntmps45
    go_wp2_with fail
    refine (co.out _).mono ?_
    rintro e w1 ⟨rfl, hb1⟩
    have HB1 := hidv (HB.out.step hb1)
    obtain ⟨⟨x0, x1, x2⟩, ⟨x3, x4, x5⟩, ⟨x6, x7, x8⟩, x9, xx, xy⟩ := HB1.out.cells
    obtain ⟨s0, s1, s2⟩ := HB1.out.sets
    clear hb1
    go_wp2_with fail
    refine (ct.out _ _).mono ?_
    rintro e w2 ⟨rfl, hb2⟩
    have HB2 := hidv (HB1.out.step hb2)
    obtain ⟨⟨x0, x1, x2⟩, ⟨x3, x4, x5⟩, ⟨x6, x7, x8⟩, x9, xx, xy⟩ := HB2.out.cells
    obtain ⟨s0, s1, s2⟩ := HB2.out.sets
    clear hb2
    go_wp2_with fail
    refine bodyPost_ret (v := .agg #[.int .i64 3, .int .i64 1, .string ⟨#[]⟩]) (by simp [results, Tryz.results45, go_sem, *]) rfl ?_
    exact ⟨rfl, HB2.out.out _ _ _⟩
end Go.Proofs.YtjbkjeabobccaacGreatDoor
