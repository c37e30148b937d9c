import Derived.Test.YtjbkjeabobccaadDoorRefMoved3
namespace Go.Proofs.YtjbkjeabobccaadDoor
open Go.RowKit Go.Lib
set_option linter.unusedVariables false
set_option linter.unusedSimpArgs false

theorem mv_back {x y a n s : Int} (hx : 0 ≤ x) (hx' : x < s) (hy : 0 ≤ y) (hy' : y < s) (ha : 0 ≤ a) (hn : 0 < n) (hf : max x y + n < s) :
    mvok x y a n s = true ∧ mvok (mvx x y a n s) (mvy x y a n s) a (-n) s = true ∧ mvx (mvx x y a n s) (mvy x y a n s) a (-n) s = x ∧ mvy (mvx x y a n s) (mvy x y a n s) a (-n) s = y ∧
    (0 ≤ mvx x y a n s ∧ mvx x y a n s < s) ∧ (0 ≤ mvy x y a n s ∧ mvy x y a n s < s) := by
  obtain ⟨X, eX⟩ : ∃ X, mvx x y a n s = X := ⟨_, rfl⟩
  obtain ⟨Y, eY⟩ : ∃ Y, mvy x y a n s = Y := ⟨_, rfl⟩
  rw [eX, eY]
  have n0 : 0 ≤ n := by omega
  have n1 : ¬ 0 ≤ -n := by omega
  have hX : X = if a ≤ x then x + n else x := by
    rw [← eX]; unfold mvx loN hiN; simp only [n0, if_true]; (repeat' split) <;> omega
  have hY : Y = if a ≤ y then y + n else y := by
    rw [← eY]; unfold mvy loN hiN; simp only [n0, if_true]; (repeat' split) <;> omega
  clear eX eY
  refine ⟨?_, ?_, ?_, ?_, ?_, ?_⟩
  · unfold mvok leftN loN; simp only [n0, if_true]; simp; split <;> omega
  · unfold mvok leftN loN hiN; simp only [n1, if_false]; simp only [decide_eq_true_eq]; split at hX <;> split at hY <;> (repeat' split) <;> omega
  · unfold mvx loN hiN; simp only [n1, if_false]; split at hX <;> split at hY <;> (repeat' split) <;> omega
  · unfold mvy loN hiN; simp only [n1, if_false]; split at hX <;> split at hY <;> (repeat' split) <;> omega
  · split at hX <;> omega
  · split at hY <;> omega

theorem mv_kept {x y a n s c tv : Int} (hx : 0 ≤ x) (hx' : x < s) (hy : 0 ≤ y) (hy' : y < s) (ha : 0 ≤ a) (ha' : a < s) (h1 : min x y ≤ c) (h2 : c ≤ max x y)
    (h : (0 ≤ n ∧ a ≤ c ∧ tv = c + n ∧ tv < s) ∨ (n < 0 ∧ a ≤ c ∧ tv = c + n ∧ a - n ≤ c) ∨ (c < a ∧ tv = c)) :
    mvok x y a n s = true ∧ (0 ≤ mvx x y a n s ∧ mvx x y a n s < s) ∧ (0 ≤ mvy x y a n s ∧ mvy x y a n s < s) ∧ min (mvx x y a n s) (mvy x y a n s) ≤ tv ∧ tv ≤ max (mvx x y a n s) (mvy x y a n s) := by
  by_cases hn : 0 ≤ n
  · have key : loN (min x y) a n ≤ tv ∧ tv ≤ hiN (max x y) a n s ∧ 0 ≤ loN (min x y) a n ∧ loN (min x y) a n < s ∧ 0 ≤ hiN (max x y) a n s ∧ hiN (max x y) a n s < s := by
      unfold loN hiN; simp only [hn, if_true]; split <;> split <;> omega
    unfold mvok mvx mvy leftN
    simp only [hn, if_true]
    by_cases o : y < x
    · have e1 : min x y = y := by omega
      have e2 : max x y = x := by omega
      rw [e1, e2] at key; simp only [o, if_true, e1, e2, decide_eq_true_eq]; omega
    · have e1 : min x y = x := by omega
      have e2 : max x y = y := by omega
      rw [e1, e2] at key; simp only [o, if_false, e1, e2, decide_eq_true_eq]; omega
  · have key : loN (min x y) a n ≤ tv ∧ tv ≤ hiN (max x y) a n s ∧ 0 ≤ loN (min x y) a n ∧ loN (min x y) a n < s ∧ 0 ≤ hiN (max x y) a n s ∧ hiN (max x y) a n s < s := by
      unfold loN hiN; simp only [hn, if_false]; (repeat' split) <;> omega
    unfold mvok mvx mvy leftN
    simp only [hn, if_false]
    by_cases o : y < x
    · have e1 : min x y = y := by omega
      have e2 : max x y = x := by omega
      rw [e1, e2] at key; simp only [o, if_true, e1, e2, decide_eq_true_eq]; omega
    · have e1 : min x y = x := by omega
      have e2 : max x y = y := by omega
      rw [e1, e2] at key; simp only [o, if_false, e1, e2, decide_eq_true_eq]; omega

theorem movR_col {c1 r1 c2 r2 at' n : Int} {f1 g1 f2 g2 : Bool} (h : okM c1 r1 c2 r2 false at' n) (hl : mvok c1 c2 at' n 64 = true) :
    movR c1 r1 c2 r2 f1 g1 f2 g2 false at' n = ⟨mvx c1 c2 at' n 64, r1, f1, g1, mvy c1 c2 at' n 64, r2, f2, g2, true⟩ := by
  unfold movR; rw [if_pos h, if_neg (by simp), if_pos hl]
theorem movR_row {c1 r1 c2 r2 at' n : Int} {f1 g1 f2 g2 : Bool} (h : okM c1 r1 c2 r2 true at' n) (hl : mvok r1 r2 at' n 1024 = true) :
    movR c1 r1 c2 r2 f1 g1 f2 g2 true at' n = ⟨c1, mvx r1 r2 at' n 1024, f1, g1, c2, mvy r1 r2 at' n 1024, f2, g2, true⟩ := by
  unfold movR; rw [if_pos h, if_pos rfl, if_pos hl]
theorem movR_out {c1 r1 c2 r2 at' n : Int} {f1 g1 f2 g2 rows : Bool} (h : ¬ okM c1 r1 c2 r2 rows at' n) :
    movR c1 r1 c2 r2 f1 g1 f2 g2 rows at' n = ⟨0, 0, false, false, 0, 0, false, false, false⟩ := by
  unfold movR; rw [if_neg h]
theorem bdR_in {c1 r1 c2 r2 : Int} (h1 : inB c1 r1) (h2 : inB c2 r2) : bdR c1 r1 c2 r2 = (min c1 c2, min r1 r2, max c1 c2, max r1 r2) := if_pos ⟨h1, h2⟩
end Go.Proofs.YtjbkjeabobccaadDoor
