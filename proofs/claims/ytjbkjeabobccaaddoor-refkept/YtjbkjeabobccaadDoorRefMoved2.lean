import Derived.Test.YtjbkjeabobccaadDoorRefMovedCol
import Derived.Test.YtjbkjeabobccaadDoorRefMovedRow
namespace Go.Proofs.YtjbkjeabobccaadDoor
open Go.RowKit Go.Lib
set_option linter.unusedVariables false

/-- What an area's lesser and greater number become (D5), and whether it is left. -/
def loN (lo a n : Int) : Int := if 0 ≤ n then (if a ≤ lo then lo + n else lo) else (if a - n ≤ lo then lo + n else if a ≤ lo then a else lo)
def hiN (hi a n size : Int) : Int := if 0 ≤ n then (if a ≤ hi then min (hi + n) (size - 1) else hi) else (if a - n ≤ hi then hi + n else if a ≤ hi then a - 1 else hi)
def leftN (lo hi a n size : Int) : Bool := if 0 ≤ n then decide (loN lo a n < size) else decide (loN lo a n ≤ hiN hi a n size)
def mvx (x y a n size : Int) : Int := if y < x then hiN x a n size else loN x a n
def mvy (x y a n size : Int) : Int := if y < x then loN y a n else hiN y a n size
def mvok (x y a n size : Int) : Bool := leftN (min x y) (max x y) a n size

set_option maxHeartbeats 1000000 in
theorem moved_col_yes (c1 r1 c2 r2 at' n : Int) (f1 g1 f2 g2 : Bool) (w : World) (i1 : inB c1 r1) (i2 : inB c2 r2) (a1 : 0 ≤ at') (a2 : at' < 64) (n1 : -1024 ≤ n) (n2 : n ≤ 1024) (x' y' : Int) (hx : x' = mvx c1 c2 at' n 64) (hy : y' = mvy c1 c2 at' n 64) (hl : mvok c1 c2 at' n 64 = true) :
    Calls Tryd.prog 4 #[.agg #[.int .i64 c1, .int .i64 r1, .bool f1, .bool g1, .int .i64 c2, .int .i64 r2, .bool f2, .bool g2], .bool false, .int .i64 at', .int .i64 n] w fun e w' => e = .returned (.tuple #[.agg #[.int .i64 x', .int .i64 r1, .bool f1, .bool g1, .int .i64 y', .int .i64 r2, .bool f2, .bool g2], .bool true]) ∧ Below w.heap.size w w' := by
  by_cases ho : c2 < c1
  · skip
    by_cases hn : 0 < n
    · by_cases h1 : at' ≤ c2
      · by_cases hq : c2 + n < 64
        · have e1 : x' = min (c1 + n) (64 - 1) := by rw [hx]; unfold inB at i1 i2; unfold mvx loN hiN; (repeat' split) <;> omega
          have e2 : y' = c2 + n := by rw [hy]; unfold inB at i1 i2; unfold mvy loN hiN; (repeat' split) <;> omega
          rw [e1, e2]
          exact mov_col_lt_ptt c1 r1 c2 r2 at' n f1 g1 f2 g2 w i1 i2 a1 a2 n1 n2 (by omega) (by omega) (by omega) (by omega) (by omega)
        · exfalso
          revert hl
          unfold inB at i1 i2
          unfold mvok leftN loN hiN
          (repeat' split) <;> simp <;> omega
      · by_cases h2 : at' ≤ c1
        · have e1 : x' = min (c1 + n) (64 - 1) := by rw [hx]; unfold inB at i1 i2; unfold mvx loN hiN; (repeat' split) <;> omega
          have e2 : y' = c2 := by rw [hy]; unfold inB at i1 i2; unfold mvy loN hiN; (repeat' split) <;> omega
          rw [e1, e2]
          exact mov_col_lt_pft c1 r1 c2 r2 at' n f1 g1 f2 g2 w i1 i2 a1 a2 n1 n2 (by omega) (by omega) (by omega) (by omega)
        · have e1 : x' = min c1 (64 - 1) := by rw [hx]; unfold inB at i1 i2; unfold mvx loN hiN; (repeat' split) <;> omega
          have e2 : y' = c2 := by rw [hy]; unfold inB at i1 i2; unfold mvy loN hiN; (repeat' split) <;> omega
          rw [e1, e2]
          exact mov_col_lt_pff c1 r1 c2 r2 at' n f1 g1 f2 g2 w i1 i2 a1 a2 n1 n2 (by omega) (by omega) (by omega) (by omega)
    · by_cases h1 : at' + -n ≤ c2
      · have e1 : x' = c1 - -n := by rw [hx]; unfold inB at i1 i2; unfold mvx loN hiN; (repeat' split) <;> omega
        have e2 : y' = c2 - -n := by rw [hy]; unfold inB at i1 i2; unfold mvy loN hiN; (repeat' split) <;> omega
        rw [e1, e2]
        exact mov_col_lt_taa c1 r1 c2 r2 at' n f1 g1 f2 g2 w i1 i2 a1 a2 n1 n2 (by omega) (by omega) (by omega) (by omega)
      · by_cases h3 : at' ≤ c2
        · by_cases h2 : at' + -n ≤ c1
          · have e1 : x' = c1 - -n := by rw [hx]; unfold inB at i1 i2; unfold mvx loN hiN; (repeat' split) <;> omega
            have e2 : y' = at' := by rw [hy]; unfold inB at i1 i2; unfold mvy loN hiN; (repeat' split) <;> omega
            rw [e1, e2]
            exact mov_col_lt_tma c1 r1 c2 r2 at' n f1 g1 f2 g2 w i1 i2 a1 a2 n1 n2 (by omega) (by omega) (by omega) (by omega)
          · exfalso
            revert hl
            unfold inB at i1 i2
            unfold mvok leftN loN hiN
            (repeat' split) <;> simp <;> omega
        · by_cases h2 : at' + -n ≤ c1
          · have e1 : x' = c1 - -n := by rw [hx]; unfold inB at i1 i2; unfold mvx loN hiN; (repeat' split) <;> omega
            have e2 : y' = c2 := by rw [hy]; unfold inB at i1 i2; unfold mvy loN hiN; (repeat' split) <;> omega
            rw [e1, e2]
            exact mov_col_lt_tba c1 r1 c2 r2 at' n f1 g1 f2 g2 w i1 i2 a1 a2 n1 n2 (by omega) (by omega) (by omega) (by omega)
          · by_cases h4 : at' ≤ c1
            · have e1 : x' = at' - 1 := by rw [hx]; unfold inB at i1 i2; unfold mvx loN hiN; (repeat' split) <;> omega
              have e2 : y' = c2 := by rw [hy]; unfold inB at i1 i2; unfold mvy loN hiN; (repeat' split) <;> omega
              rw [e1, e2]
              exact mov_col_lt_tbm c1 r1 c2 r2 at' n f1 g1 f2 g2 w i1 i2 a1 a2 n1 n2 (by omega) (by omega) (by omega) (by omega)
            · have e1 : x' = c1 := by rw [hx]; unfold inB at i1 i2; unfold mvx loN hiN; (repeat' split) <;> omega
              have e2 : y' = c2 := by rw [hy]; unfold inB at i1 i2; unfold mvy loN hiN; (repeat' split) <;> omega
              rw [e1, e2]
              exact mov_col_lt_tbb c1 r1 c2 r2 at' n f1 g1 f2 g2 w i1 i2 a1 a2 n1 n2 (by omega) (by omega) (by omega) (by omega)
  · skip
    by_cases hn : 0 < n
    · by_cases h1 : at' ≤ c1
      · by_cases hq : c1 + n < 64
        · have e1 : x' = c1 + n := by rw [hx]; unfold inB at i1 i2; unfold mvx loN hiN; (repeat' split) <;> omega
          have e2 : y' = min (c2 + n) (64 - 1) := by rw [hy]; unfold inB at i1 i2; unfold mvy loN hiN; (repeat' split) <;> omega
          rw [e1, e2]
          exact mov_col_ge_ptt c1 r1 c2 r2 at' n f1 g1 f2 g2 w i1 i2 a1 a2 n1 n2 (by omega) (by omega) (by omega) (by omega) (by omega)
        · exfalso
          revert hl
          unfold inB at i1 i2
          unfold mvok leftN loN hiN
          (repeat' split) <;> simp <;> omega
      · by_cases h2 : at' ≤ c2
        · have e1 : x' = c1 := by rw [hx]; unfold inB at i1 i2; unfold mvx loN hiN; (repeat' split) <;> omega
          have e2 : y' = min (c2 + n) (64 - 1) := by rw [hy]; unfold inB at i1 i2; unfold mvy loN hiN; (repeat' split) <;> omega
          rw [e1, e2]
          exact mov_col_ge_pft c1 r1 c2 r2 at' n f1 g1 f2 g2 w i1 i2 a1 a2 n1 n2 (by omega) (by omega) (by omega) (by omega)
        · have e1 : x' = c1 := by rw [hx]; unfold inB at i1 i2; unfold mvx loN hiN; (repeat' split) <;> omega
          have e2 : y' = min c2 (64 - 1) := by rw [hy]; unfold inB at i1 i2; unfold mvy loN hiN; (repeat' split) <;> omega
          rw [e1, e2]
          exact mov_col_ge_pff c1 r1 c2 r2 at' n f1 g1 f2 g2 w i1 i2 a1 a2 n1 n2 (by omega) (by omega) (by omega) (by omega)
    · by_cases h1 : at' + -n ≤ c1
      · have e1 : x' = c1 - -n := by rw [hx]; unfold inB at i1 i2; unfold mvx loN hiN; (repeat' split) <;> omega
        have e2 : y' = c2 - -n := by rw [hy]; unfold inB at i1 i2; unfold mvy loN hiN; (repeat' split) <;> omega
        rw [e1, e2]
        exact mov_col_ge_taa c1 r1 c2 r2 at' n f1 g1 f2 g2 w i1 i2 a1 a2 n1 n2 (by omega) (by omega) (by omega) (by omega)
      · by_cases h3 : at' ≤ c1
        · by_cases h2 : at' + -n ≤ c2
          · have e1 : x' = at' := by rw [hx]; unfold inB at i1 i2; unfold mvx loN hiN; (repeat' split) <;> omega
            have e2 : y' = c2 - -n := by rw [hy]; unfold inB at i1 i2; unfold mvy loN hiN; (repeat' split) <;> omega
            rw [e1, e2]
            exact mov_col_ge_tma c1 r1 c2 r2 at' n f1 g1 f2 g2 w i1 i2 a1 a2 n1 n2 (by omega) (by omega) (by omega) (by omega)
          · exfalso
            revert hl
            unfold inB at i1 i2
            unfold mvok leftN loN hiN
            (repeat' split) <;> simp <;> omega
        · by_cases h2 : at' + -n ≤ c2
          · have e1 : x' = c1 := by rw [hx]; unfold inB at i1 i2; unfold mvx loN hiN; (repeat' split) <;> omega
            have e2 : y' = c2 - -n := by rw [hy]; unfold inB at i1 i2; unfold mvy loN hiN; (repeat' split) <;> omega
            rw [e1, e2]
            exact mov_col_ge_tba c1 r1 c2 r2 at' n f1 g1 f2 g2 w i1 i2 a1 a2 n1 n2 (by omega) (by omega) (by omega) (by omega)
          · by_cases h4 : at' ≤ c2
            · have e1 : x' = c1 := by rw [hx]; unfold inB at i1 i2; unfold mvx loN hiN; (repeat' split) <;> omega
              have e2 : y' = at' - 1 := by rw [hy]; unfold inB at i1 i2; unfold mvy loN hiN; (repeat' split) <;> omega
              rw [e1, e2]
              exact mov_col_ge_tbm c1 r1 c2 r2 at' n f1 g1 f2 g2 w i1 i2 a1 a2 n1 n2 (by omega) (by omega) (by omega) (by omega)
            · have e1 : x' = c1 := by rw [hx]; unfold inB at i1 i2; unfold mvx loN hiN; (repeat' split) <;> omega
              have e2 : y' = c2 := by rw [hy]; unfold inB at i1 i2; unfold mvy loN hiN; (repeat' split) <;> omega
              rw [e1, e2]
              exact mov_col_ge_tbb c1 r1 c2 r2 at' n f1 g1 f2 g2 w i1 i2 a1 a2 n1 n2 (by omega) (by omega) (by omega) (by omega)

set_option maxHeartbeats 1000000 in
theorem moved_col_no (c1 r1 c2 r2 at' n : Int) (f1 g1 f2 g2 : Bool) (w : World) (i1 : inB c1 r1) (i2 : inB c2 r2) (a1 : 0 ≤ at') (a2 : at' < 64) (n1 : -1024 ≤ n) (n2 : n ≤ 1024) (hl : mvok c1 c2 at' n 64 = false) :
    Calls Tryd.prog 4 #[.agg #[.int .i64 c1, .int .i64 r1, .bool f1, .bool g1, .int .i64 c2, .int .i64 r2, .bool f2, .bool g2], .bool false, .int .i64 at', .int .i64 n] w fun e w' => e = .returned (.tuple #[.agg #[.int .i64 0, .int .i64 0, .bool false, .bool false, .int .i64 0, .int .i64 0, .bool false, .bool false], .bool false]) ∧ Below w.heap.size w w' := by
  by_cases ho : c2 < c1
  · skip
    by_cases hn : 0 < n
    · by_cases h1 : at' ≤ c2
      · by_cases hq : c2 + n < 64
        · exfalso
          revert hl
          unfold inB at i1 i2
          unfold mvok leftN loN hiN
          (repeat' split) <;> simp <;> omega
        · exact mov_col_lt_pttx c1 r1 c2 r2 at' n f1 g1 f2 g2 w i1 i2 a1 a2 n1 n2 (by omega) (by omega) (by omega) (by omega) (by omega)
      · by_cases h2 : at' ≤ c1
        · exfalso
          revert hl
          unfold inB at i1 i2
          unfold mvok leftN loN hiN
          (repeat' split) <;> simp <;> omega
        · exfalso
          revert hl
          unfold inB at i1 i2
          unfold mvok leftN loN hiN
          (repeat' split) <;> simp <;> omega
    · by_cases h1 : at' + -n ≤ c2
      · exfalso
        revert hl
        unfold inB at i1 i2
        unfold mvok leftN loN hiN
        (repeat' split) <;> simp <;> omega
      · by_cases h3 : at' ≤ c2
        · by_cases h2 : at' + -n ≤ c1
          · exfalso
            revert hl
            unfold inB at i1 i2
            unfold mvok leftN loN hiN
            (repeat' split) <;> simp <;> omega
          · exact mov_col_lt_tmm c1 r1 c2 r2 at' n f1 g1 f2 g2 w i1 i2 a1 a2 n1 n2 (by omega) (by omega) (by omega) (by omega)
        · by_cases h2 : at' + -n ≤ c1
          · exfalso
            revert hl
            unfold inB at i1 i2
            unfold mvok leftN loN hiN
            (repeat' split) <;> simp <;> omega
          · by_cases h4 : at' ≤ c1
            · exfalso
              revert hl
              unfold inB at i1 i2
              unfold mvok leftN loN hiN
              (repeat' split) <;> simp <;> omega
            · exfalso
              revert hl
              unfold inB at i1 i2
              unfold mvok leftN loN hiN
              (repeat' split) <;> simp <;> omega
  · skip
    by_cases hn : 0 < n
    · by_cases h1 : at' ≤ c1
      · by_cases hq : c1 + n < 64
        · exfalso
          revert hl
          unfold inB at i1 i2
          unfold mvok leftN loN hiN
          (repeat' split) <;> simp <;> omega
        · exact mov_col_ge_pttx c1 r1 c2 r2 at' n f1 g1 f2 g2 w i1 i2 a1 a2 n1 n2 (by omega) (by omega) (by omega) (by omega) (by omega)
      · by_cases h2 : at' ≤ c2
        · exfalso
          revert hl
          unfold inB at i1 i2
          unfold mvok leftN loN hiN
          (repeat' split) <;> simp <;> omega
        · exfalso
          revert hl
          unfold inB at i1 i2
          unfold mvok leftN loN hiN
          (repeat' split) <;> simp <;> omega
    · by_cases h1 : at' + -n ≤ c1
      · exfalso
        revert hl
        unfold inB at i1 i2
        unfold mvok leftN loN hiN
        (repeat' split) <;> simp <;> omega
      · by_cases h3 : at' ≤ c1
        · by_cases h2 : at' + -n ≤ c2
          · exfalso
            revert hl
            unfold inB at i1 i2
            unfold mvok leftN loN hiN
            (repeat' split) <;> simp <;> omega
          · exact mov_col_ge_tmm c1 r1 c2 r2 at' n f1 g1 f2 g2 w i1 i2 a1 a2 n1 n2 (by omega) (by omega) (by omega) (by omega)
        · by_cases h2 : at' + -n ≤ c2
          · exfalso
            revert hl
            unfold inB at i1 i2
            unfold mvok leftN loN hiN
            (repeat' split) <;> simp <;> omega
          · by_cases h4 : at' ≤ c2
            · exfalso
              revert hl
              unfold inB at i1 i2
              unfold mvok leftN loN hiN
              (repeat' split) <;> simp <;> omega
            · exfalso
              revert hl
              unfold inB at i1 i2
              unfold mvok leftN loN hiN
              (repeat' split) <;> simp <;> omega

set_option maxHeartbeats 1000000 in
theorem moved_row_yes (c1 r1 c2 r2 at' n : Int) (f1 g1 f2 g2 : Bool) (w : World) (i1 : inB c1 r1) (i2 : inB c2 r2) (a1 : 0 ≤ at') (a2 : at' < 1024) (n1 : -1024 ≤ n) (n2 : n ≤ 1024) (x' y' : Int) (hx : x' = mvx r1 r2 at' n 1024) (hy : y' = mvy r1 r2 at' n 1024) (hl : mvok r1 r2 at' n 1024 = true) :
    Calls Tryd.prog 4 #[.agg #[.int .i64 c1, .int .i64 r1, .bool f1, .bool g1, .int .i64 c2, .int .i64 r2, .bool f2, .bool g2], .bool true, .int .i64 at', .int .i64 n] w fun e w' => e = .returned (.tuple #[.agg #[.int .i64 c1, .int .i64 x', .bool f1, .bool g1, .int .i64 c2, .int .i64 y', .bool f2, .bool g2], .bool true]) ∧ Below w.heap.size w w' := by
  by_cases ho : r2 < r1
  · skip
    by_cases hn : 0 < n
    · by_cases h1 : at' ≤ r2
      · by_cases hq : r2 + n < 1024
        · have e1 : x' = min (r1 + n) (1024 - 1) := by rw [hx]; unfold inB at i1 i2; unfold mvx loN hiN; (repeat' split) <;> omega
          have e2 : y' = r2 + n := by rw [hy]; unfold inB at i1 i2; unfold mvy loN hiN; (repeat' split) <;> omega
          rw [e1, e2]
          exact mov_row_lt_ptt c1 r1 c2 r2 at' n f1 g1 f2 g2 w i1 i2 a1 a2 n1 n2 (by omega) (by omega) (by omega) (by omega) (by omega)
        · exfalso
          revert hl
          unfold inB at i1 i2
          unfold mvok leftN loN hiN
          (repeat' split) <;> simp <;> omega
      · by_cases h2 : at' ≤ r1
        · have e1 : x' = min (r1 + n) (1024 - 1) := by rw [hx]; unfold inB at i1 i2; unfold mvx loN hiN; (repeat' split) <;> omega
          have e2 : y' = r2 := by rw [hy]; unfold inB at i1 i2; unfold mvy loN hiN; (repeat' split) <;> omega
          rw [e1, e2]
          exact mov_row_lt_pft c1 r1 c2 r2 at' n f1 g1 f2 g2 w i1 i2 a1 a2 n1 n2 (by omega) (by omega) (by omega) (by omega)
        · have e1 : x' = min r1 (1024 - 1) := by rw [hx]; unfold inB at i1 i2; unfold mvx loN hiN; (repeat' split) <;> omega
          have e2 : y' = r2 := by rw [hy]; unfold inB at i1 i2; unfold mvy loN hiN; (repeat' split) <;> omega
          rw [e1, e2]
          exact mov_row_lt_pff c1 r1 c2 r2 at' n f1 g1 f2 g2 w i1 i2 a1 a2 n1 n2 (by omega) (by omega) (by omega) (by omega)
    · by_cases h1 : at' + -n ≤ r2
      · have e1 : x' = r1 - -n := by rw [hx]; unfold inB at i1 i2; unfold mvx loN hiN; (repeat' split) <;> omega
        have e2 : y' = r2 - -n := by rw [hy]; unfold inB at i1 i2; unfold mvy loN hiN; (repeat' split) <;> omega
        rw [e1, e2]
        exact mov_row_lt_taa c1 r1 c2 r2 at' n f1 g1 f2 g2 w i1 i2 a1 a2 n1 n2 (by omega) (by omega) (by omega) (by omega)
      · by_cases h3 : at' ≤ r2
        · by_cases h2 : at' + -n ≤ r1
          · have e1 : x' = r1 - -n := by rw [hx]; unfold inB at i1 i2; unfold mvx loN hiN; (repeat' split) <;> omega
            have e2 : y' = at' := by rw [hy]; unfold inB at i1 i2; unfold mvy loN hiN; (repeat' split) <;> omega
            rw [e1, e2]
            exact mov_row_lt_tma c1 r1 c2 r2 at' n f1 g1 f2 g2 w i1 i2 a1 a2 n1 n2 (by omega) (by omega) (by omega) (by omega)
          · exfalso
            revert hl
            unfold inB at i1 i2
            unfold mvok leftN loN hiN
            (repeat' split) <;> simp <;> omega
        · by_cases h2 : at' + -n ≤ r1
          · have e1 : x' = r1 - -n := by rw [hx]; unfold inB at i1 i2; unfold mvx loN hiN; (repeat' split) <;> omega
            have e2 : y' = r2 := by rw [hy]; unfold inB at i1 i2; unfold mvy loN hiN; (repeat' split) <;> omega
            rw [e1, e2]
            exact mov_row_lt_tba c1 r1 c2 r2 at' n f1 g1 f2 g2 w i1 i2 a1 a2 n1 n2 (by omega) (by omega) (by omega) (by omega)
          · by_cases h4 : at' ≤ r1
            · have e1 : x' = at' - 1 := by rw [hx]; unfold inB at i1 i2; unfold mvx loN hiN; (repeat' split) <;> omega
              have e2 : y' = r2 := by rw [hy]; unfold inB at i1 i2; unfold mvy loN hiN; (repeat' split) <;> omega
              rw [e1, e2]
              exact mov_row_lt_tbm c1 r1 c2 r2 at' n f1 g1 f2 g2 w i1 i2 a1 a2 n1 n2 (by omega) (by omega) (by omega) (by omega)
            · have e1 : x' = r1 := by rw [hx]; unfold inB at i1 i2; unfold mvx loN hiN; (repeat' split) <;> omega
              have e2 : y' = r2 := by rw [hy]; unfold inB at i1 i2; unfold mvy loN hiN; (repeat' split) <;> omega
              rw [e1, e2]
              exact mov_row_lt_tbb c1 r1 c2 r2 at' n f1 g1 f2 g2 w i1 i2 a1 a2 n1 n2 (by omega) (by omega) (by omega) (by omega)
  · skip
    by_cases hn : 0 < n
    · by_cases h1 : at' ≤ r1
      · by_cases hq : r1 + n < 1024
        · have e1 : x' = r1 + n := by rw [hx]; unfold inB at i1 i2; unfold mvx loN hiN; (repeat' split) <;> omega
          have e2 : y' = min (r2 + n) (1024 - 1) := by rw [hy]; unfold inB at i1 i2; unfold mvy loN hiN; (repeat' split) <;> omega
          rw [e1, e2]
          exact mov_row_ge_ptt c1 r1 c2 r2 at' n f1 g1 f2 g2 w i1 i2 a1 a2 n1 n2 (by omega) (by omega) (by omega) (by omega) (by omega)
        · exfalso
          revert hl
          unfold inB at i1 i2
          unfold mvok leftN loN hiN
          (repeat' split) <;> simp <;> omega
      · by_cases h2 : at' ≤ r2
        · have e1 : x' = r1 := by rw [hx]; unfold inB at i1 i2; unfold mvx loN hiN; (repeat' split) <;> omega
          have e2 : y' = min (r2 + n) (1024 - 1) := by rw [hy]; unfold inB at i1 i2; unfold mvy loN hiN; (repeat' split) <;> omega
          rw [e1, e2]
          exact mov_row_ge_pft c1 r1 c2 r2 at' n f1 g1 f2 g2 w i1 i2 a1 a2 n1 n2 (by omega) (by omega) (by omega) (by omega)
        · have e1 : x' = r1 := by rw [hx]; unfold inB at i1 i2; unfold mvx loN hiN; (repeat' split) <;> omega
          have e2 : y' = min r2 (1024 - 1) := by rw [hy]; unfold inB at i1 i2; unfold mvy loN hiN; (repeat' split) <;> omega
          rw [e1, e2]
          exact mov_row_ge_pff c1 r1 c2 r2 at' n f1 g1 f2 g2 w i1 i2 a1 a2 n1 n2 (by omega) (by omega) (by omega) (by omega)
    · by_cases h1 : at' + -n ≤ r1
      · have e1 : x' = r1 - -n := by rw [hx]; unfold inB at i1 i2; unfold mvx loN hiN; (repeat' split) <;> omega
        have e2 : y' = r2 - -n := by rw [hy]; unfold inB at i1 i2; unfold mvy loN hiN; (repeat' split) <;> omega
        rw [e1, e2]
        exact mov_row_ge_taa c1 r1 c2 r2 at' n f1 g1 f2 g2 w i1 i2 a1 a2 n1 n2 (by omega) (by omega) (by omega) (by omega)
      · by_cases h3 : at' ≤ r1
        · by_cases h2 : at' + -n ≤ r2
          · have e1 : x' = at' := by rw [hx]; unfold inB at i1 i2; unfold mvx loN hiN; (repeat' split) <;> omega
            have e2 : y' = r2 - -n := by rw [hy]; unfold inB at i1 i2; unfold mvy loN hiN; (repeat' split) <;> omega
            rw [e1, e2]
            exact mov_row_ge_tma c1 r1 c2 r2 at' n f1 g1 f2 g2 w i1 i2 a1 a2 n1 n2 (by omega) (by omega) (by omega) (by omega)
          · exfalso
            revert hl
            unfold inB at i1 i2
            unfold mvok leftN loN hiN
            (repeat' split) <;> simp <;> omega
        · by_cases h2 : at' + -n ≤ r2
          · have e1 : x' = r1 := by rw [hx]; unfold inB at i1 i2; unfold mvx loN hiN; (repeat' split) <;> omega
            have e2 : y' = r2 - -n := by rw [hy]; unfold inB at i1 i2; unfold mvy loN hiN; (repeat' split) <;> omega
            rw [e1, e2]
            exact mov_row_ge_tba c1 r1 c2 r2 at' n f1 g1 f2 g2 w i1 i2 a1 a2 n1 n2 (by omega) (by omega) (by omega) (by omega)
          · by_cases h4 : at' ≤ r2
            · have e1 : x' = r1 := by rw [hx]; unfold inB at i1 i2; unfold mvx loN hiN; (repeat' split) <;> omega
              have e2 : y' = at' - 1 := by rw [hy]; unfold inB at i1 i2; unfold mvy loN hiN; (repeat' split) <;> omega
              rw [e1, e2]
              exact mov_row_ge_tbm c1 r1 c2 r2 at' n f1 g1 f2 g2 w i1 i2 a1 a2 n1 n2 (by omega) (by omega) (by omega) (by omega)
            · have e1 : x' = r1 := by rw [hx]; unfold inB at i1 i2; unfold mvx loN hiN; (repeat' split) <;> omega
              have e2 : y' = r2 := by rw [hy]; unfold inB at i1 i2; unfold mvy loN hiN; (repeat' split) <;> omega
              rw [e1, e2]
              exact mov_row_ge_tbb c1 r1 c2 r2 at' n f1 g1 f2 g2 w i1 i2 a1 a2 n1 n2 (by omega) (by omega) (by omega) (by omega)

set_option maxHeartbeats 1000000 in
theorem moved_row_no (c1 r1 c2 r2 at' n : Int) (f1 g1 f2 g2 : Bool) (w : World) (i1 : inB c1 r1) (i2 : inB c2 r2) (a1 : 0 ≤ at') (a2 : at' < 1024) (n1 : -1024 ≤ n) (n2 : n ≤ 1024) (hl : mvok r1 r2 at' n 1024 = false) :
    Calls Tryd.prog 4 #[.agg #[.int .i64 c1, .int .i64 r1, .bool f1, .bool g1, .int .i64 c2, .int .i64 r2, .bool f2, .bool g2], .bool true, .int .i64 at', .int .i64 n] w fun e w' => e = .returned (.tuple #[.agg #[.int .i64 0, .int .i64 0, .bool false, .bool false, .int .i64 0, .int .i64 0, .bool false, .bool false], .bool false]) ∧ Below w.heap.size w w' := by
  by_cases ho : r2 < r1
  · skip
    by_cases hn : 0 < n
    · by_cases h1 : at' ≤ r2
      · by_cases hq : r2 + n < 1024
        · exfalso
          revert hl
          unfold inB at i1 i2
          unfold mvok leftN loN hiN
          (repeat' split) <;> simp <;> omega
        · exact mov_row_lt_pttx c1 r1 c2 r2 at' n f1 g1 f2 g2 w i1 i2 a1 a2 n1 n2 (by omega) (by omega) (by omega) (by omega) (by omega)
      · by_cases h2 : at' ≤ r1
        · exfalso
          revert hl
          unfold inB at i1 i2
          unfold mvok leftN loN hiN
          (repeat' split) <;> simp <;> omega
        · exfalso
          revert hl
          unfold inB at i1 i2
          unfold mvok leftN loN hiN
          (repeat' split) <;> simp <;> omega
    · by_cases h1 : at' + -n ≤ r2
      · exfalso
        revert hl
        unfold inB at i1 i2
        unfold mvok leftN loN hiN
        (repeat' split) <;> simp <;> omega
      · by_cases h3 : at' ≤ r2
        · by_cases h2 : at' + -n ≤ r1
          · exfalso
            revert hl
            unfold inB at i1 i2
            unfold mvok leftN loN hiN
            (repeat' split) <;> simp <;> omega
          · exact mov_row_lt_tmm c1 r1 c2 r2 at' n f1 g1 f2 g2 w i1 i2 a1 a2 n1 n2 (by omega) (by omega) (by omega) (by omega)
        · by_cases h2 : at' + -n ≤ r1
          · exfalso
            revert hl
            unfold inB at i1 i2
            unfold mvok leftN loN hiN
            (repeat' split) <;> simp <;> omega
          · by_cases h4 : at' ≤ r1
            · exfalso
              revert hl
              unfold inB at i1 i2
              unfold mvok leftN loN hiN
              (repeat' split) <;> simp <;> omega
            · exfalso
              revert hl
              unfold inB at i1 i2
              unfold mvok leftN loN hiN
              (repeat' split) <;> simp <;> omega
  · skip
    by_cases hn : 0 < n
    · by_cases h1 : at' ≤ r1
      · by_cases hq : r1 + n < 1024
        · exfalso
          revert hl
          unfold inB at i1 i2
          unfold mvok leftN loN hiN
          (repeat' split) <;> simp <;> omega
        · exact mov_row_ge_pttx c1 r1 c2 r2 at' n f1 g1 f2 g2 w i1 i2 a1 a2 n1 n2 (by omega) (by omega) (by omega) (by omega) (by omega)
      · by_cases h2 : at' ≤ r2
        · exfalso
          revert hl
          unfold inB at i1 i2
          unfold mvok leftN loN hiN
          (repeat' split) <;> simp <;> omega
        · exfalso
          revert hl
          unfold inB at i1 i2
          unfold mvok leftN loN hiN
          (repeat' split) <;> simp <;> omega
    · by_cases h1 : at' + -n ≤ r1
      · exfalso
        revert hl
        unfold inB at i1 i2
        unfold mvok leftN loN hiN
        (repeat' split) <;> simp <;> omega
      · by_cases h3 : at' ≤ r1
        · by_cases h2 : at' + -n ≤ r2
          · exfalso
            revert hl
            unfold inB at i1 i2
            unfold mvok leftN loN hiN
            (repeat' split) <;> simp <;> omega
          · exact mov_row_ge_tmm c1 r1 c2 r2 at' n f1 g1 f2 g2 w i1 i2 a1 a2 n1 n2 (by omega) (by omega) (by omega) (by omega)
        · by_cases h2 : at' + -n ≤ r2
          · exfalso
            revert hl
            unfold inB at i1 i2
            unfold mvok leftN loN hiN
            (repeat' split) <;> simp <;> omega
          · by_cases h4 : at' ≤ r2
            · exfalso
              revert hl
              unfold inB at i1 i2
              unfold mvok leftN loN hiN
              (repeat' split) <;> simp <;> omega
            · exfalso
              revert hl
              unfold inB at i1 i2
              unfold mvok leftN loN hiN
              (repeat' split) <;> simp <;> omega

end Go.Proofs.YtjbkjeabobccaadDoor
