import Derived.Test.YtjbkjeabobccaadDoorRefKeptMath
import Derived.Test.YtjbkjeabobccaadDoorRefKeptBad
import Derived.Test.YtjbkjeabobccaadDoorRefKeptCol
import Derived.Test.YtjbkjeabobccaadDoorRefKeptRow
namespace Go.Proofs.YtjbkjeabobccaadDoor
open Go.RowKit Go.Lib
set_option linter.unusedVariables false

theorem bad_of {c1 r1 c2 r2 at' n : Int} {rows : Bool} (h : ¬ okM c1 r1 c2 r2 rows at' n) : (bdR c1 r1 c2 r2).1 < 0 ∨ at' < 0 ∨ sz rows ≤ at' ∨ n < -1024 ∨ 1024 < n := by
  by_cases k : inB c1 r1 ∧ inB c2 r2
  · refine Or.inr ?_
    rcases Int.lt_or_le at' 0 with q | q; · exact Or.inl q
    rcases Int.lt_or_le at' (sz rows) with p | p
    · rcases Int.lt_or_le n (-1024) with m | m; · exact Or.inr (Or.inr (Or.inl m))
      rcases Int.lt_or_le 1024 n with m' | m'; · exact Or.inr (Or.inr (Or.inr m'))
      exact absurd ⟨k, ⟨q, p⟩, m, m'⟩ h
    · exact Or.inr (Or.inl p)
  · exact Or.inl (by rw [show bdR c1 r1 c2 r2 = (-1, -1, -1, -1) from if_neg k]; decide)

theorem refKept_walk (c1 r1 c2 r2 at' n cell : Int) (f1 g1 f2 g2 rows : Bool) (w : World) :
    Calls Tryd.prog 3 #[.agg #[.int .i64 c1, .int .i64 r1, .bool f1, .bool g1, .int .i64 c2, .int .i64 r2, .bool f2, .bool g2], .bool rows, .int .i64 at', .int .i64 n, .int .i64 cell] w fun e w' => e = .returned (.bool true) ∧ Below w.heap.size w w' := by
  have ca : Hid (∀ w, _) := fun w => area_any c1 r1 c2 r2 f1 g1 f2 g2 w
  by_cases h : okM c1 r1 c2 r2 rows at' n
  · have h' := h
    obtain ⟨⟨i1, i2⟩, ⟨a1, a2⟩, n1, n2⟩ := h
    have hbd := bdR_in i1 i2
    have cb0 := fun w => bounds_any c1 r1 c2 r2 f1 g1 f2 g2 w
    rw [hbd] at cb0
    have j1 := i1
    have j2 := i2
    unfold inB at j1 j2
    cases rows
    · have a2' : at' < 64 := a2
      refine kept_good_col c1 r1 c2 r2 at' n cell f1 g1 f2 g2 w (min c1 c2) (min r1 r2) (max c1 c2) (max r1 r2) _ _ _ _ _ _ _ _ (movR c1 r1 c2 r2 f1 g1 f2 g2 false at' n).ok ca (fun w => moved_any c1 r1 c2 r2 at' n f1 g1 f2 g2 false w) cb0 ?_ ?_ (by omega) (by omega) (by omega) (by omega) (by omega) (by omega) (by omega) (by omega)
      · unfold Hid
        intro hn hf
        obtain ⟨m1, m2, m3, m4, ⟨m5, m6⟩, m7, m8⟩ := mv_back j1.1 j1.2.1 j2.1 j2.2.1 a1 hn hf
        rw [movR_col h' m1]
        refine ⟨rfl, fun w => ?_⟩
        have hm := moved_any (mvx c1 c2 at' n 64) r1 (mvy c1 c2 at' n 64) r2 at' (-n) f1 g1 f2 g2 false w
        rw [movR_col ⟨⟨⟨m5, m6, j1.2.2.1, j1.2.2.2⟩, ⟨m7, m8, j2.2.2.1, j2.2.2.2⟩⟩, ⟨a1, a2⟩, by omega, by omega⟩ m2, m3, m4] at hm
        exact hm
      · unfold Hid
        intro tv h1 h2 hh
        obtain ⟨m1, ⟨m5, m6⟩, ⟨m7, m8⟩, m9, m10⟩ := mv_kept j1.1 j1.2.1 j2.1 j2.2.1 a1 a2' h1 h2 hh
        rw [movR_col h' m1]
        refine ⟨rfl, _, _, _, _, fun w => bounds_any _ _ _ _ f1 g1 f2 g2 w, ?_⟩
        rw [bdR_in ⟨m5, m6, j1.2.2.1, j1.2.2.2⟩ ⟨m7, m8, j2.2.2.1, j2.2.2.2⟩]
        exact ⟨m9, m10, rfl, rfl⟩
    · have a2' : at' < 1024 := a2
      refine kept_good_row c1 r1 c2 r2 at' n cell f1 g1 f2 g2 w (min c1 c2) (min r1 r2) (max c1 c2) (max r1 r2) _ _ _ _ _ _ _ _ (movR c1 r1 c2 r2 f1 g1 f2 g2 true at' n).ok ca (fun w => moved_any c1 r1 c2 r2 at' n f1 g1 f2 g2 true w) cb0 ?_ ?_ (by omega) (by omega) (by omega) (by omega) (by omega) (by omega) (by omega) (by omega)
      · unfold Hid
        intro hn hf
        obtain ⟨m1, m2, m3, m4, ⟨m5, m6⟩, m7, m8⟩ := mv_back j1.2.2.1 j1.2.2.2 j2.2.2.1 j2.2.2.2 a1 hn hf
        rw [movR_row h' m1]
        refine ⟨rfl, fun w => ?_⟩
        have hm := moved_any c1 (mvx r1 r2 at' n 1024) c2 (mvy r1 r2 at' n 1024) at' (-n) f1 g1 f2 g2 true w
        rw [movR_row ⟨⟨⟨j1.1, j1.2.1, m5, m6⟩, ⟨j2.1, j2.2.1, m7, m8⟩⟩, ⟨a1, a2⟩, by omega, by omega⟩ m2, m3, m4] at hm
        exact hm
      · unfold Hid
        intro tv h1 h2 hh
        obtain ⟨m1, ⟨m5, m6⟩, ⟨m7, m8⟩, m9, m10⟩ := mv_kept j1.2.2.1 j1.2.2.2 j2.2.2.1 j2.2.2.2 a1 a2' h1 h2 hh
        rw [movR_row h' m1]
        refine ⟨rfl, _, _, _, _, fun w => bounds_any _ _ _ _ f1 g1 f2 g2 w, ?_⟩
        rw [bdR_in ⟨j1.1, j1.2.1, m5, m6⟩ ⟨j2.1, j2.2.1, m7, m8⟩]
        exact ⟨m9, m10, rfl, rfl⟩
  · have hbad := bad_of h
    have cm0 := fun w => moved_any c1 r1 c2 r2 at' n f1 g1 f2 g2 rows w
    rw [movR_out h] at cm0
    cases rows
    · exact kept_bad_col c1 r1 c2 r2 at' n cell f1 g1 f2 g2 w _ _ _ _ _ _ _ _ _ _ _ _ ca cm0 (fun w => bounds_any c1 r1 c2 r2 f1 g1 f2 g2 w) hbad
    · exact kept_bad_row c1 r1 c2 r2 at' n cell f1 g1 f2 g2 w _ _ _ _ _ _ _ _ _ _ _ _ ca cm0 (fun w => bounds_any c1 r1 c2 r2 f1 g1 f2 g2 w) hbad
end Go.Proofs.YtjbkjeabobccaadDoor
