import Derived.Test.YtjbkjeabobccaadDoorRefBounds2
import Derived.Deep.RegionWith
import Derived.BigRegion
namespace Go.Proofs.YtjbkjeabobccaadDoor
open Go.RowKit Go.Lib

set_option maxHeartbeats 400000 in
theorem given_at (c r : Int) (fc fr : Bool) (w : World) :
    Calls Tryd.prog 13 #[.agg #[.int .i64 c, .int .i64 r, .bool fc, .bool fr]] w fun e w' => e = .returned (.agg #[.int .i64 c, .int .i64 r, .bool fc, .bool fr]) ∧
      w' = (w.alloc (.cells #[.int .i64 c, .int .i64 r, .bool fc, .bool fr] 23)).alloc (.cells #[.int .i64 c, .int .i64 r, .bool fc, .bool fr] 26) := by
  go_enter Tryd.func13, Tryd.ntmps13
  go_wp2
  exact bodyPost_ret (v := .agg #[.int .i64 c, .int .i64 r, .bool fc, .bool fr]) (by simp [results, Tryd.results13, go_sem]) rfl ⟨rfl, rfl⟩

theorem below6 (w : World) (A B C D E F : Obj) : Below w.heap.size w ((((((w.alloc A).alloc B).alloc C).alloc D).alloc E).alloc F) :=
  ((((((Below.refl _ _).alloc (Nat.le_refl _) _).alloc (by simp) _).alloc (by simp; omega) _).alloc (by simp; omega) _).alloc (by simp; omega) _).alloc (by simp; omega) _

set_option maxHeartbeats 1000000 in
theorem area_any (c1 r1 c2 r2 : Int) (f1 g1 f2 g2 : Bool) (w : World) :
    Calls Tryd.prog 5 #[.agg #[.int .i64 c1, .int .i64 r1, .bool f1, .bool g1, .int .i64 c2, .int .i64 r2, .bool f2, .bool g2]] w fun e w' => e = .returned (.agg #[.int .i64 c1, .int .i64 r1, .bool f1, .bool g1, .int .i64 c2, .int .i64 r2, .bool f2, .bool g2]) ∧ Below w.heap.size w w' := by
  go_enter Tryd.func5, Tryd.ntmps5
  go_wp2_with fail
  go_region_with (go_at_call 13; refine (given_at _ _ _ _ _).mono ?_; rintro e w' ⟨rfl, rfl⟩)
  all_goals
    go_wp2_with fail
    exact bodyPost_ret (v := .agg #[.int .i64 c1, .int .i64 r1, .bool f1, .bool g1, .int .i64 c2, .int .i64 r2, .bool f2, .bool g2]) (by simp [results, Tryd.results5, go_sem]) rfl ⟨rfl, (below6 _ _ _ _ _ _ _).drew⟩

/-- An area's bounds (D3). -/
def bdR (c1 r1 c2 r2 : Int) : Int × Int × Int × Int := if (0 ≤ c1 ∧ c1 < 64 ∧ 0 ≤ r1 ∧ r1 < 1024) ∧ (0 ≤ c2 ∧ c2 < 64 ∧ 0 ≤ r2 ∧ r2 < 1024) then (min c1 c2, min r1 r2, max c1 c2, max r1 r2) else (-1, -1, -1, -1)
theorem bounds_any (c1 r1 c2 r2 : Int) (f1 g1 f2 g2 : Bool) (w : World) :
    Calls Tryd.prog 6 #[.agg #[.int .i64 c1, .int .i64 r1, .bool f1, .bool g1, .int .i64 c2, .int .i64 r2, .bool f2, .bool g2]] w fun e w' => e = .returned (.tuple #[.int .i64 (bdR c1 r1 c2 r2).1, .int .i64 (bdR c1 r1 c2 r2).2.1, .int .i64 (bdR c1 r1 c2 r2).2.2.1, .int .i64 (bdR c1 r1 c2 r2).2.2.2]) ∧ Below w.heap.size w w' := by
  by_cases h : inB c1 r1 ∧ inB c2 r2
  · rw [show bdR c1 r1 c2 r2 = (min c1 c2, min r1 r2, max c1 c2, max r1 r2) from if_pos h]
    exact bounds_in c1 r1 c2 r2 f1 g1 f2 g2 w h.1 h.2
  · rw [show bdR c1 r1 c2 r2 = (-1, -1, -1, -1) from if_neg h]
    exact bounds_out c1 r1 c2 r2 f1 g1 f2 g2 w h
end Go.Proofs.YtjbkjeabobccaadDoor
