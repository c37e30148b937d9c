import Derived.Test.YtjbkjeabobccaacDoorRefBounds2
import Derived.Deep.RegionWith
import Derived.BigRegion
namespace Go.Proofs.YtjbkjeabobccaacDoor
open Go.RowKit Go.Lib

set_option maxHeartbeats 400000 in
theorem given_at (c r : Int) (fc fr : Bool) (w : World) :
    Calls Tryd.prog 10 #[.agg #[.int .i64 c, .int .i64 r, .bool fc, .bool fr]] w fun e w' => e = .returned (.agg #[.int .i64 c, .int .i64 r, .bool fc, .bool fr]) ∧
      w' = (w.alloc (.cells #[.int .i64 c, .int .i64 r, .bool fc, .bool fr] 26)).alloc (.cells #[.int .i64 c, .int .i64 r, .bool fc, .bool fr] 23) := by
  go_enter Tryd.func10, Tryd.ntmps10
  go_wp2
  exact bodyPost_ret (v := .agg #[.int .i64 c, .int .i64 r, .bool fc, .bool fr]) (by simp [results, Tryd.results10, go_sem]) rfl ⟨rfl, rfl⟩

theorem below6 (w : World) (A B C D E F : Obj) : Below w.heap.size w ((((((w.alloc A).alloc B).alloc C).alloc D).alloc E).alloc F) :=
  ((((((Below.refl _ _).alloc (Nat.le_refl _) _).alloc (by simp) _).alloc (by simp; omega) _).alloc (by simp; omega) _).alloc (by simp; omega) _).alloc (by simp; omega) _

set_option maxHeartbeats 1000000 in
theorem area_any (c1 r1 c2 r2 : Int) (f1 g1 f2 g2 : Bool) (w : World) :
    Calls Tryd.prog 16 #[.agg #[.int .i64 c1, .int .i64 r1, .bool f1, .bool g1, .int .i64 c2, .int .i64 r2, .bool f2, .bool g2]] w fun e w' => e = .returned (.agg #[.int .i64 c1, .int .i64 r1, .bool f1, .bool g1, .int .i64 c2, .int .i64 r2, .bool f2, .bool g2]) ∧ Below w.heap.size w w' := by
  go_enter Tryd.func16, Tryd.ntmps16
  go_wp2_with fail
  go_region_with (go_at_call 10; refine (given_at _ _ _ _ _).mono ?_; rintro e w' ⟨rfl, rfl⟩)
  all_goals
    go_wp2_with fail
    exact bodyPost_ret (v := .agg #[.int .i64 c1, .int .i64 r1, .bool f1, .bool g1, .int .i64 c2, .int .i64 r2, .bool f2, .bool g2]) (by simp [results, Tryd.results16, go_sem]) rfl ⟨rfl, (below6 _ _ _ _ _ _ _).drew⟩

set_option maxHeartbeats 400000 in
theorem rOutside_in (c r : Int) (fc fr : Bool) (w : World) (h : inB c r) :
    Calls Tryd.prog 14 #[.agg #[.int .i64 c, .int .i64 r, .bool fc, .bool fr]] w fun e w' => e = .returned (.bool false) ∧ w' = w.alloc (.cells #[.int .i64 c, .int .i64 r, .bool fc, .bool fr] 26) := by
  obtain ⟨h1, h2, h3, h4⟩ := h
  have e1 : decide (c < 0) = false := by simp; omega
  have e2 : decide (64 ≤ c) = false := by simp; omega
  have e3 : decide (r < 0) = false := by simp; omega
  have e4 : decide (1024 ≤ r) = false := by simp; omega
  go_enter Tryd.func14, Tryd.ntmps14
  go_wp2
  go_ret
  exact ⟨by first | rfl | rw [e4], rfl⟩

set_option maxHeartbeats 400000 in
theorem rOutside_out (c r : Int) (fc fr : Bool) (w : World) (h : ¬ inB c r) :
    Calls Tryd.prog 14 #[.agg #[.int .i64 c, .int .i64 r, .bool fc, .bool fr]] w fun e w' => e = .returned (.bool true) ∧ Below w.heap.size w w' := by
  unfold inB at h
  by_cases h1 : c < 0
  · have e1 : decide (c < 0) = true := by simpa using h1
    go_enter Tryd.func14, Tryd.ntmps14
    go_wp2
    go_ret
    exact ⟨rfl, (Below.refl _ _).alloc (Nat.le_refl _) _⟩
  · have e1 : decide (c < 0) = false := by simpa using h1
    by_cases h2 : 64 ≤ c
    · have e2 : decide (64 ≤ c) = true := by simpa using h2
      go_enter Tryd.func14, Tryd.ntmps14
      go_wp2
      go_ret
      exact ⟨rfl, (Below.refl _ _).alloc (Nat.le_refl _) _⟩
    · have e2 : decide (64 ≤ c) = false := by simpa using h2
      by_cases h3 : r < 0
      · have e3 : decide (r < 0) = true := by simpa using h3
        go_enter Tryd.func14, Tryd.ntmps14
        go_wp2
        go_ret
        exact ⟨rfl, (Below.refl _ _).alloc (Nat.le_refl _) _⟩
      · have e3 : decide (r < 0) = false := by simpa using h3
        have e4 : decide (1024 ≤ r) = true := by simp; omega
        clear h
        go_enter Tryd.func14, Tryd.ntmps14
        go_wp2
        go_ret
        exact ⟨by first | rfl | rw [e4], (Below.refl _ _).alloc (Nat.le_refl _) _⟩
set_option maxHeartbeats 2000000 in
theorem rBounds_in (c1 r1 c2 r2 : Int) (f1 g1 f2 g2 : Bool) (w : World) (h1 : inB c1 r1) (h2 : inB c2 r2) :
    Calls Tryd.prog 17 #[.agg #[.int .i64 c1, .int .i64 r1, .bool f1, .bool g1, .int .i64 c2, .int .i64 r2, .bool f2, .bool g2]] w fun e w' => e = .returned (.tuple #[.int .i64 (min c1 c2), .int .i64 (min r1 r2), .int .i64 (max c1 c2), .int .i64 (max r1 r2)]) ∧ Below w.heap.size w w' := by
  have o1 : Hid (∀ w, _) := fun w => rOutside_in c1 r1 f1 g1 w h1
  have o2 : Hid (∀ w, _) := fun w => rOutside_in c2 r2 f2 g2 w h2
  go_enter Tryd.func17, Tryd.ntmps17
  go_wp2_with fail
  refine (o1.out _).mono ?_
  rintro e w' ⟨rfl, rfl⟩
  go_wp2_with fail
  refine (o2.out _).mono ?_
  rintro e w' ⟨rfl, rfl⟩
  go_wp2_with fail
  go_quiet (fail)
  go_wp2_with fail
  exact bodyPost_ret (v := .tuple #[.int .i64 (min c1 c2), .int .i64 (min r1 r2), .int .i64 (max c1 c2), .int .i64 (max r1 r2)]) (by simp [results, Tryd.results17, go_sem]) rfl ⟨rfl, below3 _ _ _ _ _⟩
set_option maxHeartbeats 1000000 in
theorem rBounds_out (c1 r1 c2 r2 : Int) (f1 g1 f2 g2 : Bool) (w : World) (h : ¬ (inB c1 r1 ∧ inB c2 r2)) :
    Calls Tryd.prog 17 #[.agg #[.int .i64 c1, .int .i64 r1, .bool f1, .bool g1, .int .i64 c2, .int .i64 r2, .bool f2, .bool g2]] w fun e w' => e = .returned (.tuple #[.int .i64 (-1), .int .i64 (-1), .int .i64 (-1), .int .i64 (-1)]) ∧ Below w.heap.size w w' := by
  by_cases h1 : inB c1 r1
  · have o1 : Hid (∀ w, _) := fun w => rOutside_in c1 r1 f1 g1 w h1
    have o2 : Hid (∀ w, _) := fun w => rOutside_out c2 r2 f2 g2 w (fun h2 => h ⟨h1, h2⟩)
    clear h h1
    go_enter Tryd.func17, Tryd.ntmps17
    go_wp2_with fail
    refine (o1.out _).mono ?_
    rintro e w' ⟨rfl, rfl⟩
    go_wp2_with fail
    refine (o2.out _).mono ?_
    rintro e w2 ⟨rfl, hb⟩
    go_wp2_with fail
    exact bodyPost_ret (v := .tuple #[.int .i64 (-1), .int .i64 (-1), .int .i64 (-1), .int .i64 (-1)]) (by simp [results, Tryd.results17, go_sem]) rfl ⟨rfl, (below2 _ _ _).trans (hb.mono (by simp; omega))⟩
  · have o1 : Hid (∀ w, _) := fun w => rOutside_out c1 r1 f1 g1 w h1
    clear h h1
    go_enter Tryd.func17, Tryd.ntmps17
    go_wp2_with fail
    refine (o1.out _).mono ?_
    rintro e w2 ⟨rfl, hb⟩
    go_wp2_with fail
    exact bodyPost_ret (v := .tuple #[.int .i64 (-1), .int .i64 (-1), .int .i64 (-1), .int .i64 (-1)]) (by simp [results, Tryd.results17, go_sem]) rfl ⟨rfl, ((Below.refl _ _).alloc (Nat.le_refl _) _).trans (hb.mono (by simp))⟩

/-- An area's bounds (D3). -/
def bdR (c1 r1 c2 r2 : Int) : Int × Int × Int × Int := if (0 ≤ c1 ∧ c1 < 64 ∧ 0 ≤ r1 ∧ r1 < 1024) ∧ (0 ≤ c2 ∧ c2 < 64 ∧ 0 ≤ r2 ∧ r2 < 1024) then (min c1 c2, min r1 r2, max c1 c2, max r1 r2) else (-1, -1, -1, -1)
theorem bounds_any (c1 r1 c2 r2 : Int) (f1 g1 f2 g2 : Bool) (w : World) :
    Calls Tryd.prog 15 #[.agg #[.int .i64 c1, .int .i64 r1, .bool f1, .bool g1, .int .i64 c2, .int .i64 r2, .bool f2, .bool g2]] w fun e w' => e = .returned (.tuple #[.int .i64 (bdR c1 r1 c2 r2).1, .int .i64 (bdR c1 r1 c2 r2).2.1, .int .i64 (bdR c1 r1 c2 r2).2.2.1, .int .i64 (bdR c1 r1 c2 r2).2.2.2]) ∧ Below w.heap.size w w' := by
  by_cases h : inB c1 r1 ∧ inB c2 r2
  · rw [show bdR c1 r1 c2 r2 = (min c1 c2, min r1 r2, max c1 c2, max r1 r2) from if_pos h]
    exact bounds_in c1 r1 c2 r2 f1 g1 f2 g2 w h.1 h.2
  · rw [show bdR c1 r1 c2 r2 = (-1, -1, -1, -1) from if_neg h]
    exact bounds_out c1 r1 c2 r2 f1 g1 f2 g2 w h
theorem rBounds_any (c1 r1 c2 r2 : Int) (f1 g1 f2 g2 : Bool) (w : World) :
    Calls Tryd.prog 17 #[.agg #[.int .i64 c1, .int .i64 r1, .bool f1, .bool g1, .int .i64 c2, .int .i64 r2, .bool f2, .bool g2]] w fun e w' => e = .returned (.tuple #[.int .i64 (bdR c1 r1 c2 r2).1, .int .i64 (bdR c1 r1 c2 r2).2.1, .int .i64 (bdR c1 r1 c2 r2).2.2.1, .int .i64 (bdR c1 r1 c2 r2).2.2.2]) ∧ Below w.heap.size w w' := by
  by_cases h : inB c1 r1 ∧ inB c2 r2
  · rw [show bdR c1 r1 c2 r2 = (min c1 c2, min r1 r2, max c1 c2, max r1 r2) from if_pos h]
    exact rBounds_in c1 r1 c2 r2 f1 g1 f2 g2 w h.1 h.2
  · rw [show bdR c1 r1 c2 r2 = (-1, -1, -1, -1) from if_neg h]
    exact rBounds_out c1 r1 c2 r2 f1 g1 f2 g2 w h
end Go.Proofs.YtjbkjeabobccaacDoor
