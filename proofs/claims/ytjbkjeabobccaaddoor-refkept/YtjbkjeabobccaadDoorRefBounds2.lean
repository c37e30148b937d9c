import Derived.Test.YtjbkjeabobccaadDoorRefBounds
namespace Go.Proofs.YtjbkjeabobccaadDoor
open Go.RowKit Go.Lib

theorem below3 (w : World) (A B C : Obj) (n : Nat) : Below w.heap.size w ((((w.alloc A).alloc B).alloc C).drewN n) :=
  bdrew ((((Below.refl _ _).alloc (Nat.le_refl _) _).alloc (by simp) _).alloc (by simp; omega) _) n

set_option maxHeartbeats 2000000 in
theorem bounds_in (c1 r1 c2 r2 : Int) (f1 g1 f2 g2 : Bool) (w : World) (h1 : inB c1 r1) (h2 : inB c2 r2) :
    Calls Tryd.prog 6 #[.agg #[.int .i64 c1, .int .i64 r1, .bool f1, .bool g1, .int .i64 c2, .int .i64 r2, .bool f2, .bool g2]] w fun e w' => e = .returned (.tuple #[.int .i64 (min c1 c2), .int .i64 (min r1 r2), .int .i64 (max c1 c2), .int .i64 (max r1 r2)]) ∧ Below w.heap.size w w' := by
  have o1 : Hid (∀ w, _) := fun w => outside_in c1 r1 f1 g1 w h1
  have o2 : Hid (∀ w, _) := fun w => outside_in c2 r2 f2 g2 w h2
  by_cases hc : c2 < c1
  · by_cases hr : r2 < r1
    · rw [show min c1 c2 = c2 by omega, show max c1 c2 = c1 by omega, show min r1 r2 = r2 by omega, show max r1 r2 = r1 by omega]
      go_enter Tryd.func6, Tryd.ntmps6
      go_wp2_with fail
      refine (o1.out _).mono ?_
      rintro e w' ⟨rfl, rfl⟩
      go_wp2_with fail
      refine (o2.out _).mono ?_
      rintro e w' ⟨rfl, rfl⟩
      go_wp2_with fail
      refine (ends_col_lt _ c1 c2 _ (by go_simp) (by go_simp) (by omega)).mono ?_
      rintro e w' ⟨rfl, n1, rfl⟩
      go_wp2_with fail
      refine (ends_row_lt _ r1 r2 _ (by go_simp) (by go_simp) (by omega)).mono ?_
      rintro e w' ⟨rfl, n2, rfl⟩
      go_wp2_with fail
      go_quiet (fail)
      go_wp2_with fail
      simp only [World.drewN_drewN]
      exact bodyPost_ret (v := .tuple #[.int .i64 c2, .int .i64 r2, .int .i64 c1, .int .i64 r1]) (by simp [results, Tryd.results6, go_sem]) rfl ⟨rfl, below3 _ _ _ _ _⟩
    · rw [show min c1 c2 = c2 by omega, show max c1 c2 = c1 by omega, show min r1 r2 = r1 by omega, show max r1 r2 = r2 by omega]
      go_enter Tryd.func6, Tryd.ntmps6
      go_wp2_with fail
      refine (o1.out _).mono ?_
      rintro e w' ⟨rfl, rfl⟩
      go_wp2_with fail
      refine (o2.out _).mono ?_
      rintro e w' ⟨rfl, rfl⟩
      go_wp2_with fail
      refine (ends_col_lt _ c1 c2 _ (by go_simp) (by go_simp) (by omega)).mono ?_
      rintro e w' ⟨rfl, n1, rfl⟩
      go_wp2_with fail
      refine (ends_row_ge _ r1 r2 _ (by go_simp) (by go_simp) (by omega)).mono ?_
      rintro e w' ⟨rfl, n2, rfl⟩
      go_wp2_with fail
      go_quiet (fail)
      go_wp2_with fail
      simp only [World.drewN_drewN]
      exact bodyPost_ret (v := .tuple #[.int .i64 c2, .int .i64 r1, .int .i64 c1, .int .i64 r2]) (by simp [results, Tryd.results6, go_sem]) rfl ⟨rfl, below3 _ _ _ _ _⟩
  · by_cases hr : r2 < r1
    · rw [show min c1 c2 = c1 by omega, show max c1 c2 = c2 by omega, show min r1 r2 = r2 by omega, show max r1 r2 = r1 by omega]
      go_enter Tryd.func6, Tryd.ntmps6
      go_wp2_with fail
      refine (o1.out _).mono ?_
      rintro e w' ⟨rfl, rfl⟩
      go_wp2_with fail
      refine (o2.out _).mono ?_
      rintro e w' ⟨rfl, rfl⟩
      go_wp2_with fail
      refine (ends_col_ge _ c1 c2 _ (by go_simp) (by go_simp) (by omega)).mono ?_
      rintro e w' ⟨rfl, n1, rfl⟩
      go_wp2_with fail
      refine (ends_row_lt _ r1 r2 _ (by go_simp) (by go_simp) (by omega)).mono ?_
      rintro e w' ⟨rfl, n2, rfl⟩
      go_wp2_with fail
      go_quiet (fail)
      go_wp2_with fail
      simp only [World.drewN_drewN]
      exact bodyPost_ret (v := .tuple #[.int .i64 c1, .int .i64 r2, .int .i64 c2, .int .i64 r1]) (by simp [results, Tryd.results6, go_sem]) rfl ⟨rfl, below3 _ _ _ _ _⟩
    · rw [show min c1 c2 = c1 by omega, show max c1 c2 = c2 by omega, show min r1 r2 = r1 by omega, show max r1 r2 = r2 by omega]
      go_enter Tryd.func6, Tryd.ntmps6
      go_wp2_with fail
      refine (o1.out _).mono ?_
      rintro e w' ⟨rfl, rfl⟩
      go_wp2_with fail
      refine (o2.out _).mono ?_
      rintro e w' ⟨rfl, rfl⟩
      go_wp2_with fail
      refine (ends_col_ge _ c1 c2 _ (by go_simp) (by go_simp) (by omega)).mono ?_
      rintro e w' ⟨rfl, n1, rfl⟩
      go_wp2_with fail
      refine (ends_row_ge _ r1 r2 _ (by go_simp) (by go_simp) (by omega)).mono ?_
      rintro e w' ⟨rfl, n2, rfl⟩
      go_wp2_with fail
      go_quiet (fail)
      go_wp2_with fail
      simp only [World.drewN_drewN]
      exact bodyPost_ret (v := .tuple #[.int .i64 c1, .int .i64 r1, .int .i64 c2, .int .i64 r2]) (by simp [results, Tryd.results6, go_sem]) rfl ⟨rfl, below3 _ _ _ _ _⟩

theorem below2 (w : World) (A B : Obj) : Below w.heap.size w ((w.alloc A).alloc B) := ((Below.refl _ _).alloc (Nat.le_refl _) _).alloc (by simp) _

set_option maxHeartbeats 1000000 in
theorem bounds_out (c1 r1 c2 r2 : Int) (f1 g1 f2 g2 : Bool) (w : World) (h : ¬ (inB c1 r1 ∧ inB c2 r2)) :
    Calls Tryd.prog 6 #[.agg #[.int .i64 c1, .int .i64 r1, .bool f1, .bool g1, .int .i64 c2, .int .i64 r2, .bool f2, .bool g2]] w fun e w' => e = .returned (.tuple #[.int .i64 (-1), .int .i64 (-1), .int .i64 (-1), .int .i64 (-1)]) ∧ Below w.heap.size w w' := by
  by_cases h1 : inB c1 r1
  · have o1 : Hid (∀ w, _) := fun w => outside_in c1 r1 f1 g1 w h1
    have o2 : Hid (∀ w, _) := fun w => outside_out c2 r2 f2 g2 w (fun h2 => h ⟨h1, h2⟩)
    clear h h1
    go_enter Tryd.func6, Tryd.ntmps6
    go_wp2_with fail
    refine (o1.out _).mono ?_
    rintro e w' ⟨rfl, rfl⟩
    go_wp2_with fail
    refine (o2.out _).mono ?_
    rintro e w2 ⟨rfl, hb⟩
    go_wp2_with fail
    exact bodyPost_ret (v := .tuple #[.int .i64 (-1), .int .i64 (-1), .int .i64 (-1), .int .i64 (-1)]) (by simp [results, Tryd.results6, go_sem]) rfl ⟨rfl, (below2 _ _ _).trans (hb.mono (by simp; omega))⟩
  · have o1 : Hid (∀ w, _) := fun w => outside_out c1 r1 f1 g1 w h1
    clear h h1
    go_enter Tryd.func6, Tryd.ntmps6
    go_wp2_with fail
    refine (o1.out _).mono ?_
    rintro e w2 ⟨rfl, hb⟩
    go_wp2_with fail
    exact bodyPost_ret (v := .tuple #[.int .i64 (-1), .int .i64 (-1), .int .i64 (-1), .int .i64 (-1)]) (by simp [results, Tryd.results6, go_sem]) rfl ⟨rfl, ((Below.refl _ _).alloc (Nat.le_refl _) _).trans (hb.mono (by simp))⟩
end Go.Proofs.YtjbkjeabobccaadDoor
