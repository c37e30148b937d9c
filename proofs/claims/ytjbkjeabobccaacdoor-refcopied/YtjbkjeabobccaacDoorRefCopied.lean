import Derived.Test.YtjbkjeabobccaacDoorRefBounds3
namespace Go.Proofs.YtjbkjeabobccaacDoor
open Go.RowKit Go.Lib

set_option maxHeartbeats 400000 in
theorem outside_no (c r : Int) (fc fr : Bool) (w : World) (h : ¬ inB c r) :
    Calls Tryd.prog 26 #[.agg #[.int .i64 c, .int .i64 r, .bool fc, .bool fr]] w fun e w' => e = .returned (.bool true) ∧ w' = w.alloc (.cells #[.int .i64 c, .int .i64 r, .bool fc, .bool fr] 23) := by
  unfold inB at h
  by_cases h1 : c < 0
  · have e1 : decide (c < 0) = true := by simpa using h1
    go_enter Tryd.func26, Tryd.ntmps26
    go_wp2
    go_ret
    exact ⟨rfl, rfl⟩
  · have e1 : decide (c < 0) = false := by simpa using h1
    by_cases h2 : 64 ≤ c
    · have e2 : decide (64 ≤ c) = true := by simpa using h2
      go_enter Tryd.func26, Tryd.ntmps26
      go_wp2
      go_ret
      exact ⟨rfl, rfl⟩
    · have e2 : decide (64 ≤ c) = false := by simpa using h2
      by_cases h3 : r < 0
      · have e3 : decide (r < 0) = true := by simpa using h3
        go_enter Tryd.func26, Tryd.ntmps26
        go_wp2
        go_ret
        exact ⟨rfl, rfl⟩
      · have e3 : decide (r < 0) = false := by simpa using h3
        have e4 : decide (1024 ≤ r) = true := by simp; omega
        clear h
        go_enter Tryd.func26, Tryd.ntmps26
        go_wp2
        go_ret
        exact ⟨by first | rfl | rw [e4], rfl⟩
set_option maxHeartbeats 400000 in
theorem rOutside_no (c r : Int) (fc fr : Bool) (w : World) (h : ¬ inB c r) :
    Calls Tryd.prog 14 #[.agg #[.int .i64 c, .int .i64 r, .bool fc, .bool fr]] w fun e w' => e = .returned (.bool true) ∧ w' = w.alloc (.cells #[.int .i64 c, .int .i64 r, .bool fc, .bool fr] 26) := by
  unfold inB at h
  by_cases h1 : c < 0
  · have e1 : decide (c < 0) = true := by simpa using h1
    go_enter Tryd.func14, Tryd.ntmps14
    go_wp2
    go_ret
    exact ⟨rfl, rfl⟩
  · have e1 : decide (c < 0) = false := by simpa using h1
    by_cases h2 : 64 ≤ c
    · have e2 : decide (64 ≤ c) = true := by simpa using h2
      go_enter Tryd.func14, Tryd.ntmps14
      go_wp2
      go_ret
      exact ⟨rfl, rfl⟩
    · have e2 : decide (64 ≤ c) = false := by simpa using h2
      by_cases h3 : r < 0
      · have e3 : decide (r < 0) = true := by simpa using h3
        go_enter Tryd.func14, Tryd.ntmps14
        go_wp2
        go_ret
        exact ⟨rfl, rfl⟩
      · have e3 : decide (r < 0) = false := by simpa using h3
        have e4 : decide (1024 ≤ r) = true := by simp; omega
        clear h
        go_enter Tryd.func14, Tryd.ntmps14
        go_wp2
        go_ret
        exact ⟨by first | rfl | rw [e4], rfl⟩

/-- A cell's name copied (D4): its numbers further on, unless they are fixed. -/
def onC (c cols : Int) (f : Bool) : Int := if f then c else c + cols
def okC (c r cols rows : Int) (f g : Bool) : Prop := inB c r ∧ inB (onC c cols f) (onC r rows g)
def copR (c r cols rows : Int) (f g : Bool) : Int × Int × Bool × Bool × Bool :=
  if (0 ≤ c ∧ c < 64 ∧ 0 ≤ r ∧ r < 1024) ∧ (0 ≤ onC c cols f ∧ onC c cols f < 64 ∧ 0 ≤ onC r rows g ∧ onC r rows g < 1024) then (onC c cols f, onC r rows g, f, g, true) else (0, 0, false, false, false)
theorem copR_yes {c r cols rows : Int} {f g : Bool} (h : okC c r cols rows f g) : copR c r cols rows f g = (onC c cols f, onC r rows g, f, g, true) := if_pos h
theorem copR_no {c r cols rows : Int} {f g : Bool} (h : ¬ okC c r cols rows f g) : copR c r cols rows f g = (0, 0, false, false, false) := if_neg h
theorem wrap_in {x y m : Int} (hx : 0 ≤ x) (hx' : x < m) (hm : m ≤ 1024) (hy : -9223372036854775808 ≤ y) (hy' : y ≤ 9223372036854775807) : (0 ≤ wrap64 (x + y) ∧ wrap64 (x + y) < m) ↔ (0 ≤ x + y ∧ x + y < m) := by
  unfold wrap64
  omega
theorem wrap_eq {x y m : Int} (hm : m ≤ 1024) (h : 0 ≤ x + y ∧ x + y < m) : wrap64 (x + y) = x + y := by
  unfold wrap64
  omega

set_option maxHeartbeats 1000000 in
theorem cop_ff_yes (c r cols rows : Int) (w : World) (h : inB c r) (h' : inB (wrap64 (c + cols)) (wrap64 (r + rows))) :
    Calls Tryd.prog 18 #[.agg #[.int .i64 c, .int .i64 r, .bool false, .bool false], .int .i64 cols, .int .i64 rows] w fun e w' => e = .returned (.tuple #[.agg #[.int .i64 (wrap64 (c + cols)), .int .i64 (wrap64 (r + rows)), .bool false, .bool false], .bool true]) ∧ Below w.heap.size w w' := by
  have o1 : Hid (∀ w, _) := fun w => outside_in c r false false w h
  have o2 : Hid (∀ w, _) := fun w => outside_in (wrap64 (c + cols)) (wrap64 (r + rows)) false false w h'
  clear h h'
  go_enter Tryd.func18, Tryd.ntmps18
  go_wp2_with fail
  refine (o1.out _).mono ?_
  rintro e w' ⟨rfl, rfl⟩
  go_wp2_with fail
  refine (part_col _ _ _).mono ?_
  rintro e w' ⟨rfl, rfl⟩
  go_wp2_with fail
  refine (part_row _ _ _).mono ?_
  rintro e w' ⟨rfl, rfl⟩
  go_wp2_with fail
  refine (o2.out _).mono ?_
  rintro e w2 ⟨rfl, rfl⟩
  go_wp2_with fail
  refine bodyPost_ret (v := (.tuple #[.agg #[.int .i64 (wrap64 (c + cols)), .int .i64 (wrap64 (r + rows)), .bool false, .bool false], .bool true])) (by simp [results, Tryd.results18, go_sem]) rfl ⟨rfl, ?_⟩
  go_grown

set_option maxHeartbeats 1000000 in
theorem cop_ff_no (c r cols rows : Int) (w : World) (h : inB c r) (h' : ¬ inB (wrap64 (c + cols)) (wrap64 (r + rows))) :
    Calls Tryd.prog 18 #[.agg #[.int .i64 c, .int .i64 r, .bool false, .bool false], .int .i64 cols, .int .i64 rows] w fun e w' => e = .returned (.tuple #[.agg #[.int .i64 0, .int .i64 0, .bool false, .bool false], .bool false]) ∧ Below w.heap.size w w' := by
  have o1 : Hid (∀ w, _) := fun w => outside_in c r false false w h
  have o2 : Hid (∀ w, _) := fun w => outside_no (wrap64 (c + cols)) (wrap64 (r + rows)) false false w h'
  clear h h'
  go_enter Tryd.func18, Tryd.ntmps18
  go_wp2_with fail
  refine (o1.out _).mono ?_
  rintro e w' ⟨rfl, rfl⟩
  go_wp2_with fail
  refine (part_col _ _ _).mono ?_
  rintro e w' ⟨rfl, rfl⟩
  go_wp2_with fail
  refine (part_row _ _ _).mono ?_
  rintro e w' ⟨rfl, rfl⟩
  go_wp2_with fail
  refine (o2.out _).mono ?_
  rintro e w2 ⟨rfl, rfl⟩
  go_wp2_with fail
  refine bodyPost_ret (v := (.tuple #[.agg #[.int .i64 0, .int .i64 0, .bool false, .bool false], .bool false])) (by simp [results, Tryd.results18, go_sem]) rfl ⟨rfl, ?_⟩
  go_grown

set_option maxHeartbeats 1000000 in
theorem cop_ft_yes (c r cols rows : Int) (w : World) (h : inB c r) (h' : inB (wrap64 (c + cols)) (r)) :
    Calls Tryd.prog 18 #[.agg #[.int .i64 c, .int .i64 r, .bool false, .bool true], .int .i64 cols, .int .i64 rows] w fun e w' => e = .returned (.tuple #[.agg #[.int .i64 (wrap64 (c + cols)), .int .i64 (r), .bool false, .bool true], .bool true]) ∧ Below w.heap.size w w' := by
  have o1 : Hid (∀ w, _) := fun w => outside_in c r false true w h
  have o2 : Hid (∀ w, _) := fun w => outside_in (wrap64 (c + cols)) (r) false true w h'
  clear h h'
  go_enter Tryd.func18, Tryd.ntmps18
  go_wp2_with fail
  refine (o1.out _).mono ?_
  rintro e w' ⟨rfl, rfl⟩
  go_wp2_with fail
  refine (part_col _ _ _).mono ?_
  rintro e w' ⟨rfl, rfl⟩
  go_wp2_with fail
  refine (o2.out _).mono ?_
  rintro e w2 ⟨rfl, rfl⟩
  go_wp2_with fail
  refine bodyPost_ret (v := (.tuple #[.agg #[.int .i64 (wrap64 (c + cols)), .int .i64 (r), .bool false, .bool true], .bool true])) (by simp [results, Tryd.results18, go_sem]) rfl ⟨rfl, ?_⟩
  go_grown

set_option maxHeartbeats 1000000 in
theorem cop_ft_no (c r cols rows : Int) (w : World) (h : inB c r) (h' : ¬ inB (wrap64 (c + cols)) (r)) :
    Calls Tryd.prog 18 #[.agg #[.int .i64 c, .int .i64 r, .bool false, .bool true], .int .i64 cols, .int .i64 rows] w fun e w' => e = .returned (.tuple #[.agg #[.int .i64 0, .int .i64 0, .bool false, .bool false], .bool false]) ∧ Below w.heap.size w w' := by
  have o1 : Hid (∀ w, _) := fun w => outside_in c r false true w h
  have o2 : Hid (∀ w, _) := fun w => outside_no (wrap64 (c + cols)) (r) false true w h'
  clear h h'
  go_enter Tryd.func18, Tryd.ntmps18
  go_wp2_with fail
  refine (o1.out _).mono ?_
  rintro e w' ⟨rfl, rfl⟩
  go_wp2_with fail
  refine (part_col _ _ _).mono ?_
  rintro e w' ⟨rfl, rfl⟩
  go_wp2_with fail
  refine (o2.out _).mono ?_
  rintro e w2 ⟨rfl, rfl⟩
  go_wp2_with fail
  refine bodyPost_ret (v := (.tuple #[.agg #[.int .i64 0, .int .i64 0, .bool false, .bool false], .bool false])) (by simp [results, Tryd.results18, go_sem]) rfl ⟨rfl, ?_⟩
  go_grown

set_option maxHeartbeats 1000000 in
theorem cop_tf_yes (c r cols rows : Int) (w : World) (h : inB c r) (h' : inB (c) (wrap64 (r + rows))) :
    Calls Tryd.prog 18 #[.agg #[.int .i64 c, .int .i64 r, .bool true, .bool false], .int .i64 cols, .int .i64 rows] w fun e w' => e = .returned (.tuple #[.agg #[.int .i64 (c), .int .i64 (wrap64 (r + rows)), .bool true, .bool false], .bool true]) ∧ Below w.heap.size w w' := by
  have o1 : Hid (∀ w, _) := fun w => outside_in c r true false w h
  have o2 : Hid (∀ w, _) := fun w => outside_in (c) (wrap64 (r + rows)) true false w h'
  clear h h'
  go_enter Tryd.func18, Tryd.ntmps18
  go_wp2_with fail
  refine (o1.out _).mono ?_
  rintro e w' ⟨rfl, rfl⟩
  go_wp2_with fail
  refine (part_row _ _ _).mono ?_
  rintro e w' ⟨rfl, rfl⟩
  go_wp2_with fail
  refine (o2.out _).mono ?_
  rintro e w2 ⟨rfl, rfl⟩
  go_wp2_with fail
  refine bodyPost_ret (v := (.tuple #[.agg #[.int .i64 (c), .int .i64 (wrap64 (r + rows)), .bool true, .bool false], .bool true])) (by simp [results, Tryd.results18, go_sem]) rfl ⟨rfl, ?_⟩
  go_grown

set_option maxHeartbeats 1000000 in
theorem cop_tf_no (c r cols rows : Int) (w : World) (h : inB c r) (h' : ¬ inB (c) (wrap64 (r + rows))) :
    Calls Tryd.prog 18 #[.agg #[.int .i64 c, .int .i64 r, .bool true, .bool false], .int .i64 cols, .int .i64 rows] w fun e w' => e = .returned (.tuple #[.agg #[.int .i64 0, .int .i64 0, .bool false, .bool false], .bool false]) ∧ Below w.heap.size w w' := by
  have o1 : Hid (∀ w, _) := fun w => outside_in c r true false w h
  have o2 : Hid (∀ w, _) := fun w => outside_no (c) (wrap64 (r + rows)) true false w h'
  clear h h'
  go_enter Tryd.func18, Tryd.ntmps18
  go_wp2_with fail
  refine (o1.out _).mono ?_
  rintro e w' ⟨rfl, rfl⟩
  go_wp2_with fail
  refine (part_row _ _ _).mono ?_
  rintro e w' ⟨rfl, rfl⟩
  go_wp2_with fail
  refine (o2.out _).mono ?_
  rintro e w2 ⟨rfl, rfl⟩
  go_wp2_with fail
  refine bodyPost_ret (v := (.tuple #[.agg #[.int .i64 0, .int .i64 0, .bool false, .bool false], .bool false])) (by simp [results, Tryd.results18, go_sem]) rfl ⟨rfl, ?_⟩
  go_grown

set_option maxHeartbeats 1000000 in
theorem cop_tt_yes (c r cols rows : Int) (w : World) (h : inB c r) (h' : inB (c) (r)) :
    Calls Tryd.prog 18 #[.agg #[.int .i64 c, .int .i64 r, .bool true, .bool true], .int .i64 cols, .int .i64 rows] w fun e w' => e = .returned (.tuple #[.agg #[.int .i64 (c), .int .i64 (r), .bool true, .bool true], .bool true]) ∧ Below w.heap.size w w' := by
  have o1 : Hid (∀ w, _) := fun w => outside_in c r true true w h
  have o2 : Hid (∀ w, _) := fun w => outside_in (c) (r) true true w h'
  clear h h'
  go_enter Tryd.func18, Tryd.ntmps18
  go_wp2_with fail
  refine (o1.out _).mono ?_
  rintro e w' ⟨rfl, rfl⟩
  go_wp2_with fail
  refine (o2.out _).mono ?_
  rintro e w2 ⟨rfl, rfl⟩
  go_wp2_with fail
  refine bodyPost_ret (v := (.tuple #[.agg #[.int .i64 (c), .int .i64 (r), .bool true, .bool true], .bool true])) (by simp [results, Tryd.results18, go_sem]) rfl ⟨rfl, ?_⟩
  go_grown

set_option maxHeartbeats 1000000 in
theorem cop_tt_no (c r cols rows : Int) (w : World) (h : inB c r) (h' : ¬ inB (c) (r)) :
    Calls Tryd.prog 18 #[.agg #[.int .i64 c, .int .i64 r, .bool true, .bool true], .int .i64 cols, .int .i64 rows] w fun e w' => e = .returned (.tuple #[.agg #[.int .i64 0, .int .i64 0, .bool false, .bool false], .bool false]) ∧ Below w.heap.size w w' := by
  have o1 : Hid (∀ w, _) := fun w => outside_in c r true true w h
  have o2 : Hid (∀ w, _) := fun w => outside_no (c) (r) true true w h'
  clear h h'
  go_enter Tryd.func18, Tryd.ntmps18
  go_wp2_with fail
  refine (o1.out _).mono ?_
  rintro e w' ⟨rfl, rfl⟩
  go_wp2_with fail
  refine (o2.out _).mono ?_
  rintro e w2 ⟨rfl, rfl⟩
  go_wp2_with fail
  refine bodyPost_ret (v := (.tuple #[.agg #[.int .i64 0, .int .i64 0, .bool false, .bool false], .bool false])) (by simp [results, Tryd.results18, go_sem]) rfl ⟨rfl, ?_⟩
  go_grown

set_option maxHeartbeats 1000000 in
theorem cop_out (c r cols rows : Int) (f g : Bool) (w : World) (h : ¬ inB c r) :
    Calls Tryd.prog 18 #[.agg #[.int .i64 c, .int .i64 r, .bool f, .bool g], .int .i64 cols, .int .i64 rows] w fun e w' => e = .returned (.tuple #[.agg #[.int .i64 0, .int .i64 0, .bool false, .bool false], .bool false]) ∧ Below w.heap.size w w' := by
  have o1 : Hid (∀ w, _) := fun w => outside_no c r f g w h
  clear h
  go_enter Tryd.func18, Tryd.ntmps18
  go_wp2_with fail
  refine (o1.out _).mono ?_
  rintro e w' ⟨rfl, rfl⟩
  go_wp2_with fail
  refine bodyPost_ret (v := (.tuple #[.agg #[.int .i64 0, .int .i64 0, .bool false, .bool false], .bool false])) (by simp [results, Tryd.results18, go_sem]) rfl ⟨rfl, ?_⟩
  go_grown

theorem copied_any (c r cols rows : Int) (f g : Bool) (w : World) (hc : -9223372036854775808 ≤ cols) (hc' : cols ≤ 9223372036854775807) (hr : -9223372036854775808 ≤ rows) (hr' : rows ≤ 9223372036854775807) :
    Calls Tryd.prog 18 #[.agg #[.int .i64 c, .int .i64 r, .bool f, .bool g], .int .i64 cols, .int .i64 rows] w fun e w' => e = .returned (.tuple #[.agg #[.int .i64 (copR c r cols rows f g).1, .int .i64 (copR c r cols rows f g).2.1, .bool (copR c r cols rows f g).2.2.1, .bool (copR c r cols rows f g).2.2.2.1], .bool (copR c r cols rows f g).2.2.2.2]) ∧ Below w.heap.size w w' := by
  by_cases h : inB c r
  · have h0 := h
    unfold inB at h0
    have kc := @wrap_in c cols 64 h0.1 h0.2.1 (by omega) hc hc'
    have kr := @wrap_in r rows 1024 h0.2.2.1 h0.2.2.2 (by omega) hr hr'
    by_cases h' : inB (onC c cols f) (onC r rows g)
    · rw [copR_yes ⟨h, h'⟩]
      have h1 := h'
      unfold inB at h1
      cases f <;> cases g <;> simp only [onC, Bool.false_eq_true, if_false, if_true] at h1 h' ⊢
      · have := cop_ff_yes c r cols rows w h (by unfold inB; omega)
        rw [@wrap_eq c cols 64 (by omega) ⟨h1.1, h1.2.1⟩, @wrap_eq r rows 1024 (by omega) ⟨h1.2.2.1, h1.2.2.2⟩] at this
        exact this
      · have := cop_ft_yes c r cols rows w h (by unfold inB; omega)
        rw [@wrap_eq c cols 64 (by omega) ⟨h1.1, h1.2.1⟩] at this
        exact this
      · have := cop_tf_yes c r cols rows w h (by unfold inB; omega)
        rw [@wrap_eq r rows 1024 (by omega) ⟨h1.2.2.1, h1.2.2.2⟩] at this
        exact this
      · have := cop_tt_yes c r cols rows w h (by unfold inB; omega)
        exact this
    · rw [copR_no (fun hh => h' hh.2)]
      have h1 := h'
      unfold inB at h1
      cases f <;> cases g <;> simp only [onC, Bool.false_eq_true, if_false, if_true] at h1 ⊢
      · exact cop_ff_no c r cols rows w h (by unfold inB; omega)
      · exact cop_ft_no c r cols rows w h (by unfold inB; omega)
      · exact cop_tf_no c r cols rows w h (by unfold inB; omega)
      · exact cop_tt_no c r cols rows w h (by unfold inB; omega)
  · rw [copR_no (fun hh => h hh.1)]
    exact cop_out c r cols rows f g w h
end Go.Proofs.YtjbkjeabobccaacDoor
