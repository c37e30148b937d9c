import Derived.Test.YtjbkjeabobccaacDoorRefCopied
namespace Go.Proofs.YtjbkjeabobccaacDoor
open Go.RowKit Go.Lib

def fur (n b size : Int) : Int := if b < -size ∨ size < b then -1 else wrap64 (n + b)
set_option maxHeartbeats 400000 in
theorem further_any (n b size : Int) (w : World) (h0 : 0 ≤ size) (h1 : size ≤ 1024) :
    Calls Tryd.prog 34 #[.int .i64 n, .int .i64 b, .int .i64 size] w fun e w' => e = .returned (.int .i64 (fur n b size)) ∧ w' = w := by
  by_cases h2 : b < -size
  · rw [show fur n b size = -1 from if_pos (.inl h2)]
    go_enter Tryd.func34, Tryd.ntmps34
    go_wp2
    go_ret
    exact ⟨rfl, rfl⟩
  · by_cases h3 : size < b
    · rw [show fur n b size = -1 from if_pos (.inr h3)]
      go_enter Tryd.func34, Tryd.ntmps34
      go_wp2
      go_ret
      exact ⟨rfl, rfl⟩
    · rw [show fur n b size = wrap64 (n + b) from if_neg (by omega)]
      go_enter Tryd.func34, Tryd.ntmps34
      go_wp2
      go_ret
      exact ⟨rfl, rfl⟩
theorem fur_in {x y m : Int} (hx : 0 ≤ x) (hx' : x < m) (hm : m ≤ 1024) : (0 ≤ fur x y m ∧ fur x y m < m) ↔ (0 ≤ x + y ∧ x + y < m) := by
  unfold fur wrap64
  split <;> omega
theorem fur_eq {x y m : Int} (hx : 0 ≤ x) (hx' : x < m) (hm : m ≤ 1024) (h : 0 ≤ x + y ∧ x + y < m) : fur x y m = x + y := by
  unfold fur wrap64
  rw [if_neg (by omega)]
  omega

set_option maxHeartbeats 1000000 in
theorem rcop_ff_yes (c r cols rows x y : Int) (ex : fur c cols 64 = x) (ey : fur r rows 1024 = y) (w : World) (h : inB c r) (h' : inB x y) :
    Calls Tryd.prog 19 #[.agg #[.int .i64 c, .int .i64 r, .bool false, .bool false], .int .i64 cols, .int .i64 rows] w fun e w' => e = .returned (.tuple #[.agg #[.int .i64 x, .int .i64 y, .bool false, .bool false], .bool true]) ∧ Below w.heap.size w w' := by
  have o1 : Hid (∀ w, _) := fun w => rOutside_in c r false false w h
  have o2 : Hid (∀ w, _) := fun w => rOutside_in x y false false w h'
  have c1 : Hid (∀ w, Calls Tryd.prog 34 #[.int .i64 c, .int .i64 cols, .int .i64 64] w fun e w' => e = .returned (.int .i64 x) ∧ w' = w) := fun w => by rw [← ex]; exact further_any c cols 64 w (by omega) (by omega)
  have c2 : Hid (∀ w, Calls Tryd.prog 34 #[.int .i64 r, .int .i64 rows, .int .i64 1024] w fun e w' => e = .returned (.int .i64 y) ∧ w' = w) := fun w => by rw [← ey]; exact further_any r rows 1024 w (by omega) (by omega)
  clear h h' ex ey
  go_enter Tryd.func19, Tryd.ntmps19
  go_wp2_with fail
  refine (c1.out _).mono ?_
  rintro e w' ⟨rfl, rfl⟩
  go_wp2_with fail
  refine (c2.out _).mono ?_
  rintro e w' ⟨rfl, rfl⟩
  go_wp2_with fail
  refine (o1.out _).mono ?_
  rintro e w' ⟨rfl, rfl⟩
  go_wp2_with fail
  refine (o2.out _).mono ?_
  rintro e w' ⟨rfl, rfl⟩
  go_wp2_with fail
  refine bodyPost_ret (v := (.tuple #[.agg #[.int .i64 x, .int .i64 y, .bool false, .bool false], .bool true])) (by simp [results, Tryd.results19, go_sem]) rfl ⟨rfl, ?_⟩
  go_grown

set_option maxHeartbeats 1000000 in
theorem rcop_ff_no (c r cols rows x y : Int) (ex : fur c cols 64 = x) (ey : fur r rows 1024 = y) (w : World) (h : inB c r) (h' : ¬ inB x y) :
    Calls Tryd.prog 19 #[.agg #[.int .i64 c, .int .i64 r, .bool false, .bool false], .int .i64 cols, .int .i64 rows] w fun e w' => e = .returned (.tuple #[.agg #[.int .i64 0, .int .i64 0, .bool false, .bool false], .bool false]) ∧ Below w.heap.size w w' := by
  have o1 : Hid (∀ w, _) := fun w => rOutside_in c r false false w h
  have o2 : Hid (∀ w, _) := fun w => rOutside_no x y false false w h'
  have c1 : Hid (∀ w, Calls Tryd.prog 34 #[.int .i64 c, .int .i64 cols, .int .i64 64] w fun e w' => e = .returned (.int .i64 x) ∧ w' = w) := fun w => by rw [← ex]; exact further_any c cols 64 w (by omega) (by omega)
  have c2 : Hid (∀ w, Calls Tryd.prog 34 #[.int .i64 r, .int .i64 rows, .int .i64 1024] w fun e w' => e = .returned (.int .i64 y) ∧ w' = w) := fun w => by rw [← ey]; exact further_any r rows 1024 w (by omega) (by omega)
  clear h h' ex ey
  go_enter Tryd.func19, Tryd.ntmps19
  go_wp2_with fail
  refine (c1.out _).mono ?_
  rintro e w' ⟨rfl, rfl⟩
  go_wp2_with fail
  refine (c2.out _).mono ?_
  rintro e w' ⟨rfl, rfl⟩
  go_wp2_with fail
  refine (o1.out _).mono ?_
  rintro e w' ⟨rfl, rfl⟩
  go_wp2_with fail
  refine (o2.out _).mono ?_
  rintro e w' ⟨rfl, rfl⟩
  go_wp2_with fail
  refine bodyPost_ret (v := (.tuple #[.agg #[.int .i64 0, .int .i64 0, .bool false, .bool false], .bool false])) (by simp [results, Tryd.results19, go_sem]) rfl ⟨rfl, ?_⟩
  go_grown

set_option maxHeartbeats 1000000 in
theorem rcop_ff_out (c r cols rows x y : Int) (ex : fur c cols 64 = x) (ey : fur r rows 1024 = y) (w : World) (h : ¬ inB c r) :
    Calls Tryd.prog 19 #[.agg #[.int .i64 c, .int .i64 r, .bool false, .bool false], .int .i64 cols, .int .i64 rows] w fun e w' => e = .returned (.tuple #[.agg #[.int .i64 0, .int .i64 0, .bool false, .bool false], .bool false]) ∧ Below w.heap.size w w' := by
  have o1 : Hid (∀ w, _) := fun w => rOutside_no c r false false w h
  have c1 : Hid (∀ w, Calls Tryd.prog 34 #[.int .i64 c, .int .i64 cols, .int .i64 64] w fun e w' => e = .returned (.int .i64 x) ∧ w' = w) := fun w => by rw [← ex]; exact further_any c cols 64 w (by omega) (by omega)
  have c2 : Hid (∀ w, Calls Tryd.prog 34 #[.int .i64 r, .int .i64 rows, .int .i64 1024] w fun e w' => e = .returned (.int .i64 y) ∧ w' = w) := fun w => by rw [← ey]; exact further_any r rows 1024 w (by omega) (by omega)
  clear h ex ey
  go_enter Tryd.func19, Tryd.ntmps19
  go_wp2_with fail
  refine (c1.out _).mono ?_
  rintro e w' ⟨rfl, rfl⟩
  go_wp2_with fail
  refine (c2.out _).mono ?_
  rintro e w' ⟨rfl, rfl⟩
  go_wp2_with fail
  refine (o1.out _).mono ?_
  rintro e w' ⟨rfl, rfl⟩
  go_wp2_with fail
  refine bodyPost_ret (v := (.tuple #[.agg #[.int .i64 0, .int .i64 0, .bool false, .bool false], .bool false])) (by simp [results, Tryd.results19, go_sem]) rfl ⟨rfl, ?_⟩
  go_grown

set_option maxHeartbeats 1000000 in
theorem rcop_ft_yes (c r cols rows x : Int) (ex : fur c cols 64 = x) (w : World) (h : inB c r) (h' : inB x r) :
    Calls Tryd.prog 19 #[.agg #[.int .i64 c, .int .i64 r, .bool false, .bool true], .int .i64 cols, .int .i64 rows] w fun e w' => e = .returned (.tuple #[.agg #[.int .i64 x, .int .i64 r, .bool false, .bool true], .bool true]) ∧ Below w.heap.size w w' := by
  have o1 : Hid (∀ w, _) := fun w => rOutside_in c r false true w h
  have o2 : Hid (∀ w, _) := fun w => rOutside_in x r false true w h'
  have c1 : Hid (∀ w, Calls Tryd.prog 34 #[.int .i64 c, .int .i64 cols, .int .i64 64] w fun e w' => e = .returned (.int .i64 x) ∧ w' = w) := fun w => by rw [← ex]; exact further_any c cols 64 w (by omega) (by omega)
  clear h h' ex
  go_enter Tryd.func19, Tryd.ntmps19
  go_wp2_with fail
  refine (c1.out _).mono ?_
  rintro e w' ⟨rfl, rfl⟩
  go_wp2_with fail
  refine (o1.out _).mono ?_
  rintro e w' ⟨rfl, rfl⟩
  go_wp2_with fail
  refine (o2.out _).mono ?_
  rintro e w' ⟨rfl, rfl⟩
  go_wp2_with fail
  refine bodyPost_ret (v := (.tuple #[.agg #[.int .i64 x, .int .i64 r, .bool false, .bool true], .bool true])) (by simp [results, Tryd.results19, go_sem]) rfl ⟨rfl, ?_⟩
  go_grown

set_option maxHeartbeats 1000000 in
theorem rcop_ft_no (c r cols rows x : Int) (ex : fur c cols 64 = x) (w : World) (h : inB c r) (h' : ¬ inB x r) :
    Calls Tryd.prog 19 #[.agg #[.int .i64 c, .int .i64 r, .bool false, .bool true], .int .i64 cols, .int .i64 rows] w fun e w' => e = .returned (.tuple #[.agg #[.int .i64 0, .int .i64 0, .bool false, .bool false], .bool false]) ∧ Below w.heap.size w w' := by
  have o1 : Hid (∀ w, _) := fun w => rOutside_in c r false true w h
  have o2 : Hid (∀ w, _) := fun w => rOutside_no x r false true w h'
  have c1 : Hid (∀ w, Calls Tryd.prog 34 #[.int .i64 c, .int .i64 cols, .int .i64 64] w fun e w' => e = .returned (.int .i64 x) ∧ w' = w) := fun w => by rw [← ex]; exact further_any c cols 64 w (by omega) (by omega)
  clear h h' ex
  go_enter Tryd.func19, Tryd.ntmps19
  go_wp2_with fail
  refine (c1.out _).mono ?_
  rintro e w' ⟨rfl, rfl⟩
  go_wp2_with fail
  refine (o1.out _).mono ?_
  rintro e w' ⟨rfl, rfl⟩
  go_wp2_with fail
  refine (o2.out _).mono ?_
  rintro e w' ⟨rfl, rfl⟩
  go_wp2_with fail
  refine bodyPost_ret (v := (.tuple #[.agg #[.int .i64 0, .int .i64 0, .bool false, .bool false], .bool false])) (by simp [results, Tryd.results19, go_sem]) rfl ⟨rfl, ?_⟩
  go_grown

set_option maxHeartbeats 1000000 in
theorem rcop_ft_out (c r cols rows x : Int) (ex : fur c cols 64 = x) (w : World) (h : ¬ inB c r) :
    Calls Tryd.prog 19 #[.agg #[.int .i64 c, .int .i64 r, .bool false, .bool true], .int .i64 cols, .int .i64 rows] w fun e w' => e = .returned (.tuple #[.agg #[.int .i64 0, .int .i64 0, .bool false, .bool false], .bool false]) ∧ Below w.heap.size w w' := by
  have o1 : Hid (∀ w, _) := fun w => rOutside_no c r false true w h
  have c1 : Hid (∀ w, Calls Tryd.prog 34 #[.int .i64 c, .int .i64 cols, .int .i64 64] w fun e w' => e = .returned (.int .i64 x) ∧ w' = w) := fun w => by rw [← ex]; exact further_any c cols 64 w (by omega) (by omega)
  clear h ex
  go_enter Tryd.func19, Tryd.ntmps19
  go_wp2_with fail
  refine (c1.out _).mono ?_
  rintro e w' ⟨rfl, rfl⟩
  go_wp2_with fail
  refine (o1.out _).mono ?_
  rintro e w' ⟨rfl, rfl⟩
  go_wp2_with fail
  refine bodyPost_ret (v := (.tuple #[.agg #[.int .i64 0, .int .i64 0, .bool false, .bool false], .bool false])) (by simp [results, Tryd.results19, go_sem]) rfl ⟨rfl, ?_⟩
  go_grown

set_option maxHeartbeats 1000000 in
theorem rcop_tf_yes (c r cols rows y : Int) (ey : fur r rows 1024 = y) (w : World) (h : inB c r) (h' : inB c y) :
    Calls Tryd.prog 19 #[.agg #[.int .i64 c, .int .i64 r, .bool true, .bool false], .int .i64 cols, .int .i64 rows] w fun e w' => e = .returned (.tuple #[.agg #[.int .i64 c, .int .i64 y, .bool true, .bool false], .bool true]) ∧ Below w.heap.size w w' := by
  have o1 : Hid (∀ w, _) := fun w => rOutside_in c r true false w h
  have o2 : Hid (∀ w, _) := fun w => rOutside_in c y true false w h'
  have c2 : Hid (∀ w, Calls Tryd.prog 34 #[.int .i64 r, .int .i64 rows, .int .i64 1024] w fun e w' => e = .returned (.int .i64 y) ∧ w' = w) := fun w => by rw [← ey]; exact further_any r rows 1024 w (by omega) (by omega)
  clear h h' ey
  go_enter Tryd.func19, Tryd.ntmps19
  go_wp2_with fail
  refine (c2.out _).mono ?_
  rintro e w' ⟨rfl, rfl⟩
  go_wp2_with fail
  refine (o1.out _).mono ?_
  rintro e w' ⟨rfl, rfl⟩
  go_wp2_with fail
  refine (o2.out _).mono ?_
  rintro e w' ⟨rfl, rfl⟩
  go_wp2_with fail
  refine bodyPost_ret (v := (.tuple #[.agg #[.int .i64 c, .int .i64 y, .bool true, .bool false], .bool true])) (by simp [results, Tryd.results19, go_sem]) rfl ⟨rfl, ?_⟩
  go_grown

set_option maxHeartbeats 1000000 in
theorem rcop_tf_no (c r cols rows y : Int) (ey : fur r rows 1024 = y) (w : World) (h : inB c r) (h' : ¬ inB c y) :
    Calls Tryd.prog 19 #[.agg #[.int .i64 c, .int .i64 r, .bool true, .bool false], .int .i64 cols, .int .i64 rows] w fun e w' => e = .returned (.tuple #[.agg #[.int .i64 0, .int .i64 0, .bool false, .bool false], .bool false]) ∧ Below w.heap.size w w' := by
  have o1 : Hid (∀ w, _) := fun w => rOutside_in c r true false w h
  have o2 : Hid (∀ w, _) := fun w => rOutside_no c y true false w h'
  have c2 : Hid (∀ w, Calls Tryd.prog 34 #[.int .i64 r, .int .i64 rows, .int .i64 1024] w fun e w' => e = .returned (.int .i64 y) ∧ w' = w) := fun w => by rw [← ey]; exact further_any r rows 1024 w (by omega) (by omega)
  clear h h' ey
  go_enter Tryd.func19, Tryd.ntmps19
  go_wp2_with fail
  refine (c2.out _).mono ?_
  rintro e w' ⟨rfl, rfl⟩
  go_wp2_with fail
  refine (o1.out _).mono ?_
  rintro e w' ⟨rfl, rfl⟩
  go_wp2_with fail
  refine (o2.out _).mono ?_
  rintro e w' ⟨rfl, rfl⟩
  go_wp2_with fail
  refine bodyPost_ret (v := (.tuple #[.agg #[.int .i64 0, .int .i64 0, .bool false, .bool false], .bool false])) (by simp [results, Tryd.results19, go_sem]) rfl ⟨rfl, ?_⟩
  go_grown

set_option maxHeartbeats 1000000 in
theorem rcop_tf_out (c r cols rows y : Int) (ey : fur r rows 1024 = y) (w : World) (h : ¬ inB c r) :
    Calls Tryd.prog 19 #[.agg #[.int .i64 c, .int .i64 r, .bool true, .bool false], .int .i64 cols, .int .i64 rows] w fun e w' => e = .returned (.tuple #[.agg #[.int .i64 0, .int .i64 0, .bool false, .bool false], .bool false]) ∧ Below w.heap.size w w' := by
  have o1 : Hid (∀ w, _) := fun w => rOutside_no c r true false w h
  have c2 : Hid (∀ w, Calls Tryd.prog 34 #[.int .i64 r, .int .i64 rows, .int .i64 1024] w fun e w' => e = .returned (.int .i64 y) ∧ w' = w) := fun w => by rw [← ey]; exact further_any r rows 1024 w (by omega) (by omega)
  clear h ey
  go_enter Tryd.func19, Tryd.ntmps19
  go_wp2_with fail
  refine (c2.out _).mono ?_
  rintro e w' ⟨rfl, rfl⟩
  go_wp2_with fail
  refine (o1.out _).mono ?_
  rintro e w' ⟨rfl, rfl⟩
  go_wp2_with fail
  refine bodyPost_ret (v := (.tuple #[.agg #[.int .i64 0, .int .i64 0, .bool false, .bool false], .bool false])) (by simp [results, Tryd.results19, go_sem]) rfl ⟨rfl, ?_⟩
  go_grown

set_option maxHeartbeats 1000000 in
theorem rcop_tt_yes (c r cols rows : Int) (w : World) (h : inB c r) (h' : inB c r) :
    Calls Tryd.prog 19 #[.agg #[.int .i64 c, .int .i64 r, .bool true, .bool true], .int .i64 cols, .int .i64 rows] w fun e w' => e = .returned (.tuple #[.agg #[.int .i64 c, .int .i64 r, .bool true, .bool true], .bool true]) ∧ Below w.heap.size w w' := by
  have o1 : Hid (∀ w, _) := fun w => rOutside_in c r true true w h
  have o2 : Hid (∀ w, _) := fun w => rOutside_in c r true true w h'
  clear h h'
  go_enter Tryd.func19, Tryd.ntmps19
  go_wp2_with fail
  refine (o1.out _).mono ?_
  rintro e w' ⟨rfl, rfl⟩
  go_wp2_with fail
  refine (o2.out _).mono ?_
  rintro e w' ⟨rfl, rfl⟩
  go_wp2_with fail
  refine bodyPost_ret (v := (.tuple #[.agg #[.int .i64 c, .int .i64 r, .bool true, .bool true], .bool true])) (by simp [results, Tryd.results19, go_sem]) rfl ⟨rfl, ?_⟩
  go_grown

set_option maxHeartbeats 1000000 in
theorem rcop_tt_no (c r cols rows : Int) (w : World) (h : inB c r) (h' : ¬ inB c r) :
    Calls Tryd.prog 19 #[.agg #[.int .i64 c, .int .i64 r, .bool true, .bool true], .int .i64 cols, .int .i64 rows] w fun e w' => e = .returned (.tuple #[.agg #[.int .i64 0, .int .i64 0, .bool false, .bool false], .bool false]) ∧ Below w.heap.size w w' := by
  have o1 : Hid (∀ w, _) := fun w => rOutside_in c r true true w h
  have o2 : Hid (∀ w, _) := fun w => rOutside_no c r true true w h'
  clear h h'
  go_enter Tryd.func19, Tryd.ntmps19
  go_wp2_with fail
  refine (o1.out _).mono ?_
  rintro e w' ⟨rfl, rfl⟩
  go_wp2_with fail
  refine (o2.out _).mono ?_
  rintro e w' ⟨rfl, rfl⟩
  go_wp2_with fail
  refine bodyPost_ret (v := (.tuple #[.agg #[.int .i64 0, .int .i64 0, .bool false, .bool false], .bool false])) (by simp [results, Tryd.results19, go_sem]) rfl ⟨rfl, ?_⟩
  go_grown

set_option maxHeartbeats 1000000 in
theorem rcop_tt_out (c r cols rows : Int) (w : World) (h : ¬ inB c r) :
    Calls Tryd.prog 19 #[.agg #[.int .i64 c, .int .i64 r, .bool true, .bool true], .int .i64 cols, .int .i64 rows] w fun e w' => e = .returned (.tuple #[.agg #[.int .i64 0, .int .i64 0, .bool false, .bool false], .bool false]) ∧ Below w.heap.size w w' := by
  have o1 : Hid (∀ w, _) := fun w => rOutside_no c r true true w h
  clear h
  go_enter Tryd.func19, Tryd.ntmps19
  go_wp2_with fail
  refine (o1.out _).mono ?_
  rintro e w' ⟨rfl, rfl⟩
  go_wp2_with fail
  refine bodyPost_ret (v := (.tuple #[.agg #[.int .i64 0, .int .i64 0, .bool false, .bool false], .bool false])) (by simp [results, Tryd.results19, go_sem]) rfl ⟨rfl, ?_⟩
  go_grown

theorem rCopied_any (c r cols rows : Int) (f g : Bool) (w : World) :
    Calls Tryd.prog 19 #[.agg #[.int .i64 c, .int .i64 r, .bool f, .bool g], .int .i64 cols, .int .i64 rows] w fun e w' => e = .returned (.tuple #[.agg #[.int .i64 (copR c r cols rows f g).1, .int .i64 (copR c r cols rows f g).2.1, .bool (copR c r cols rows f g).2.2.1, .bool (copR c r cols rows f g).2.2.2.1], .bool (copR c r cols rows f g).2.2.2.2]) ∧ Below w.heap.size w w' := by
  by_cases h : inB c r
  · have h0 := h
    unfold inB at h0
    have kc := @fur_in c cols 64 h0.1 h0.2.1 (by omega)
    have kr := @fur_in r rows 1024 h0.2.2.1 h0.2.2.2 (by omega)
    by_cases h' : inB (onC c cols f) (onC r rows g)
    · rw [copR_yes ⟨h, h'⟩]
      have h1 := h'
      unfold inB at h1
      cases f <;> cases g <;> simp only [onC, Bool.false_eq_true, if_false, if_true] at h1 h' ⊢
      · exact rcop_ff_yes c r cols rows _ _ (@fur_eq c cols 64 h0.1 h0.2.1 (by omega) ⟨h1.1, h1.2.1⟩) (@fur_eq r rows 1024 h0.2.2.1 h0.2.2.2 (by omega) ⟨h1.2.2.1, h1.2.2.2⟩) w h h'
      · exact rcop_ft_yes c r cols rows _ (@fur_eq c cols 64 h0.1 h0.2.1 (by omega) ⟨h1.1, h1.2.1⟩) w h h'
      · exact rcop_tf_yes c r cols rows _ (@fur_eq r rows 1024 h0.2.2.1 h0.2.2.2 (by omega) ⟨h1.2.2.1, h1.2.2.2⟩) w h h'
      · exact rcop_tt_yes c r cols rows  w h h'
    · rw [copR_no (fun hh => h' hh.2)]
      have h1 := h'
      unfold inB at h1
      cases f <;> cases g <;> simp only [onC, Bool.false_eq_true, if_false, if_true] at h1 ⊢
      · exact rcop_ff_no c r cols rows _ _ rfl rfl w h (by unfold inB; omega)
      · exact rcop_ft_no c r cols rows _ rfl w h (by unfold inB; omega)
      · exact rcop_tf_no c r cols rows _ rfl w h (by unfold inB; omega)
      · exact rcop_tt_no c r cols rows  w h (by unfold inB; omega)
  · rw [copR_no (fun hh => h hh.1)]
    cases f <;> cases g
    · exact rcop_ff_out c r cols rows _ _ rfl rfl w h
    · exact rcop_ft_out c r cols rows _ rfl w h
    · exact rcop_tf_out c r cols rows _ rfl w h
    · exact rcop_tt_out c r cols rows  w h
end Go.Proofs.YtjbkjeabobccaacDoor
