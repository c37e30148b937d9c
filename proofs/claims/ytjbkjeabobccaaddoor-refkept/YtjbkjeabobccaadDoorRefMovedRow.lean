import Derived.Test.YtjbkjeabobccaadDoorRefMoved
namespace Go.Proofs.YtjbkjeabobccaadDoor
open Go.RowKit Go.Lib
set_option linter.unusedVariables false

set_option maxHeartbeats 1000000 in
theorem mov_row_ge_pff (c1 r1 c2 r2 at' n : Int) (f1 g1 f2 g2 : Bool) (w : World) (i1 : inB c1 r1) (i2 : inB c2 r2) (a1 : 0 ≤ at') (a2 : at' < 1024) (n1 : -1024 ≤ n) (n2 : n ≤ 1024) (ho : ¬ r2 < r1) (hn : 0 < n) (h1 : ¬ (at' ≤ r1)) (h2 : ¬ (at' ≤ r2)) :
    Calls Tryd.prog 4 #[.agg #[.int .i64 c1, .int .i64 r1, .bool f1, .bool g1, .int .i64 c2, .int .i64 r2, .bool f2, .bool g2], .bool true, .int .i64 at', .int .i64 n] w fun e w' => e = .returned (.tuple #[.agg #[.int .i64 c1, .int .i64 r1, .bool f1, .bool g1, .int .i64 c2, .int .i64 (min r2 (1024 - 1)), .bool f2, .bool g2], .bool true]) ∧ Below w.heap.size w w' := by
  have o1 : Hid (∀ w, _) := fun w => outside_in c1 r1 f1 g1 w i1
  have o2 : Hid (∀ w, _) := fun w => outside_in c2 r2 f2 g2 w i2
  unfold inB at i1 i2
  have e1 : decide (at' < 0) = false := by simp; omega
  have e2 : decide (1024 ≤ at') = false := by simp; omega
  have e3 : decide (n < -1024) = false := by simp; omega
  have e4 : decide (1024 < n) = false := by simp; omega
  have d1 : ∀ (W : World) k a v, (W.drewN k).setCell a v = (W.setCell a v).drewN k := fun _ _ _ _ => rfl
  have d2 : ∀ (W : World) k o, (W.drewN k).alloc o = (W.alloc o).drewN k := fun _ _ _ => rfl
  go_enter Tryd.func4, Tryd.ntmps4
  go_wp2_with fail
  refine (sizeOf_row _).mono ?_
  rintro e w' ⟨rfl, rfl⟩
  go_wp2_with fail
  refine (o1.out _).mono ?_
  rintro e w' ⟨rfl, rfl⟩
  go_wp2_with fail
  refine (o2.out _).mono ?_
  rintro e w' ⟨rfl, rfl⟩
  go_wp2_with fail
  refine (ends_row_ge _ r1 r2 _ (by go_simp) (by go_simp) (by omega)).mono ?_
  rintro e w' ⟨rfl, k1, rfl⟩
  go_wp2_with fail
  refine (putIn_ff _ 1 5 r1 r2 at' n 1024 _ (by decide) (by go_simp) (by go_simp) (by go_simp) (by go_simp) (by go_size) (by omega) (by omega) (by omega) (by omega) (by omega) (by omega) (by omega) (by omega) (by omega) (by omega)).mono ?_
  rintro e w' ⟨rfl, rfl⟩
  rw [show decide (r1 < 1024) = true from by simp; omega]
  go_wp2_with fail
  refine bodyPost_ret (v := (.tuple #[.agg #[.int .i64 c1, .int .i64 r1, .bool f1, .bool g1, .int .i64 c2, .int .i64 (min r2 (1024 - 1)), .bool f2, .bool g2], .bool true])) (by simp [results, Tryd.results4, go_sem]) rfl ⟨rfl, ?_⟩
  try simp only [World.drewN_drewN]
  exact bdrew (by go_grown) _

set_option maxHeartbeats 1000000 in
theorem mov_row_ge_pft (c1 r1 c2 r2 at' n : Int) (f1 g1 f2 g2 : Bool) (w : World) (i1 : inB c1 r1) (i2 : inB c2 r2) (a1 : 0 ≤ at') (a2 : at' < 1024) (n1 : -1024 ≤ n) (n2 : n ≤ 1024) (ho : ¬ r2 < r1) (hn : 0 < n) (h1 : ¬ (at' ≤ r1)) (h2 : at' ≤ r2) :
    Calls Tryd.prog 4 #[.agg #[.int .i64 c1, .int .i64 r1, .bool f1, .bool g1, .int .i64 c2, .int .i64 r2, .bool f2, .bool g2], .bool true, .int .i64 at', .int .i64 n] w fun e w' => e = .returned (.tuple #[.agg #[.int .i64 c1, .int .i64 r1, .bool f1, .bool g1, .int .i64 c2, .int .i64 (min (r2 + n) (1024 - 1)), .bool f2, .bool g2], .bool true]) ∧ Below w.heap.size w w' := by
  have o1 : Hid (∀ w, _) := fun w => outside_in c1 r1 f1 g1 w i1
  have o2 : Hid (∀ w, _) := fun w => outside_in c2 r2 f2 g2 w i2
  unfold inB at i1 i2
  have e1 : decide (at' < 0) = false := by simp; omega
  have e2 : decide (1024 ≤ at') = false := by simp; omega
  have e3 : decide (n < -1024) = false := by simp; omega
  have e4 : decide (1024 < n) = false := by simp; omega
  have d1 : ∀ (W : World) k a v, (W.drewN k).setCell a v = (W.setCell a v).drewN k := fun _ _ _ _ => rfl
  have d2 : ∀ (W : World) k o, (W.drewN k).alloc o = (W.alloc o).drewN k := fun _ _ _ => rfl
  go_enter Tryd.func4, Tryd.ntmps4
  go_wp2_with fail
  refine (sizeOf_row _).mono ?_
  rintro e w' ⟨rfl, rfl⟩
  go_wp2_with fail
  refine (o1.out _).mono ?_
  rintro e w' ⟨rfl, rfl⟩
  go_wp2_with fail
  refine (o2.out _).mono ?_
  rintro e w' ⟨rfl, rfl⟩
  go_wp2_with fail
  refine (ends_row_ge _ r1 r2 _ (by go_simp) (by go_simp) (by omega)).mono ?_
  rintro e w' ⟨rfl, k1, rfl⟩
  go_wp2_with fail
  refine (putIn_ft _ 1 5 r1 r2 at' n 1024 _ (by decide) (by go_simp) (by go_simp) (by go_simp) (by go_simp) (by go_size) (by omega) (by omega) (by omega) (by omega) (by omega) (by omega) (by omega) (by omega) (by omega) (by omega)).mono ?_
  rintro e w' ⟨rfl, rfl⟩
  rw [show decide (r1 < 1024) = true from by simp; omega]
  go_wp2_with fail
  refine bodyPost_ret (v := (.tuple #[.agg #[.int .i64 c1, .int .i64 r1, .bool f1, .bool g1, .int .i64 c2, .int .i64 (min (r2 + n) (1024 - 1)), .bool f2, .bool g2], .bool true])) (by simp [results, Tryd.results4, go_sem]) rfl ⟨rfl, ?_⟩
  try simp only [World.drewN_drewN]
  exact bdrew (by go_grown) _

set_option maxHeartbeats 1000000 in
theorem mov_row_ge_ptt (c1 r1 c2 r2 at' n : Int) (f1 g1 f2 g2 : Bool) (w : World) (i1 : inB c1 r1) (i2 : inB c2 r2) (a1 : 0 ≤ at') (a2 : at' < 1024) (n1 : -1024 ≤ n) (n2 : n ≤ 1024) (ho : ¬ r2 < r1) (hn : 0 < n) (h1 : at' ≤ r1) (h2 : at' ≤ r2) (hl : r1 + n < 1024) :
    Calls Tryd.prog 4 #[.agg #[.int .i64 c1, .int .i64 r1, .bool f1, .bool g1, .int .i64 c2, .int .i64 r2, .bool f2, .bool g2], .bool true, .int .i64 at', .int .i64 n] w fun e w' => e = .returned (.tuple #[.agg #[.int .i64 c1, .int .i64 (r1 + n), .bool f1, .bool g1, .int .i64 c2, .int .i64 (min (r2 + n) (1024 - 1)), .bool f2, .bool g2], .bool true]) ∧ Below w.heap.size w w' := by
  have o1 : Hid (∀ w, _) := fun w => outside_in c1 r1 f1 g1 w i1
  have o2 : Hid (∀ w, _) := fun w => outside_in c2 r2 f2 g2 w i2
  unfold inB at i1 i2
  have e1 : decide (at' < 0) = false := by simp; omega
  have e2 : decide (1024 ≤ at') = false := by simp; omega
  have e3 : decide (n < -1024) = false := by simp; omega
  have e4 : decide (1024 < n) = false := by simp; omega
  have d1 : ∀ (W : World) k a v, (W.drewN k).setCell a v = (W.setCell a v).drewN k := fun _ _ _ _ => rfl
  have d2 : ∀ (W : World) k o, (W.drewN k).alloc o = (W.alloc o).drewN k := fun _ _ _ => rfl
  go_enter Tryd.func4, Tryd.ntmps4
  go_wp2_with fail
  refine (sizeOf_row _).mono ?_
  rintro e w' ⟨rfl, rfl⟩
  go_wp2_with fail
  refine (o1.out _).mono ?_
  rintro e w' ⟨rfl, rfl⟩
  go_wp2_with fail
  refine (o2.out _).mono ?_
  rintro e w' ⟨rfl, rfl⟩
  go_wp2_with fail
  refine (ends_row_ge _ r1 r2 _ (by go_simp) (by go_simp) (by omega)).mono ?_
  rintro e w' ⟨rfl, k1, rfl⟩
  go_wp2_with fail
  refine (putIn_tt _ 1 5 r1 r2 at' n 1024 _ (by decide) (by go_simp) (by go_simp) (by go_simp) (by go_simp) (by go_size) (by omega) (by omega) (by omega) (by omega) (by omega) (by omega) (by omega) (by omega) (by omega) (by omega)).mono ?_
  rintro e w' ⟨rfl, rfl⟩
  rw [show decide (r1 + n < 1024) = true from by simp; omega]
  go_wp2_with fail
  refine bodyPost_ret (v := (.tuple #[.agg #[.int .i64 c1, .int .i64 (r1 + n), .bool f1, .bool g1, .int .i64 c2, .int .i64 (min (r2 + n) (1024 - 1)), .bool f2, .bool g2], .bool true])) (by simp [results, Tryd.results4, go_sem]) rfl ⟨rfl, ?_⟩
  try simp only [World.drewN_drewN]
  exact bdrew (by go_grown) _

set_option maxHeartbeats 1000000 in
theorem mov_row_ge_pttx (c1 r1 c2 r2 at' n : Int) (f1 g1 f2 g2 : Bool) (w : World) (i1 : inB c1 r1) (i2 : inB c2 r2) (a1 : 0 ≤ at') (a2 : at' < 1024) (n1 : -1024 ≤ n) (n2 : n ≤ 1024) (ho : ¬ r2 < r1) (hn : 0 < n) (h1 : at' ≤ r1) (h2 : at' ≤ r2) (hl : ¬ r1 + n < 1024) :
    Calls Tryd.prog 4 #[.agg #[.int .i64 c1, .int .i64 r1, .bool f1, .bool g1, .int .i64 c2, .int .i64 r2, .bool f2, .bool g2], .bool true, .int .i64 at', .int .i64 n] w fun e w' => e = .returned (.tuple #[.agg #[.int .i64 0, .int .i64 0, .bool false, .bool false, .int .i64 0, .int .i64 0, .bool false, .bool false], .bool false]) ∧ Below w.heap.size w w' := by
  have o1 : Hid (∀ w, _) := fun w => outside_in c1 r1 f1 g1 w i1
  have o2 : Hid (∀ w, _) := fun w => outside_in c2 r2 f2 g2 w i2
  unfold inB at i1 i2
  have e1 : decide (at' < 0) = false := by simp; omega
  have e2 : decide (1024 ≤ at') = false := by simp; omega
  have e3 : decide (n < -1024) = false := by simp; omega
  have e4 : decide (1024 < n) = false := by simp; omega
  have d1 : ∀ (W : World) k a v, (W.drewN k).setCell a v = (W.setCell a v).drewN k := fun _ _ _ _ => rfl
  have d2 : ∀ (W : World) k o, (W.drewN k).alloc o = (W.alloc o).drewN k := fun _ _ _ => rfl
  go_enter Tryd.func4, Tryd.ntmps4
  go_wp2_with fail
  refine (sizeOf_row _).mono ?_
  rintro e w' ⟨rfl, rfl⟩
  go_wp2_with fail
  refine (o1.out _).mono ?_
  rintro e w' ⟨rfl, rfl⟩
  go_wp2_with fail
  refine (o2.out _).mono ?_
  rintro e w' ⟨rfl, rfl⟩
  go_wp2_with fail
  refine (ends_row_ge _ r1 r2 _ (by go_simp) (by go_simp) (by omega)).mono ?_
  rintro e w' ⟨rfl, k1, rfl⟩
  go_wp2_with fail
  refine (putIn_tt _ 1 5 r1 r2 at' n 1024 _ (by decide) (by go_simp) (by go_simp) (by go_simp) (by go_simp) (by go_size) (by omega) (by omega) (by omega) (by omega) (by omega) (by omega) (by omega) (by omega) (by omega) (by omega)).mono ?_
  rintro e w' ⟨rfl, rfl⟩
  rw [show decide (r1 + n < 1024) = false from by simp; omega]
  go_wp2_with fail
  refine bodyPost_ret (v := (.tuple #[.agg #[.int .i64 0, .int .i64 0, .bool false, .bool false, .int .i64 0, .int .i64 0, .bool false, .bool false], .bool false])) (by simp [results, Tryd.results4, go_sem]) rfl ⟨rfl, ?_⟩
  try simp only [World.drewN_drewN]
  exact bdrew (by go_grown) _

set_option maxHeartbeats 1000000 in
theorem mov_row_ge_tbb (c1 r1 c2 r2 at' n : Int) (f1 g1 f2 g2 : Bool) (w : World) (i1 : inB c1 r1) (i2 : inB c2 r2) (a1 : 0 ≤ at') (a2 : at' < 1024) (n1 : -1024 ≤ n) (n2 : n ≤ 1024) (ho : ¬ r2 < r1) (hn : ¬ 0 < n) (h1 : ¬ (at' + -n ≤ r1) ∧ ¬ (at' ≤ r1)) (h2 : ¬ (at' + -n ≤ r2) ∧ ¬ (at' ≤ r2)) :
    Calls Tryd.prog 4 #[.agg #[.int .i64 c1, .int .i64 r1, .bool f1, .bool g1, .int .i64 c2, .int .i64 r2, .bool f2, .bool g2], .bool true, .int .i64 at', .int .i64 n] w fun e w' => e = .returned (.tuple #[.agg #[.int .i64 c1, .int .i64 r1, .bool f1, .bool g1, .int .i64 c2, .int .i64 r2, .bool f2, .bool g2], .bool true]) ∧ Below w.heap.size w w' := by
  have o1 : Hid (∀ w, _) := fun w => outside_in c1 r1 f1 g1 w i1
  have o2 : Hid (∀ w, _) := fun w => outside_in c2 r2 f2 g2 w i2
  unfold inB at i1 i2
  have e1 : decide (at' < 0) = false := by simp; omega
  have e2 : decide (1024 ≤ at') = false := by simp; omega
  have e3 : decide (n < -1024) = false := by simp; omega
  have e4 : decide (1024 < n) = false := by simp; omega
  have d1 : ∀ (W : World) k a v, (W.drewN k).setCell a v = (W.setCell a v).drewN k := fun _ _ _ _ => rfl
  have d2 : ∀ (W : World) k o, (W.drewN k).alloc o = (W.alloc o).drewN k := fun _ _ _ => rfl
  go_enter Tryd.func4, Tryd.ntmps4
  go_wp2_with fail
  refine (sizeOf_row _).mono ?_
  rintro e w' ⟨rfl, rfl⟩
  go_wp2_with fail
  refine (o1.out _).mono ?_
  rintro e w' ⟨rfl, rfl⟩
  go_wp2_with fail
  refine (o2.out _).mono ?_
  rintro e w' ⟨rfl, rfl⟩
  go_wp2_with fail
  refine (ends_row_ge _ r1 r2 _ (by go_simp) (by go_simp) (by omega)).mono ?_
  rintro e w' ⟨rfl, k1, rfl⟩
  go_wp2_with fail
  refine (takeOut_bb _ 1 5 r1 r2 at' (-n) _ (by decide) (by go_simp) (by go_simp) (by go_simp) (by go_simp) (by omega) (by omega) (by omega) (by omega) (by omega) (by omega) (by omega) (by omega) (by omega) (by omega) (by omega) (by omega)).mono ?_
  rintro e w' ⟨rfl, k2, rfl⟩
  rw [show decide (r1 ≤ r2) = true from by simp; omega]
  go_wp2_with fail
  refine bodyPost_ret (v := (.tuple #[.agg #[.int .i64 c1, .int .i64 r1, .bool f1, .bool g1, .int .i64 c2, .int .i64 r2, .bool f2, .bool g2], .bool true])) (by simp [results, Tryd.results4, go_sem]) rfl ⟨rfl, ?_⟩
  try simp only [World.drewN_drewN]
  exact bdrew (by go_grown) _

set_option maxHeartbeats 1000000 in
theorem mov_row_ge_tbm (c1 r1 c2 r2 at' n : Int) (f1 g1 f2 g2 : Bool) (w : World) (i1 : inB c1 r1) (i2 : inB c2 r2) (a1 : 0 ≤ at') (a2 : at' < 1024) (n1 : -1024 ≤ n) (n2 : n ≤ 1024) (ho : ¬ r2 < r1) (hn : ¬ 0 < n) (h1 : ¬ (at' + -n ≤ r1) ∧ ¬ (at' ≤ r1)) (h2 : ¬ (at' + -n ≤ r2) ∧ at' ≤ r2) :
    Calls Tryd.prog 4 #[.agg #[.int .i64 c1, .int .i64 r1, .bool f1, .bool g1, .int .i64 c2, .int .i64 r2, .bool f2, .bool g2], .bool true, .int .i64 at', .int .i64 n] w fun e w' => e = .returned (.tuple #[.agg #[.int .i64 c1, .int .i64 r1, .bool f1, .bool g1, .int .i64 c2, .int .i64 (at' - 1), .bool f2, .bool g2], .bool true]) ∧ Below w.heap.size w w' := by
  have o1 : Hid (∀ w, _) := fun w => outside_in c1 r1 f1 g1 w i1
  have o2 : Hid (∀ w, _) := fun w => outside_in c2 r2 f2 g2 w i2
  unfold inB at i1 i2
  have e1 : decide (at' < 0) = false := by simp; omega
  have e2 : decide (1024 ≤ at') = false := by simp; omega
  have e3 : decide (n < -1024) = false := by simp; omega
  have e4 : decide (1024 < n) = false := by simp; omega
  have d1 : ∀ (W : World) k a v, (W.drewN k).setCell a v = (W.setCell a v).drewN k := fun _ _ _ _ => rfl
  have d2 : ∀ (W : World) k o, (W.drewN k).alloc o = (W.alloc o).drewN k := fun _ _ _ => rfl
  go_enter Tryd.func4, Tryd.ntmps4
  go_wp2_with fail
  refine (sizeOf_row _).mono ?_
  rintro e w' ⟨rfl, rfl⟩
  go_wp2_with fail
  refine (o1.out _).mono ?_
  rintro e w' ⟨rfl, rfl⟩
  go_wp2_with fail
  refine (o2.out _).mono ?_
  rintro e w' ⟨rfl, rfl⟩
  go_wp2_with fail
  refine (ends_row_ge _ r1 r2 _ (by go_simp) (by go_simp) (by omega)).mono ?_
  rintro e w' ⟨rfl, k1, rfl⟩
  go_wp2_with fail
  refine (takeOut_bm _ 1 5 r1 r2 at' (-n) _ (by decide) (by go_simp) (by go_simp) (by go_simp) (by go_simp) (by omega) (by omega) (by omega) (by omega) (by omega) (by omega) (by omega) (by omega) (by omega) (by omega) (by omega) (by omega)).mono ?_
  rintro e w' ⟨rfl, k2, rfl⟩
  rw [show decide (r1 ≤ (at' - 1)) = true from by simp; omega]
  go_wp2_with fail
  refine bodyPost_ret (v := (.tuple #[.agg #[.int .i64 c1, .int .i64 r1, .bool f1, .bool g1, .int .i64 c2, .int .i64 (at' - 1), .bool f2, .bool g2], .bool true])) (by simp [results, Tryd.results4, go_sem]) rfl ⟨rfl, ?_⟩
  try simp only [World.drewN_drewN]
  exact bdrew (by go_grown) _

set_option maxHeartbeats 1000000 in
theorem mov_row_ge_tba (c1 r1 c2 r2 at' n : Int) (f1 g1 f2 g2 : Bool) (w : World) (i1 : inB c1 r1) (i2 : inB c2 r2) (a1 : 0 ≤ at') (a2 : at' < 1024) (n1 : -1024 ≤ n) (n2 : n ≤ 1024) (ho : ¬ r2 < r1) (hn : ¬ 0 < n) (h1 : ¬ (at' + -n ≤ r1) ∧ ¬ (at' ≤ r1)) (h2 : at' + -n ≤ r2) :
    Calls Tryd.prog 4 #[.agg #[.int .i64 c1, .int .i64 r1, .bool f1, .bool g1, .int .i64 c2, .int .i64 r2, .bool f2, .bool g2], .bool true, .int .i64 at', .int .i64 n] w fun e w' => e = .returned (.tuple #[.agg #[.int .i64 c1, .int .i64 r1, .bool f1, .bool g1, .int .i64 c2, .int .i64 (r2 - -n), .bool f2, .bool g2], .bool true]) ∧ Below w.heap.size w w' := by
  have o1 : Hid (∀ w, _) := fun w => outside_in c1 r1 f1 g1 w i1
  have o2 : Hid (∀ w, _) := fun w => outside_in c2 r2 f2 g2 w i2
  unfold inB at i1 i2
  have e1 : decide (at' < 0) = false := by simp; omega
  have e2 : decide (1024 ≤ at') = false := by simp; omega
  have e3 : decide (n < -1024) = false := by simp; omega
  have e4 : decide (1024 < n) = false := by simp; omega
  have d1 : ∀ (W : World) k a v, (W.drewN k).setCell a v = (W.setCell a v).drewN k := fun _ _ _ _ => rfl
  have d2 : ∀ (W : World) k o, (W.drewN k).alloc o = (W.alloc o).drewN k := fun _ _ _ => rfl
  go_enter Tryd.func4, Tryd.ntmps4
  go_wp2_with fail
  refine (sizeOf_row _).mono ?_
  rintro e w' ⟨rfl, rfl⟩
  go_wp2_with fail
  refine (o1.out _).mono ?_
  rintro e w' ⟨rfl, rfl⟩
  go_wp2_with fail
  refine (o2.out _).mono ?_
  rintro e w' ⟨rfl, rfl⟩
  go_wp2_with fail
  refine (ends_row_ge _ r1 r2 _ (by go_simp) (by go_simp) (by omega)).mono ?_
  rintro e w' ⟨rfl, k1, rfl⟩
  go_wp2_with fail
  refine (takeOut_ba _ 1 5 r1 r2 at' (-n) _ (by decide) (by go_simp) (by go_simp) (by go_simp) (by go_simp) (by omega) (by omega) (by omega) (by omega) (by omega) (by omega) (by omega) (by omega) (by omega) (by omega) (by omega)).mono ?_
  rintro e w' ⟨rfl, k2, rfl⟩
  rw [show decide (r1 ≤ (r2 - -n)) = true from by simp; omega]
  go_wp2_with fail
  refine bodyPost_ret (v := (.tuple #[.agg #[.int .i64 c1, .int .i64 r1, .bool f1, .bool g1, .int .i64 c2, .int .i64 (r2 - -n), .bool f2, .bool g2], .bool true])) (by simp [results, Tryd.results4, go_sem]) rfl ⟨rfl, ?_⟩
  try simp only [World.drewN_drewN]
  exact bdrew (by go_grown) _

set_option maxHeartbeats 1000000 in
theorem mov_row_ge_tmm (c1 r1 c2 r2 at' n : Int) (f1 g1 f2 g2 : Bool) (w : World) (i1 : inB c1 r1) (i2 : inB c2 r2) (a1 : 0 ≤ at') (a2 : at' < 1024) (n1 : -1024 ≤ n) (n2 : n ≤ 1024) (ho : ¬ r2 < r1) (hn : ¬ 0 < n) (h1 : ¬ (at' + -n ≤ r1) ∧ at' ≤ r1) (h2 : ¬ (at' + -n ≤ r2) ∧ at' ≤ r2) :
    Calls Tryd.prog 4 #[.agg #[.int .i64 c1, .int .i64 r1, .bool f1, .bool g1, .int .i64 c2, .int .i64 r2, .bool f2, .bool g2], .bool true, .int .i64 at', .int .i64 n] w fun e w' => e = .returned (.tuple #[.agg #[.int .i64 0, .int .i64 0, .bool false, .bool false, .int .i64 0, .int .i64 0, .bool false, .bool false], .bool false]) ∧ Below w.heap.size w w' := by
  have o1 : Hid (∀ w, _) := fun w => outside_in c1 r1 f1 g1 w i1
  have o2 : Hid (∀ w, _) := fun w => outside_in c2 r2 f2 g2 w i2
  unfold inB at i1 i2
  have e1 : decide (at' < 0) = false := by simp; omega
  have e2 : decide (1024 ≤ at') = false := by simp; omega
  have e3 : decide (n < -1024) = false := by simp; omega
  have e4 : decide (1024 < n) = false := by simp; omega
  have d1 : ∀ (W : World) k a v, (W.drewN k).setCell a v = (W.setCell a v).drewN k := fun _ _ _ _ => rfl
  have d2 : ∀ (W : World) k o, (W.drewN k).alloc o = (W.alloc o).drewN k := fun _ _ _ => rfl
  go_enter Tryd.func4, Tryd.ntmps4
  go_wp2_with fail
  refine (sizeOf_row _).mono ?_
  rintro e w' ⟨rfl, rfl⟩
  go_wp2_with fail
  refine (o1.out _).mono ?_
  rintro e w' ⟨rfl, rfl⟩
  go_wp2_with fail
  refine (o2.out _).mono ?_
  rintro e w' ⟨rfl, rfl⟩
  go_wp2_with fail
  refine (ends_row_ge _ r1 r2 _ (by go_simp) (by go_simp) (by omega)).mono ?_
  rintro e w' ⟨rfl, k1, rfl⟩
  go_wp2_with fail
  refine (takeOut_mm _ 1 5 r1 r2 at' (-n) _ (by decide) (by go_simp) (by go_simp) (by go_simp) (by go_simp) (by omega) (by omega) (by omega) (by omega) (by omega) (by omega) (by omega) (by omega) (by omega) (by omega) (by omega) (by omega)).mono ?_
  rintro e w' ⟨rfl, k2, rfl⟩
  rw [show decide (at' ≤ (at' - 1)) = false from by simp; omega]
  go_wp2_with fail
  refine bodyPost_ret (v := (.tuple #[.agg #[.int .i64 0, .int .i64 0, .bool false, .bool false, .int .i64 0, .int .i64 0, .bool false, .bool false], .bool false])) (by simp [results, Tryd.results4, go_sem]) rfl ⟨rfl, ?_⟩
  try simp only [World.drewN_drewN]
  exact bdrew (by go_grown) _

set_option maxHeartbeats 1000000 in
theorem mov_row_ge_tma (c1 r1 c2 r2 at' n : Int) (f1 g1 f2 g2 : Bool) (w : World) (i1 : inB c1 r1) (i2 : inB c2 r2) (a1 : 0 ≤ at') (a2 : at' < 1024) (n1 : -1024 ≤ n) (n2 : n ≤ 1024) (ho : ¬ r2 < r1) (hn : ¬ 0 < n) (h1 : ¬ (at' + -n ≤ r1) ∧ at' ≤ r1) (h2 : at' + -n ≤ r2) :
    Calls Tryd.prog 4 #[.agg #[.int .i64 c1, .int .i64 r1, .bool f1, .bool g1, .int .i64 c2, .int .i64 r2, .bool f2, .bool g2], .bool true, .int .i64 at', .int .i64 n] w fun e w' => e = .returned (.tuple #[.agg #[.int .i64 c1, .int .i64 (at'), .bool f1, .bool g1, .int .i64 c2, .int .i64 (r2 - -n), .bool f2, .bool g2], .bool true]) ∧ Below w.heap.size w w' := by
  have o1 : Hid (∀ w, _) := fun w => outside_in c1 r1 f1 g1 w i1
  have o2 : Hid (∀ w, _) := fun w => outside_in c2 r2 f2 g2 w i2
  unfold inB at i1 i2
  have e1 : decide (at' < 0) = false := by simp; omega
  have e2 : decide (1024 ≤ at') = false := by simp; omega
  have e3 : decide (n < -1024) = false := by simp; omega
  have e4 : decide (1024 < n) = false := by simp; omega
  have d1 : ∀ (W : World) k a v, (W.drewN k).setCell a v = (W.setCell a v).drewN k := fun _ _ _ _ => rfl
  have d2 : ∀ (W : World) k o, (W.drewN k).alloc o = (W.alloc o).drewN k := fun _ _ _ => rfl
  go_enter Tryd.func4, Tryd.ntmps4
  go_wp2_with fail
  refine (sizeOf_row _).mono ?_
  rintro e w' ⟨rfl, rfl⟩
  go_wp2_with fail
  refine (o1.out _).mono ?_
  rintro e w' ⟨rfl, rfl⟩
  go_wp2_with fail
  refine (o2.out _).mono ?_
  rintro e w' ⟨rfl, rfl⟩
  go_wp2_with fail
  refine (ends_row_ge _ r1 r2 _ (by go_simp) (by go_simp) (by omega)).mono ?_
  rintro e w' ⟨rfl, k1, rfl⟩
  go_wp2_with fail
  refine (takeOut_ma _ 1 5 r1 r2 at' (-n) _ (by decide) (by go_simp) (by go_simp) (by go_simp) (by go_simp) (by omega) (by omega) (by omega) (by omega) (by omega) (by omega) (by omega) (by omega) (by omega) (by omega) (by omega)).mono ?_
  rintro e w' ⟨rfl, k2, rfl⟩
  rw [show decide (at' ≤ (r2 - -n)) = true from by simp; omega]
  go_wp2_with fail
  refine bodyPost_ret (v := (.tuple #[.agg #[.int .i64 c1, .int .i64 (at'), .bool f1, .bool g1, .int .i64 c2, .int .i64 (r2 - -n), .bool f2, .bool g2], .bool true])) (by simp [results, Tryd.results4, go_sem]) rfl ⟨rfl, ?_⟩
  try simp only [World.drewN_drewN]
  exact bdrew (by go_grown) _

set_option maxHeartbeats 1000000 in
theorem mov_row_ge_taa (c1 r1 c2 r2 at' n : Int) (f1 g1 f2 g2 : Bool) (w : World) (i1 : inB c1 r1) (i2 : inB c2 r2) (a1 : 0 ≤ at') (a2 : at' < 1024) (n1 : -1024 ≤ n) (n2 : n ≤ 1024) (ho : ¬ r2 < r1) (hn : ¬ 0 < n) (h1 : at' + -n ≤ r1) (h2 : at' + -n ≤ r2) :
    Calls Tryd.prog 4 #[.agg #[.int .i64 c1, .int .i64 r1, .bool f1, .bool g1, .int .i64 c2, .int .i64 r2, .bool f2, .bool g2], .bool true, .int .i64 at', .int .i64 n] w fun e w' => e = .returned (.tuple #[.agg #[.int .i64 c1, .int .i64 (r1 - -n), .bool f1, .bool g1, .int .i64 c2, .int .i64 (r2 - -n), .bool f2, .bool g2], .bool true]) ∧ Below w.heap.size w w' := by
  have o1 : Hid (∀ w, _) := fun w => outside_in c1 r1 f1 g1 w i1
  have o2 : Hid (∀ w, _) := fun w => outside_in c2 r2 f2 g2 w i2
  unfold inB at i1 i2
  have e1 : decide (at' < 0) = false := by simp; omega
  have e2 : decide (1024 ≤ at') = false := by simp; omega
  have e3 : decide (n < -1024) = false := by simp; omega
  have e4 : decide (1024 < n) = false := by simp; omega
  have d1 : ∀ (W : World) k a v, (W.drewN k).setCell a v = (W.setCell a v).drewN k := fun _ _ _ _ => rfl
  have d2 : ∀ (W : World) k o, (W.drewN k).alloc o = (W.alloc o).drewN k := fun _ _ _ => rfl
  go_enter Tryd.func4, Tryd.ntmps4
  go_wp2_with fail
  refine (sizeOf_row _).mono ?_
  rintro e w' ⟨rfl, rfl⟩
  go_wp2_with fail
  refine (o1.out _).mono ?_
  rintro e w' ⟨rfl, rfl⟩
  go_wp2_with fail
  refine (o2.out _).mono ?_
  rintro e w' ⟨rfl, rfl⟩
  go_wp2_with fail
  refine (ends_row_ge _ r1 r2 _ (by go_simp) (by go_simp) (by omega)).mono ?_
  rintro e w' ⟨rfl, k1, rfl⟩
  go_wp2_with fail
  refine (takeOut_aa _ 1 5 r1 r2 at' (-n) _ (by decide) (by go_simp) (by go_simp) (by go_simp) (by go_simp) (by omega) (by omega) (by omega) (by omega) (by omega) (by omega) (by omega) (by omega) (by omega) (by omega)).mono ?_
  rintro e w' ⟨rfl, k2, rfl⟩
  rw [show decide (r1 ≤ r2) = true from by simp; omega]
  go_wp2_with fail
  refine bodyPost_ret (v := (.tuple #[.agg #[.int .i64 c1, .int .i64 (r1 - -n), .bool f1, .bool g1, .int .i64 c2, .int .i64 (r2 - -n), .bool f2, .bool g2], .bool true])) (by simp [results, Tryd.results4, go_sem]) rfl ⟨rfl, ?_⟩
  try simp only [World.drewN_drewN]
  exact bdrew (by go_grown) _

set_option maxHeartbeats 1000000 in
theorem mov_row_lt_pff (c1 r1 c2 r2 at' n : Int) (f1 g1 f2 g2 : Bool) (w : World) (i1 : inB c1 r1) (i2 : inB c2 r2) (a1 : 0 ≤ at') (a2 : at' < 1024) (n1 : -1024 ≤ n) (n2 : n ≤ 1024) (ho : r2 < r1) (hn : 0 < n) (h1 : ¬ (at' ≤ r2)) (h2 : ¬ (at' ≤ r1)) :
    Calls Tryd.prog 4 #[.agg #[.int .i64 c1, .int .i64 r1, .bool f1, .bool g1, .int .i64 c2, .int .i64 r2, .bool f2, .bool g2], .bool true, .int .i64 at', .int .i64 n] w fun e w' => e = .returned (.tuple #[.agg #[.int .i64 c1, .int .i64 (min r1 (1024 - 1)), .bool f1, .bool g1, .int .i64 c2, .int .i64 r2, .bool f2, .bool g2], .bool true]) ∧ Below w.heap.size w w' := by
  have o1 : Hid (∀ w, _) := fun w => outside_in c1 r1 f1 g1 w i1
  have o2 : Hid (∀ w, _) := fun w => outside_in c2 r2 f2 g2 w i2
  unfold inB at i1 i2
  have e1 : decide (at' < 0) = false := by simp; omega
  have e2 : decide (1024 ≤ at') = false := by simp; omega
  have e3 : decide (n < -1024) = false := by simp; omega
  have e4 : decide (1024 < n) = false := by simp; omega
  have d1 : ∀ (W : World) k a v, (W.drewN k).setCell a v = (W.setCell a v).drewN k := fun _ _ _ _ => rfl
  have d2 : ∀ (W : World) k o, (W.drewN k).alloc o = (W.alloc o).drewN k := fun _ _ _ => rfl
  go_enter Tryd.func4, Tryd.ntmps4
  go_wp2_with fail
  refine (sizeOf_row _).mono ?_
  rintro e w' ⟨rfl, rfl⟩
  go_wp2_with fail
  refine (o1.out _).mono ?_
  rintro e w' ⟨rfl, rfl⟩
  go_wp2_with fail
  refine (o2.out _).mono ?_
  rintro e w' ⟨rfl, rfl⟩
  go_wp2_with fail
  refine (ends_row_lt _ r1 r2 _ (by go_simp) (by go_simp) (by omega)).mono ?_
  rintro e w' ⟨rfl, k1, rfl⟩
  go_wp2_with fail
  refine (putIn_ff _ 5 1 r2 r1 at' n 1024 _ (by decide) (by go_simp) (by go_simp) (by go_simp) (by go_simp) (by go_size) (by omega) (by omega) (by omega) (by omega) (by omega) (by omega) (by omega) (by omega) (by omega) (by omega)).mono ?_
  rintro e w' ⟨rfl, rfl⟩
  rw [show decide (r2 < 1024) = true from by simp; omega]
  go_wp2_with fail
  refine bodyPost_ret (v := (.tuple #[.agg #[.int .i64 c1, .int .i64 (min r1 (1024 - 1)), .bool f1, .bool g1, .int .i64 c2, .int .i64 r2, .bool f2, .bool g2], .bool true])) (by simp [results, Tryd.results4, go_sem]) rfl ⟨rfl, ?_⟩
  try simp only [World.drewN_drewN]
  exact bdrew (by go_grown) _

set_option maxHeartbeats 1000000 in
theorem mov_row_lt_pft (c1 r1 c2 r2 at' n : Int) (f1 g1 f2 g2 : Bool) (w : World) (i1 : inB c1 r1) (i2 : inB c2 r2) (a1 : 0 ≤ at') (a2 : at' < 1024) (n1 : -1024 ≤ n) (n2 : n ≤ 1024) (ho : r2 < r1) (hn : 0 < n) (h1 : ¬ (at' ≤ r2)) (h2 : at' ≤ r1) :
    Calls Tryd.prog 4 #[.agg #[.int .i64 c1, .int .i64 r1, .bool f1, .bool g1, .int .i64 c2, .int .i64 r2, .bool f2, .bool g2], .bool true, .int .i64 at', .int .i64 n] w fun e w' => e = .returned (.tuple #[.agg #[.int .i64 c1, .int .i64 (min (r1 + n) (1024 - 1)), .bool f1, .bool g1, .int .i64 c2, .int .i64 r2, .bool f2, .bool g2], .bool true]) ∧ Below w.heap.size w w' := by
  have o1 : Hid (∀ w, _) := fun w => outside_in c1 r1 f1 g1 w i1
  have o2 : Hid (∀ w, _) := fun w => outside_in c2 r2 f2 g2 w i2
  unfold inB at i1 i2
  have e1 : decide (at' < 0) = false := by simp; omega
  have e2 : decide (1024 ≤ at') = false := by simp; omega
  have e3 : decide (n < -1024) = false := by simp; omega
  have e4 : decide (1024 < n) = false := by simp; omega
  have d1 : ∀ (W : World) k a v, (W.drewN k).setCell a v = (W.setCell a v).drewN k := fun _ _ _ _ => rfl
  have d2 : ∀ (W : World) k o, (W.drewN k).alloc o = (W.alloc o).drewN k := fun _ _ _ => rfl
  go_enter Tryd.func4, Tryd.ntmps4
  go_wp2_with fail
  refine (sizeOf_row _).mono ?_
  rintro e w' ⟨rfl, rfl⟩
  go_wp2_with fail
  refine (o1.out _).mono ?_
  rintro e w' ⟨rfl, rfl⟩
  go_wp2_with fail
  refine (o2.out _).mono ?_
  rintro e w' ⟨rfl, rfl⟩
  go_wp2_with fail
  refine (ends_row_lt _ r1 r2 _ (by go_simp) (by go_simp) (by omega)).mono ?_
  rintro e w' ⟨rfl, k1, rfl⟩
  go_wp2_with fail
  refine (putIn_ft _ 5 1 r2 r1 at' n 1024 _ (by decide) (by go_simp) (by go_simp) (by go_simp) (by go_simp) (by go_size) (by omega) (by omega) (by omega) (by omega) (by omega) (by omega) (by omega) (by omega) (by omega) (by omega)).mono ?_
  rintro e w' ⟨rfl, rfl⟩
  rw [show decide (r2 < 1024) = true from by simp; omega]
  go_wp2_with fail
  refine bodyPost_ret (v := (.tuple #[.agg #[.int .i64 c1, .int .i64 (min (r1 + n) (1024 - 1)), .bool f1, .bool g1, .int .i64 c2, .int .i64 r2, .bool f2, .bool g2], .bool true])) (by simp [results, Tryd.results4, go_sem]) rfl ⟨rfl, ?_⟩
  try simp only [World.drewN_drewN]
  exact bdrew (by go_grown) _

set_option maxHeartbeats 1000000 in
theorem mov_row_lt_ptt (c1 r1 c2 r2 at' n : Int) (f1 g1 f2 g2 : Bool) (w : World) (i1 : inB c1 r1) (i2 : inB c2 r2) (a1 : 0 ≤ at') (a2 : at' < 1024) (n1 : -1024 ≤ n) (n2 : n ≤ 1024) (ho : r2 < r1) (hn : 0 < n) (h1 : at' ≤ r2) (h2 : at' ≤ r1) (hl : r2 + n < 1024) :
    Calls Tryd.prog 4 #[.agg #[.int .i64 c1, .int .i64 r1, .bool f1, .bool g1, .int .i64 c2, .int .i64 r2, .bool f2, .bool g2], .bool true, .int .i64 at', .int .i64 n] w fun e w' => e = .returned (.tuple #[.agg #[.int .i64 c1, .int .i64 (min (r1 + n) (1024 - 1)), .bool f1, .bool g1, .int .i64 c2, .int .i64 (r2 + n), .bool f2, .bool g2], .bool true]) ∧ Below w.heap.size w w' := by
  have o1 : Hid (∀ w, _) := fun w => outside_in c1 r1 f1 g1 w i1
  have o2 : Hid (∀ w, _) := fun w => outside_in c2 r2 f2 g2 w i2
  unfold inB at i1 i2
  have e1 : decide (at' < 0) = false := by simp; omega
  have e2 : decide (1024 ≤ at') = false := by simp; omega
  have e3 : decide (n < -1024) = false := by simp; omega
  have e4 : decide (1024 < n) = false := by simp; omega
  have d1 : ∀ (W : World) k a v, (W.drewN k).setCell a v = (W.setCell a v).drewN k := fun _ _ _ _ => rfl
  have d2 : ∀ (W : World) k o, (W.drewN k).alloc o = (W.alloc o).drewN k := fun _ _ _ => rfl
  go_enter Tryd.func4, Tryd.ntmps4
  go_wp2_with fail
  refine (sizeOf_row _).mono ?_
  rintro e w' ⟨rfl, rfl⟩
  go_wp2_with fail
  refine (o1.out _).mono ?_
  rintro e w' ⟨rfl, rfl⟩
  go_wp2_with fail
  refine (o2.out _).mono ?_
  rintro e w' ⟨rfl, rfl⟩
  go_wp2_with fail
  refine (ends_row_lt _ r1 r2 _ (by go_simp) (by go_simp) (by omega)).mono ?_
  rintro e w' ⟨rfl, k1, rfl⟩
  go_wp2_with fail
  refine (putIn_tt _ 5 1 r2 r1 at' n 1024 _ (by decide) (by go_simp) (by go_simp) (by go_simp) (by go_simp) (by go_size) (by omega) (by omega) (by omega) (by omega) (by omega) (by omega) (by omega) (by omega) (by omega) (by omega)).mono ?_
  rintro e w' ⟨rfl, rfl⟩
  rw [show decide (r2 + n < 1024) = true from by simp; omega]
  go_wp2_with fail
  refine bodyPost_ret (v := (.tuple #[.agg #[.int .i64 c1, .int .i64 (min (r1 + n) (1024 - 1)), .bool f1, .bool g1, .int .i64 c2, .int .i64 (r2 + n), .bool f2, .bool g2], .bool true])) (by simp [results, Tryd.results4, go_sem]) rfl ⟨rfl, ?_⟩
  try simp only [World.drewN_drewN]
  exact bdrew (by go_grown) _

set_option maxHeartbeats 1000000 in
theorem mov_row_lt_pttx (c1 r1 c2 r2 at' n : Int) (f1 g1 f2 g2 : Bool) (w : World) (i1 : inB c1 r1) (i2 : inB c2 r2) (a1 : 0 ≤ at') (a2 : at' < 1024) (n1 : -1024 ≤ n) (n2 : n ≤ 1024) (ho : r2 < r1) (hn : 0 < n) (h1 : at' ≤ r2) (h2 : at' ≤ r1) (hl : ¬ r2 + n < 1024) :
    Calls Tryd.prog 4 #[.agg #[.int .i64 c1, .int .i64 r1, .bool f1, .bool g1, .int .i64 c2, .int .i64 r2, .bool f2, .bool g2], .bool true, .int .i64 at', .int .i64 n] w fun e w' => e = .returned (.tuple #[.agg #[.int .i64 0, .int .i64 0, .bool false, .bool false, .int .i64 0, .int .i64 0, .bool false, .bool false], .bool false]) ∧ Below w.heap.size w w' := by
  have o1 : Hid (∀ w, _) := fun w => outside_in c1 r1 f1 g1 w i1
  have o2 : Hid (∀ w, _) := fun w => outside_in c2 r2 f2 g2 w i2
  unfold inB at i1 i2
  have e1 : decide (at' < 0) = false := by simp; omega
  have e2 : decide (1024 ≤ at') = false := by simp; omega
  have e3 : decide (n < -1024) = false := by simp; omega
  have e4 : decide (1024 < n) = false := by simp; omega
  have d1 : ∀ (W : World) k a v, (W.drewN k).setCell a v = (W.setCell a v).drewN k := fun _ _ _ _ => rfl
  have d2 : ∀ (W : World) k o, (W.drewN k).alloc o = (W.alloc o).drewN k := fun _ _ _ => rfl
  go_enter Tryd.func4, Tryd.ntmps4
  go_wp2_with fail
  refine (sizeOf_row _).mono ?_
  rintro e w' ⟨rfl, rfl⟩
  go_wp2_with fail
  refine (o1.out _).mono ?_
  rintro e w' ⟨rfl, rfl⟩
  go_wp2_with fail
  refine (o2.out _).mono ?_
  rintro e w' ⟨rfl, rfl⟩
  go_wp2_with fail
  refine (ends_row_lt _ r1 r2 _ (by go_simp) (by go_simp) (by omega)).mono ?_
  rintro e w' ⟨rfl, k1, rfl⟩
  go_wp2_with fail
  refine (putIn_tt _ 5 1 r2 r1 at' n 1024 _ (by decide) (by go_simp) (by go_simp) (by go_simp) (by go_simp) (by go_size) (by omega) (by omega) (by omega) (by omega) (by omega) (by omega) (by omega) (by omega) (by omega) (by omega)).mono ?_
  rintro e w' ⟨rfl, rfl⟩
  rw [show decide (r2 + n < 1024) = false from by simp; omega]
  go_wp2_with fail
  refine bodyPost_ret (v := (.tuple #[.agg #[.int .i64 0, .int .i64 0, .bool false, .bool false, .int .i64 0, .int .i64 0, .bool false, .bool false], .bool false])) (by simp [results, Tryd.results4, go_sem]) rfl ⟨rfl, ?_⟩
  try simp only [World.drewN_drewN]
  exact bdrew (by go_grown) _

set_option maxHeartbeats 1000000 in
theorem mov_row_lt_tbb (c1 r1 c2 r2 at' n : Int) (f1 g1 f2 g2 : Bool) (w : World) (i1 : inB c1 r1) (i2 : inB c2 r2) (a1 : 0 ≤ at') (a2 : at' < 1024) (n1 : -1024 ≤ n) (n2 : n ≤ 1024) (ho : r2 < r1) (hn : ¬ 0 < n) (h1 : ¬ (at' + -n ≤ r2) ∧ ¬ (at' ≤ r2)) (h2 : ¬ (at' + -n ≤ r1) ∧ ¬ (at' ≤ r1)) :
    Calls Tryd.prog 4 #[.agg #[.int .i64 c1, .int .i64 r1, .bool f1, .bool g1, .int .i64 c2, .int .i64 r2, .bool f2, .bool g2], .bool true, .int .i64 at', .int .i64 n] w fun e w' => e = .returned (.tuple #[.agg #[.int .i64 c1, .int .i64 r1, .bool f1, .bool g1, .int .i64 c2, .int .i64 r2, .bool f2, .bool g2], .bool true]) ∧ Below w.heap.size w w' := by
  have o1 : Hid (∀ w, _) := fun w => outside_in c1 r1 f1 g1 w i1
  have o2 : Hid (∀ w, _) := fun w => outside_in c2 r2 f2 g2 w i2
  unfold inB at i1 i2
  have e1 : decide (at' < 0) = false := by simp; omega
  have e2 : decide (1024 ≤ at') = false := by simp; omega
  have e3 : decide (n < -1024) = false := by simp; omega
  have e4 : decide (1024 < n) = false := by simp; omega
  have d1 : ∀ (W : World) k a v, (W.drewN k).setCell a v = (W.setCell a v).drewN k := fun _ _ _ _ => rfl
  have d2 : ∀ (W : World) k o, (W.drewN k).alloc o = (W.alloc o).drewN k := fun _ _ _ => rfl
  go_enter Tryd.func4, Tryd.ntmps4
  go_wp2_with fail
  refine (sizeOf_row _).mono ?_
  rintro e w' ⟨rfl, rfl⟩
  go_wp2_with fail
  refine (o1.out _).mono ?_
  rintro e w' ⟨rfl, rfl⟩
  go_wp2_with fail
  refine (o2.out _).mono ?_
  rintro e w' ⟨rfl, rfl⟩
  go_wp2_with fail
  refine (ends_row_lt _ r1 r2 _ (by go_simp) (by go_simp) (by omega)).mono ?_
  rintro e w' ⟨rfl, k1, rfl⟩
  go_wp2_with fail
  refine (takeOut_bb _ 5 1 r2 r1 at' (-n) _ (by decide) (by go_simp) (by go_simp) (by go_simp) (by go_simp) (by omega) (by omega) (by omega) (by omega) (by omega) (by omega) (by omega) (by omega) (by omega) (by omega) (by omega) (by omega)).mono ?_
  rintro e w' ⟨rfl, k2, rfl⟩
  rw [show decide (r2 ≤ r1) = true from by simp; omega]
  go_wp2_with fail
  refine bodyPost_ret (v := (.tuple #[.agg #[.int .i64 c1, .int .i64 r1, .bool f1, .bool g1, .int .i64 c2, .int .i64 r2, .bool f2, .bool g2], .bool true])) (by simp [results, Tryd.results4, go_sem]) rfl ⟨rfl, ?_⟩
  try simp only [World.drewN_drewN]
  exact bdrew (by go_grown) _

set_option maxHeartbeats 1000000 in
theorem mov_row_lt_tbm (c1 r1 c2 r2 at' n : Int) (f1 g1 f2 g2 : Bool) (w : World) (i1 : inB c1 r1) (i2 : inB c2 r2) (a1 : 0 ≤ at') (a2 : at' < 1024) (n1 : -1024 ≤ n) (n2 : n ≤ 1024) (ho : r2 < r1) (hn : ¬ 0 < n) (h1 : ¬ (at' + -n ≤ r2) ∧ ¬ (at' ≤ r2)) (h2 : ¬ (at' + -n ≤ r1) ∧ at' ≤ r1) :
    Calls Tryd.prog 4 #[.agg #[.int .i64 c1, .int .i64 r1, .bool f1, .bool g1, .int .i64 c2, .int .i64 r2, .bool f2, .bool g2], .bool true, .int .i64 at', .int .i64 n] w fun e w' => e = .returned (.tuple #[.agg #[.int .i64 c1, .int .i64 (at' - 1), .bool f1, .bool g1, .int .i64 c2, .int .i64 r2, .bool f2, .bool g2], .bool true]) ∧ Below w.heap.size w w' := by
  have o1 : Hid (∀ w, _) := fun w => outside_in c1 r1 f1 g1 w i1
  have o2 : Hid (∀ w, _) := fun w => outside_in c2 r2 f2 g2 w i2
  unfold inB at i1 i2
  have e1 : decide (at' < 0) = false := by simp; omega
  have e2 : decide (1024 ≤ at') = false := by simp; omega
  have e3 : decide (n < -1024) = false := by simp; omega
  have e4 : decide (1024 < n) = false := by simp; omega
  have d1 : ∀ (W : World) k a v, (W.drewN k).setCell a v = (W.setCell a v).drewN k := fun _ _ _ _ => rfl
  have d2 : ∀ (W : World) k o, (W.drewN k).alloc o = (W.alloc o).drewN k := fun _ _ _ => rfl
  go_enter Tryd.func4, Tryd.ntmps4
  go_wp2_with fail
  refine (sizeOf_row _).mono ?_
  rintro e w' ⟨rfl, rfl⟩
  go_wp2_with fail
  refine (o1.out _).mono ?_
  rintro e w' ⟨rfl, rfl⟩
  go_wp2_with fail
  refine (o2.out _).mono ?_
  rintro e w' ⟨rfl, rfl⟩
  go_wp2_with fail
  refine (ends_row_lt _ r1 r2 _ (by go_simp) (by go_simp) (by omega)).mono ?_
  rintro e w' ⟨rfl, k1, rfl⟩
  go_wp2_with fail
  refine (takeOut_bm _ 5 1 r2 r1 at' (-n) _ (by decide) (by go_simp) (by go_simp) (by go_simp) (by go_simp) (by omega) (by omega) (by omega) (by omega) (by omega) (by omega) (by omega) (by omega) (by omega) (by omega) (by omega) (by omega)).mono ?_
  rintro e w' ⟨rfl, k2, rfl⟩
  rw [show decide (r2 ≤ (at' - 1)) = true from by simp; omega]
  go_wp2_with fail
  refine bodyPost_ret (v := (.tuple #[.agg #[.int .i64 c1, .int .i64 (at' - 1), .bool f1, .bool g1, .int .i64 c2, .int .i64 r2, .bool f2, .bool g2], .bool true])) (by simp [results, Tryd.results4, go_sem]) rfl ⟨rfl, ?_⟩
  try simp only [World.drewN_drewN]
  exact bdrew (by go_grown) _

set_option maxHeartbeats 1000000 in
theorem mov_row_lt_tba (c1 r1 c2 r2 at' n : Int) (f1 g1 f2 g2 : Bool) (w : World) (i1 : inB c1 r1) (i2 : inB c2 r2) (a1 : 0 ≤ at') (a2 : at' < 1024) (n1 : -1024 ≤ n) (n2 : n ≤ 1024) (ho : r2 < r1) (hn : ¬ 0 < n) (h1 : ¬ (at' + -n ≤ r2) ∧ ¬ (at' ≤ r2)) (h2 : at' + -n ≤ r1) :
    Calls Tryd.prog 4 #[.agg #[.int .i64 c1, .int .i64 r1, .bool f1, .bool g1, .int .i64 c2, .int .i64 r2, .bool f2, .bool g2], .bool true, .int .i64 at', .int .i64 n] w fun e w' => e = .returned (.tuple #[.agg #[.int .i64 c1, .int .i64 (r1 - -n), .bool f1, .bool g1, .int .i64 c2, .int .i64 r2, .bool f2, .bool g2], .bool true]) ∧ Below w.heap.size w w' := by
  have o1 : Hid (∀ w, _) := fun w => outside_in c1 r1 f1 g1 w i1
  have o2 : Hid (∀ w, _) := fun w => outside_in c2 r2 f2 g2 w i2
  unfold inB at i1 i2
  have e1 : decide (at' < 0) = false := by simp; omega
  have e2 : decide (1024 ≤ at') = false := by simp; omega
  have e3 : decide (n < -1024) = false := by simp; omega
  have e4 : decide (1024 < n) = false := by simp; omega
  have d1 : ∀ (W : World) k a v, (W.drewN k).setCell a v = (W.setCell a v).drewN k := fun _ _ _ _ => rfl
  have d2 : ∀ (W : World) k o, (W.drewN k).alloc o = (W.alloc o).drewN k := fun _ _ _ => rfl
  go_enter Tryd.func4, Tryd.ntmps4
  go_wp2_with fail
  refine (sizeOf_row _).mono ?_
  rintro e w' ⟨rfl, rfl⟩
  go_wp2_with fail
  refine (o1.out _).mono ?_
  rintro e w' ⟨rfl, rfl⟩
  go_wp2_with fail
  refine (o2.out _).mono ?_
  rintro e w' ⟨rfl, rfl⟩
  go_wp2_with fail
  refine (ends_row_lt _ r1 r2 _ (by go_simp) (by go_simp) (by omega)).mono ?_
  rintro e w' ⟨rfl, k1, rfl⟩
  go_wp2_with fail
  refine (takeOut_ba _ 5 1 r2 r1 at' (-n) _ (by decide) (by go_simp) (by go_simp) (by go_simp) (by go_simp) (by omega) (by omega) (by omega) (by omega) (by omega) (by omega) (by omega) (by omega) (by omega) (by omega) (by omega)).mono ?_
  rintro e w' ⟨rfl, k2, rfl⟩
  rw [show decide (r2 ≤ (r1 - -n)) = true from by simp; omega]
  go_wp2_with fail
  refine bodyPost_ret (v := (.tuple #[.agg #[.int .i64 c1, .int .i64 (r1 - -n), .bool f1, .bool g1, .int .i64 c2, .int .i64 r2, .bool f2, .bool g2], .bool true])) (by simp [results, Tryd.results4, go_sem]) rfl ⟨rfl, ?_⟩
  try simp only [World.drewN_drewN]
  exact bdrew (by go_grown) _

set_option maxHeartbeats 1000000 in
theorem mov_row_lt_tmm (c1 r1 c2 r2 at' n : Int) (f1 g1 f2 g2 : Bool) (w : World) (i1 : inB c1 r1) (i2 : inB c2 r2) (a1 : 0 ≤ at') (a2 : at' < 1024) (n1 : -1024 ≤ n) (n2 : n ≤ 1024) (ho : r2 < r1) (hn : ¬ 0 < n) (h1 : ¬ (at' + -n ≤ r2) ∧ at' ≤ r2) (h2 : ¬ (at' + -n ≤ r1) ∧ at' ≤ r1) :
    Calls Tryd.prog 4 #[.agg #[.int .i64 c1, .int .i64 r1, .bool f1, .bool g1, .int .i64 c2, .int .i64 r2, .bool f2, .bool g2], .bool true, .int .i64 at', .int .i64 n] w fun e w' => e = .returned (.tuple #[.agg #[.int .i64 0, .int .i64 0, .bool false, .bool false, .int .i64 0, .int .i64 0, .bool false, .bool false], .bool false]) ∧ Below w.heap.size w w' := by
  have o1 : Hid (∀ w, _) := fun w => outside_in c1 r1 f1 g1 w i1
  have o2 : Hid (∀ w, _) := fun w => outside_in c2 r2 f2 g2 w i2
  unfold inB at i1 i2
  have e1 : decide (at' < 0) = false := by simp; omega
  have e2 : decide (1024 ≤ at') = false := by simp; omega
  have e3 : decide (n < -1024) = false := by simp; omega
  have e4 : decide (1024 < n) = false := by simp; omega
  have d1 : ∀ (W : World) k a v, (W.drewN k).setCell a v = (W.setCell a v).drewN k := fun _ _ _ _ => rfl
  have d2 : ∀ (W : World) k o, (W.drewN k).alloc o = (W.alloc o).drewN k := fun _ _ _ => rfl
  go_enter Tryd.func4, Tryd.ntmps4
  go_wp2_with fail
  refine (sizeOf_row _).mono ?_
  rintro e w' ⟨rfl, rfl⟩
  go_wp2_with fail
  refine (o1.out _).mono ?_
  rintro e w' ⟨rfl, rfl⟩
  go_wp2_with fail
  refine (o2.out _).mono ?_
  rintro e w' ⟨rfl, rfl⟩
  go_wp2_with fail
  refine (ends_row_lt _ r1 r2 _ (by go_simp) (by go_simp) (by omega)).mono ?_
  rintro e w' ⟨rfl, k1, rfl⟩
  go_wp2_with fail
  refine (takeOut_mm _ 5 1 r2 r1 at' (-n) _ (by decide) (by go_simp) (by go_simp) (by go_simp) (by go_simp) (by omega) (by omega) (by omega) (by omega) (by omega) (by omega) (by omega) (by omega) (by omega) (by omega) (by omega) (by omega)).mono ?_
  rintro e w' ⟨rfl, k2, rfl⟩
  rw [show decide (at' ≤ (at' - 1)) = false from by simp; omega]
  go_wp2_with fail
  refine bodyPost_ret (v := (.tuple #[.agg #[.int .i64 0, .int .i64 0, .bool false, .bool false, .int .i64 0, .int .i64 0, .bool false, .bool false], .bool false])) (by simp [results, Tryd.results4, go_sem]) rfl ⟨rfl, ?_⟩
  try simp only [World.drewN_drewN]
  exact bdrew (by go_grown) _

set_option maxHeartbeats 1000000 in
theorem mov_row_lt_tma (c1 r1 c2 r2 at' n : Int) (f1 g1 f2 g2 : Bool) (w : World) (i1 : inB c1 r1) (i2 : inB c2 r2) (a1 : 0 ≤ at') (a2 : at' < 1024) (n1 : -1024 ≤ n) (n2 : n ≤ 1024) (ho : r2 < r1) (hn : ¬ 0 < n) (h1 : ¬ (at' + -n ≤ r2) ∧ at' ≤ r2) (h2 : at' + -n ≤ r1) :
    Calls Tryd.prog 4 #[.agg #[.int .i64 c1, .int .i64 r1, .bool f1, .bool g1, .int .i64 c2, .int .i64 r2, .bool f2, .bool g2], .bool true, .int .i64 at', .int .i64 n] w fun e w' => e = .returned (.tuple #[.agg #[.int .i64 c1, .int .i64 (r1 - -n), .bool f1, .bool g1, .int .i64 c2, .int .i64 (at'), .bool f2, .bool g2], .bool true]) ∧ Below w.heap.size w w' := by
  have o1 : Hid (∀ w, _) := fun w => outside_in c1 r1 f1 g1 w i1
  have o2 : Hid (∀ w, _) := fun w => outside_in c2 r2 f2 g2 w i2
  unfold inB at i1 i2
  have e1 : decide (at' < 0) = false := by simp; omega
  have e2 : decide (1024 ≤ at') = false := by simp; omega
  have e3 : decide (n < -1024) = false := by simp; omega
  have e4 : decide (1024 < n) = false := by simp; omega
  have d1 : ∀ (W : World) k a v, (W.drewN k).setCell a v = (W.setCell a v).drewN k := fun _ _ _ _ => rfl
  have d2 : ∀ (W : World) k o, (W.drewN k).alloc o = (W.alloc o).drewN k := fun _ _ _ => rfl
  go_enter Tryd.func4, Tryd.ntmps4
  go_wp2_with fail
  refine (sizeOf_row _).mono ?_
  rintro e w' ⟨rfl, rfl⟩
  go_wp2_with fail
  refine (o1.out _).mono ?_
  rintro e w' ⟨rfl, rfl⟩
  go_wp2_with fail
  refine (o2.out _).mono ?_
  rintro e w' ⟨rfl, rfl⟩
  go_wp2_with fail
  refine (ends_row_lt _ r1 r2 _ (by go_simp) (by go_simp) (by omega)).mono ?_
  rintro e w' ⟨rfl, k1, rfl⟩
  go_wp2_with fail
  refine (takeOut_ma _ 5 1 r2 r1 at' (-n) _ (by decide) (by go_simp) (by go_simp) (by go_simp) (by go_simp) (by omega) (by omega) (by omega) (by omega) (by omega) (by omega) (by omega) (by omega) (by omega) (by omega) (by omega)).mono ?_
  rintro e w' ⟨rfl, k2, rfl⟩
  rw [show decide (at' ≤ (r1 - -n)) = true from by simp; omega]
  go_wp2_with fail
  refine bodyPost_ret (v := (.tuple #[.agg #[.int .i64 c1, .int .i64 (r1 - -n), .bool f1, .bool g1, .int .i64 c2, .int .i64 (at'), .bool f2, .bool g2], .bool true])) (by simp [results, Tryd.results4, go_sem]) rfl ⟨rfl, ?_⟩
  try simp only [World.drewN_drewN]
  exact bdrew (by go_grown) _

set_option maxHeartbeats 1000000 in
theorem mov_row_lt_taa (c1 r1 c2 r2 at' n : Int) (f1 g1 f2 g2 : Bool) (w : World) (i1 : inB c1 r1) (i2 : inB c2 r2) (a1 : 0 ≤ at') (a2 : at' < 1024) (n1 : -1024 ≤ n) (n2 : n ≤ 1024) (ho : r2 < r1) (hn : ¬ 0 < n) (h1 : at' + -n ≤ r2) (h2 : at' + -n ≤ r1) :
    Calls Tryd.prog 4 #[.agg #[.int .i64 c1, .int .i64 r1, .bool f1, .bool g1, .int .i64 c2, .int .i64 r2, .bool f2, .bool g2], .bool true, .int .i64 at', .int .i64 n] w fun e w' => e = .returned (.tuple #[.agg #[.int .i64 c1, .int .i64 (r1 - -n), .bool f1, .bool g1, .int .i64 c2, .int .i64 (r2 - -n), .bool f2, .bool g2], .bool true]) ∧ Below w.heap.size w w' := by
  have o1 : Hid (∀ w, _) := fun w => outside_in c1 r1 f1 g1 w i1
  have o2 : Hid (∀ w, _) := fun w => outside_in c2 r2 f2 g2 w i2
  unfold inB at i1 i2
  have e1 : decide (at' < 0) = false := by simp; omega
  have e2 : decide (1024 ≤ at') = false := by simp; omega
  have e3 : decide (n < -1024) = false := by simp; omega
  have e4 : decide (1024 < n) = false := by simp; omega
  have d1 : ∀ (W : World) k a v, (W.drewN k).setCell a v = (W.setCell a v).drewN k := fun _ _ _ _ => rfl
  have d2 : ∀ (W : World) k o, (W.drewN k).alloc o = (W.alloc o).drewN k := fun _ _ _ => rfl
  go_enter Tryd.func4, Tryd.ntmps4
  go_wp2_with fail
  refine (sizeOf_row _).mono ?_
  rintro e w' ⟨rfl, rfl⟩
  go_wp2_with fail
  refine (o1.out _).mono ?_
  rintro e w' ⟨rfl, rfl⟩
  go_wp2_with fail
  refine (o2.out _).mono ?_
  rintro e w' ⟨rfl, rfl⟩
  go_wp2_with fail
  refine (ends_row_lt _ r1 r2 _ (by go_simp) (by go_simp) (by omega)).mono ?_
  rintro e w' ⟨rfl, k1, rfl⟩
  go_wp2_with fail
  refine (takeOut_aa _ 5 1 r2 r1 at' (-n) _ (by decide) (by go_simp) (by go_simp) (by go_simp) (by go_simp) (by omega) (by omega) (by omega) (by omega) (by omega) (by omega) (by omega) (by omega) (by omega) (by omega)).mono ?_
  rintro e w' ⟨rfl, k2, rfl⟩
  rw [show decide (r2 ≤ r1) = true from by simp; omega]
  go_wp2_with fail
  refine bodyPost_ret (v := (.tuple #[.agg #[.int .i64 c1, .int .i64 (r1 - -n), .bool f1, .bool g1, .int .i64 c2, .int .i64 (r2 - -n), .bool f2, .bool g2], .bool true])) (by simp [results, Tryd.results4, go_sem]) rfl ⟨rfl, ?_⟩
  try simp only [World.drewN_drewN]
  exact bdrew (by go_grown) _

end Go.Proofs.YtjbkjeabobccaadDoor
