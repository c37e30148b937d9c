import Derived.Test.YtjbkjeabobccaacDoorRefSpan
namespace Go.Proofs.YtjbkjeabobccaacDoor
open Go.RowKit Go.Lib
set_option linter.unusedVariables false

set_option maxHeartbeats 1000000 in
theorem rmov_col_ge_yes (c1 r1 c2 r2 at' n L H : Int) (f1 g1 f2 g2 : Bool) (w : World) (i1 : inB c1 r1) (i2 : inB c2 r2) (a1 : 0 ≤ at') (a2 : at' < 64) (n1 : -1024 ≤ n) (n2 : n ≤ 1024) (ho : ¬ c2 < c1)
    (eL : loN (min c1 c2) at' n = L) (eH : hiN (max c1 c2) at' n 64 = H) (eo : mvok c1 c2 at' n 64 = true) :
    Calls Tryd.prog 21 #[.agg #[.int .i64 c1, .int .i64 r1, .bool f1, .bool g1, .int .i64 c2, .int .i64 r2, .bool f2, .bool g2], .bool false, .int .i64 at', .int .i64 n] w fun e w' => e = .returned (.tuple #[.agg #[.int .i64 L, .int .i64 r1, .bool f1, .bool g1, .int .i64 H, .int .i64 r2, .bool f2, .bool g2], .bool true]) ∧ Below w.heap.size w w' := by
  have o1 : Hid (∀ w, _) := fun w => rOutside_in c1 r1 f1 g1 w i1
  have o2 : Hid (∀ w, _) := fun w => rOutside_in c2 r2 f2 g2 w i2
  unfold inB at i1 i2
  have cs0 := fun w => span_any (min c1 c2) (max c1 c2) at' n 64 w (by omega) (by omega) (by omega) (by omega) a1 a2 n1 n2
  unfold mvok at eo
  rw [eL, eH, eo] at cs0
  have cs : Hid (∀ w, _) := cs0
  clear cs0 eL eH eo
  have e1 : decide (at' < 0) = false := by simp; omega
  have e2 : decide (64 ≤ at') = false := by simp; omega
  have e3 : decide (n < -1024) = false := by simp; omega
  have e4 : decide (1024 < n) = false := by simp; omega
  have e5 : decide (c2 < c1) = false := by simp; omega
  go_enter Tryd.func21, Tryd.ntmps21
  go_wp2_with fail
  refine (o1.out _).mono ?_
  rintro e w' ⟨rfl, rfl⟩
  go_wp2_with fail
  refine (o2.out _).mono ?_
  rintro e w' ⟨rfl, rfl⟩
  go_wp2_with fail
  refine (cs.out _).mono ?_
  rintro e w' ⟨rfl, rfl⟩
  go_wp2_with fail
  refine bodyPost_ret (v := (.tuple #[.agg #[.int .i64 L, .int .i64 r1, .bool f1, .bool g1, .int .i64 H, .int .i64 r2, .bool f2, .bool g2], .bool true])) (by simp [results, Tryd.results21, go_sem]) rfl ⟨rfl, ?_⟩
  go_grown

set_option maxHeartbeats 1000000 in
theorem rmov_col_ge_no (c1 r1 c2 r2 at' n L H : Int) (f1 g1 f2 g2 : Bool) (w : World) (i1 : inB c1 r1) (i2 : inB c2 r2) (a1 : 0 ≤ at') (a2 : at' < 64) (n1 : -1024 ≤ n) (n2 : n ≤ 1024) (ho : ¬ c2 < c1)
    (eL : loN (min c1 c2) at' n = L) (eH : hiN (max c1 c2) at' n 64 = H) (eo : mvok c1 c2 at' n 64 = false) :
    Calls Tryd.prog 21 #[.agg #[.int .i64 c1, .int .i64 r1, .bool f1, .bool g1, .int .i64 c2, .int .i64 r2, .bool f2, .bool g2], .bool false, .int .i64 at', .int .i64 n] w fun e w' => e = .returned (.tuple #[.agg #[.int .i64 0, .int .i64 0, .bool false, .bool false, .int .i64 0, .int .i64 0, .bool false, .bool false], .bool false]) ∧ Below w.heap.size w w' := by
  have o1 : Hid (∀ w, _) := fun w => rOutside_in c1 r1 f1 g1 w i1
  have o2 : Hid (∀ w, _) := fun w => rOutside_in c2 r2 f2 g2 w i2
  unfold inB at i1 i2
  have cs0 := fun w => span_any (min c1 c2) (max c1 c2) at' n 64 w (by omega) (by omega) (by omega) (by omega) a1 a2 n1 n2
  unfold mvok at eo
  rw [eL, eH, eo] at cs0
  have cs : Hid (∀ w, _) := cs0
  clear cs0 eL eH eo
  have e1 : decide (at' < 0) = false := by simp; omega
  have e2 : decide (64 ≤ at') = false := by simp; omega
  have e3 : decide (n < -1024) = false := by simp; omega
  have e4 : decide (1024 < n) = false := by simp; omega
  have e5 : decide (c2 < c1) = false := by simp; omega
  go_enter Tryd.func21, Tryd.ntmps21
  go_wp2_with fail
  refine (o1.out _).mono ?_
  rintro e w' ⟨rfl, rfl⟩
  go_wp2_with fail
  refine (o2.out _).mono ?_
  rintro e w' ⟨rfl, rfl⟩
  go_wp2_with fail
  refine (cs.out _).mono ?_
  rintro e w' ⟨rfl, rfl⟩
  go_wp2_with fail
  refine bodyPost_ret (v := (.tuple #[.agg #[.int .i64 0, .int .i64 0, .bool false, .bool false, .int .i64 0, .int .i64 0, .bool false, .bool false], .bool false])) (by simp [results, Tryd.results21, go_sem]) rfl ⟨rfl, ?_⟩
  go_grown

set_option maxHeartbeats 1000000 in
theorem rmov_col_lt_yes (c1 r1 c2 r2 at' n L H : Int) (f1 g1 f2 g2 : Bool) (w : World) (i1 : inB c1 r1) (i2 : inB c2 r2) (a1 : 0 ≤ at') (a2 : at' < 64) (n1 : -1024 ≤ n) (n2 : n ≤ 1024) (ho : c2 < c1)
    (eL : loN (min c1 c2) at' n = L) (eH : hiN (max c1 c2) at' n 64 = H) (eo : mvok c1 c2 at' n 64 = true) :
    Calls Tryd.prog 21 #[.agg #[.int .i64 c1, .int .i64 r1, .bool f1, .bool g1, .int .i64 c2, .int .i64 r2, .bool f2, .bool g2], .bool false, .int .i64 at', .int .i64 n] w fun e w' => e = .returned (.tuple #[.agg #[.int .i64 H, .int .i64 r1, .bool f1, .bool g1, .int .i64 L, .int .i64 r2, .bool f2, .bool g2], .bool true]) ∧ Below w.heap.size w w' := by
  have o1 : Hid (∀ w, _) := fun w => rOutside_in c1 r1 f1 g1 w i1
  have o2 : Hid (∀ w, _) := fun w => rOutside_in c2 r2 f2 g2 w i2
  unfold inB at i1 i2
  have cs0 := fun w => span_any (min c1 c2) (max c1 c2) at' n 64 w (by omega) (by omega) (by omega) (by omega) a1 a2 n1 n2
  unfold mvok at eo
  rw [eL, eH, eo] at cs0
  have cs : Hid (∀ w, _) := cs0
  clear cs0 eL eH eo
  have e1 : decide (at' < 0) = false := by simp; omega
  have e2 : decide (64 ≤ at') = false := by simp; omega
  have e3 : decide (n < -1024) = false := by simp; omega
  have e4 : decide (1024 < n) = false := by simp; omega
  have e5 : decide (c2 < c1) = true := by simp; omega
  go_enter Tryd.func21, Tryd.ntmps21
  go_wp2_with fail
  refine (o1.out _).mono ?_
  rintro e w' ⟨rfl, rfl⟩
  go_wp2_with fail
  refine (o2.out _).mono ?_
  rintro e w' ⟨rfl, rfl⟩
  go_wp2_with fail
  refine (cs.out _).mono ?_
  rintro e w' ⟨rfl, rfl⟩
  go_wp2_with fail
  refine bodyPost_ret (v := (.tuple #[.agg #[.int .i64 H, .int .i64 r1, .bool f1, .bool g1, .int .i64 L, .int .i64 r2, .bool f2, .bool g2], .bool true])) (by simp [results, Tryd.results21, go_sem]) rfl ⟨rfl, ?_⟩
  go_grown

set_option maxHeartbeats 1000000 in
theorem rmov_col_lt_no (c1 r1 c2 r2 at' n L H : Int) (f1 g1 f2 g2 : Bool) (w : World) (i1 : inB c1 r1) (i2 : inB c2 r2) (a1 : 0 ≤ at') (a2 : at' < 64) (n1 : -1024 ≤ n) (n2 : n ≤ 1024) (ho : c2 < c1)
    (eL : loN (min c1 c2) at' n = L) (eH : hiN (max c1 c2) at' n 64 = H) (eo : mvok c1 c2 at' n 64 = false) :
    Calls Tryd.prog 21 #[.agg #[.int .i64 c1, .int .i64 r1, .bool f1, .bool g1, .int .i64 c2, .int .i64 r2, .bool f2, .bool g2], .bool false, .int .i64 at', .int .i64 n] w fun e w' => e = .returned (.tuple #[.agg #[.int .i64 0, .int .i64 0, .bool false, .bool false, .int .i64 0, .int .i64 0, .bool false, .bool false], .bool false]) ∧ Below w.heap.size w w' := by
  have o1 : Hid (∀ w, _) := fun w => rOutside_in c1 r1 f1 g1 w i1
  have o2 : Hid (∀ w, _) := fun w => rOutside_in c2 r2 f2 g2 w i2
  unfold inB at i1 i2
  have cs0 := fun w => span_any (min c1 c2) (max c1 c2) at' n 64 w (by omega) (by omega) (by omega) (by omega) a1 a2 n1 n2
  unfold mvok at eo
  rw [eL, eH, eo] at cs0
  have cs : Hid (∀ w, _) := cs0
  clear cs0 eL eH eo
  have e1 : decide (at' < 0) = false := by simp; omega
  have e2 : decide (64 ≤ at') = false := by simp; omega
  have e3 : decide (n < -1024) = false := by simp; omega
  have e4 : decide (1024 < n) = false := by simp; omega
  have e5 : decide (c2 < c1) = true := by simp; omega
  go_enter Tryd.func21, Tryd.ntmps21
  go_wp2_with fail
  refine (o1.out _).mono ?_
  rintro e w' ⟨rfl, rfl⟩
  go_wp2_with fail
  refine (o2.out _).mono ?_
  rintro e w' ⟨rfl, rfl⟩
  go_wp2_with fail
  refine (cs.out _).mono ?_
  rintro e w' ⟨rfl, rfl⟩
  go_wp2_with fail
  refine bodyPost_ret (v := (.tuple #[.agg #[.int .i64 0, .int .i64 0, .bool false, .bool false, .int .i64 0, .int .i64 0, .bool false, .bool false], .bool false])) (by simp [results, Tryd.results21, go_sem]) rfl ⟨rfl, ?_⟩
  go_grown

set_option maxHeartbeats 1000000 in
theorem rmov_row_ge_yes (c1 r1 c2 r2 at' n L H : Int) (f1 g1 f2 g2 : Bool) (w : World) (i1 : inB c1 r1) (i2 : inB c2 r2) (a1 : 0 ≤ at') (a2 : at' < 1024) (n1 : -1024 ≤ n) (n2 : n ≤ 1024) (ho : ¬ r2 < r1)
    (eL : loN (min r1 r2) at' n = L) (eH : hiN (max r1 r2) at' n 1024 = H) (eo : mvok r1 r2 at' n 1024 = true) :
    Calls Tryd.prog 21 #[.agg #[.int .i64 c1, .int .i64 r1, .bool f1, .bool g1, .int .i64 c2, .int .i64 r2, .bool f2, .bool g2], .bool true, .int .i64 at', .int .i64 n] w fun e w' => e = .returned (.tuple #[.agg #[.int .i64 c1, .int .i64 L, .bool f1, .bool g1, .int .i64 c2, .int .i64 H, .bool f2, .bool g2], .bool true]) ∧ Below w.heap.size w w' := by
  have o1 : Hid (∀ w, _) := fun w => rOutside_in c1 r1 f1 g1 w i1
  have o2 : Hid (∀ w, _) := fun w => rOutside_in c2 r2 f2 g2 w i2
  unfold inB at i1 i2
  have cs0 := fun w => span_any (min r1 r2) (max r1 r2) at' n 1024 w (by omega) (by omega) (by omega) (by omega) a1 a2 n1 n2
  unfold mvok at eo
  rw [eL, eH, eo] at cs0
  have cs : Hid (∀ w, _) := cs0
  clear cs0 eL eH eo
  have e1 : decide (at' < 0) = false := by simp; omega
  have e2 : decide (1024 ≤ at') = false := by simp; omega
  have e3 : decide (n < -1024) = false := by simp; omega
  have e4 : decide (1024 < n) = false := by simp; omega
  have e5 : decide (r2 < r1) = false := by simp; omega
  go_enter Tryd.func21, Tryd.ntmps21
  go_wp2_with fail
  refine (o1.out _).mono ?_
  rintro e w' ⟨rfl, rfl⟩
  go_wp2_with fail
  refine (o2.out _).mono ?_
  rintro e w' ⟨rfl, rfl⟩
  go_wp2_with fail
  refine (cs.out _).mono ?_
  rintro e w' ⟨rfl, rfl⟩
  go_wp2_with fail
  refine bodyPost_ret (v := (.tuple #[.agg #[.int .i64 c1, .int .i64 L, .bool f1, .bool g1, .int .i64 c2, .int .i64 H, .bool f2, .bool g2], .bool true])) (by simp [results, Tryd.results21, go_sem]) rfl ⟨rfl, ?_⟩
  go_grown

set_option maxHeartbeats 1000000 in
theorem rmov_row_ge_no (c1 r1 c2 r2 at' n L H : Int) (f1 g1 f2 g2 : Bool) (w : World) (i1 : inB c1 r1) (i2 : inB c2 r2) (a1 : 0 ≤ at') (a2 : at' < 1024) (n1 : -1024 ≤ n) (n2 : n ≤ 1024) (ho : ¬ r2 < r1)
    (eL : loN (min r1 r2) at' n = L) (eH : hiN (max r1 r2) at' n 1024 = H) (eo : mvok r1 r2 at' n 1024 = false) :
    Calls Tryd.prog 21 #[.agg #[.int .i64 c1, .int .i64 r1, .bool f1, .bool g1, .int .i64 c2, .int .i64 r2, .bool f2, .bool g2], .bool true, .int .i64 at', .int .i64 n] w fun e w' => e = .returned (.tuple #[.agg #[.int .i64 0, .int .i64 0, .bool false, .bool false, .int .i64 0, .int .i64 0, .bool false, .bool false], .bool false]) ∧ Below w.heap.size w w' := by
  have o1 : Hid (∀ w, _) := fun w => rOutside_in c1 r1 f1 g1 w i1
  have o2 : Hid (∀ w, _) := fun w => rOutside_in c2 r2 f2 g2 w i2
  unfold inB at i1 i2
  have cs0 := fun w => span_any (min r1 r2) (max r1 r2) at' n 1024 w (by omega) (by omega) (by omega) (by omega) a1 a2 n1 n2
  unfold mvok at eo
  rw [eL, eH, eo] at cs0
  have cs : Hid (∀ w, _) := cs0
  clear cs0 eL eH eo
  have e1 : decide (at' < 0) = false := by simp; omega
  have e2 : decide (1024 ≤ at') = false := by simp; omega
  have e3 : decide (n < -1024) = false := by simp; omega
  have e4 : decide (1024 < n) = false := by simp; omega
  have e5 : decide (r2 < r1) = false := by simp; omega
  go_enter Tryd.func21, Tryd.ntmps21
  go_wp2_with fail
  refine (o1.out _).mono ?_
  rintro e w' ⟨rfl, rfl⟩
  go_wp2_with fail
  refine (o2.out _).mono ?_
  rintro e w' ⟨rfl, rfl⟩
  go_wp2_with fail
  refine (cs.out _).mono ?_
  rintro e w' ⟨rfl, rfl⟩
  go_wp2_with fail
  refine bodyPost_ret (v := (.tuple #[.agg #[.int .i64 0, .int .i64 0, .bool false, .bool false, .int .i64 0, .int .i64 0, .bool false, .bool false], .bool false])) (by simp [results, Tryd.results21, go_sem]) rfl ⟨rfl, ?_⟩
  go_grown

set_option maxHeartbeats 1000000 in
theorem rmov_row_lt_yes (c1 r1 c2 r2 at' n L H : Int) (f1 g1 f2 g2 : Bool) (w : World) (i1 : inB c1 r1) (i2 : inB c2 r2) (a1 : 0 ≤ at') (a2 : at' < 1024) (n1 : -1024 ≤ n) (n2 : n ≤ 1024) (ho : r2 < r1)
    (eL : loN (min r1 r2) at' n = L) (eH : hiN (max r1 r2) at' n 1024 = H) (eo : mvok r1 r2 at' n 1024 = true) :
    Calls Tryd.prog 21 #[.agg #[.int .i64 c1, .int .i64 r1, .bool f1, .bool g1, .int .i64 c2, .int .i64 r2, .bool f2, .bool g2], .bool true, .int .i64 at', .int .i64 n] w fun e w' => e = .returned (.tuple #[.agg #[.int .i64 c1, .int .i64 H, .bool f1, .bool g1, .int .i64 c2, .int .i64 L, .bool f2, .bool g2], .bool true]) ∧ Below w.heap.size w w' := by
  have o1 : Hid (∀ w, _) := fun w => rOutside_in c1 r1 f1 g1 w i1
  have o2 : Hid (∀ w, _) := fun w => rOutside_in c2 r2 f2 g2 w i2
  unfold inB at i1 i2
  have cs0 := fun w => span_any (min r1 r2) (max r1 r2) at' n 1024 w (by omega) (by omega) (by omega) (by omega) a1 a2 n1 n2
  unfold mvok at eo
  rw [eL, eH, eo] at cs0
  have cs : Hid (∀ w, _) := cs0
  clear cs0 eL eH eo
  have e1 : decide (at' < 0) = false := by simp; omega
  have e2 : decide (1024 ≤ at') = false := by simp; omega
  have e3 : decide (n < -1024) = false := by simp; omega
  have e4 : decide (1024 < n) = false := by simp; omega
  have e5 : decide (r2 < r1) = true := by simp; omega
  go_enter Tryd.func21, Tryd.ntmps21
  go_wp2_with fail
  refine (o1.out _).mono ?_
  rintro e w' ⟨rfl, rfl⟩
  go_wp2_with fail
  refine (o2.out _).mono ?_
  rintro e w' ⟨rfl, rfl⟩
  go_wp2_with fail
  refine (cs.out _).mono ?_
  rintro e w' ⟨rfl, rfl⟩
  go_wp2_with fail
  refine bodyPost_ret (v := (.tuple #[.agg #[.int .i64 c1, .int .i64 H, .bool f1, .bool g1, .int .i64 c2, .int .i64 L, .bool f2, .bool g2], .bool true])) (by simp [results, Tryd.results21, go_sem]) rfl ⟨rfl, ?_⟩
  go_grown

set_option maxHeartbeats 1000000 in
theorem rmov_row_lt_no (c1 r1 c2 r2 at' n L H : Int) (f1 g1 f2 g2 : Bool) (w : World) (i1 : inB c1 r1) (i2 : inB c2 r2) (a1 : 0 ≤ at') (a2 : at' < 1024) (n1 : -1024 ≤ n) (n2 : n ≤ 1024) (ho : r2 < r1)
    (eL : loN (min r1 r2) at' n = L) (eH : hiN (max r1 r2) at' n 1024 = H) (eo : mvok r1 r2 at' n 1024 = false) :
    Calls Tryd.prog 21 #[.agg #[.int .i64 c1, .int .i64 r1, .bool f1, .bool g1, .int .i64 c2, .int .i64 r2, .bool f2, .bool g2], .bool true, .int .i64 at', .int .i64 n] w fun e w' => e = .returned (.tuple #[.agg #[.int .i64 0, .int .i64 0, .bool false, .bool false, .int .i64 0, .int .i64 0, .bool false, .bool false], .bool false]) ∧ Below w.heap.size w w' := by
  have o1 : Hid (∀ w, _) := fun w => rOutside_in c1 r1 f1 g1 w i1
  have o2 : Hid (∀ w, _) := fun w => rOutside_in c2 r2 f2 g2 w i2
  unfold inB at i1 i2
  have cs0 := fun w => span_any (min r1 r2) (max r1 r2) at' n 1024 w (by omega) (by omega) (by omega) (by omega) a1 a2 n1 n2
  unfold mvok at eo
  rw [eL, eH, eo] at cs0
  have cs : Hid (∀ w, _) := cs0
  clear cs0 eL eH eo
  have e1 : decide (at' < 0) = false := by simp; omega
  have e2 : decide (1024 ≤ at') = false := by simp; omega
  have e3 : decide (n < -1024) = false := by simp; omega
  have e4 : decide (1024 < n) = false := by simp; omega
  have e5 : decide (r2 < r1) = true := by simp; omega
  go_enter Tryd.func21, Tryd.ntmps21
  go_wp2_with fail
  refine (o1.out _).mono ?_
  rintro e w' ⟨rfl, rfl⟩
  go_wp2_with fail
  refine (o2.out _).mono ?_
  rintro e w' ⟨rfl, rfl⟩
  go_wp2_with fail
  refine (cs.out _).mono ?_
  rintro e w' ⟨rfl, rfl⟩
  go_wp2_with fail
  refine bodyPost_ret (v := (.tuple #[.agg #[.int .i64 0, .int .i64 0, .bool false, .bool false, .int .i64 0, .int .i64 0, .bool false, .bool false], .bool false])) (by simp [results, Tryd.results21, go_sem]) rfl ⟨rfl, ?_⟩
  go_grown

set_option maxHeartbeats 2000000 in
theorem rmoved_out_col (c1 r1 c2 r2 at' n : Int) (f1 g1 f2 g2 : Bool) (w : World) (h : ¬ okM c1 r1 c2 r2 false at' n) :
    Calls Tryd.prog 21 #[.agg #[.int .i64 c1, .int .i64 r1, .bool f1, .bool g1, .int .i64 c2, .int .i64 r2, .bool f2, .bool g2], .bool false, .int .i64 at', .int .i64 n] w fun e w' => e = .returned (.tuple #[.agg #[.int .i64 0, .int .i64 0, .bool false, .bool false, .int .i64 0, .int .i64 0, .bool false, .bool false], .bool false]) ∧ Below w.heap.size w w' := by
  have h : ¬ ((inB c1 r1 ∧ inB c2 r2) ∧ (0 ≤ at' ∧ at' < 64) ∧ (-1024 ≤ n ∧ n ≤ 1024)) := h
  by_cases h1 : inB c1 r1
  · have o1 : Hid (∀ w, _) := fun w => rOutside_in c1 r1 f1 g1 w h1
    by_cases h2 : inB c2 r2
    · have o2 : Hid (∀ w, _) := fun w => rOutside_in c2 r2 f2 g2 w h2
      by_cases k1 : at' < 0
      · have e1 : decide (at' < 0) = true := by simpa using k1
        clear h h1 h2
        go_enter Tryd.func21, Tryd.ntmps21
        go_wp2_with fail
        refine (o1.out _).mono ?_
        rintro e w' ⟨rfl, rfl⟩
        go_wp2_with fail
        refine (o2.out _).mono ?_
        rintro e w' ⟨rfl, rfl⟩
        go_wp2_with fail
        refine bodyPost_ret (v := (.tuple #[.agg #[.int .i64 0, .int .i64 0, .bool false, .bool false, .int .i64 0, .int .i64 0, .bool false, .bool false], .bool false])) (by simp [results, Tryd.results21, go_sem]) rfl ⟨rfl, ?_⟩
        go_grown
      · have e1 : decide (at' < 0) = false := by simpa using k1
        by_cases k2 : 64 ≤ at'
        · have e2 : decide (64 ≤ at') = true := by simpa using k2
          clear h h1 h2
          go_enter Tryd.func21, Tryd.ntmps21
          go_wp2_with fail
          refine (o1.out _).mono ?_
          rintro e w' ⟨rfl, rfl⟩
          go_wp2_with fail
          refine (o2.out _).mono ?_
          rintro e w' ⟨rfl, rfl⟩
          go_wp2_with fail
          refine bodyPost_ret (v := (.tuple #[.agg #[.int .i64 0, .int .i64 0, .bool false, .bool false, .int .i64 0, .int .i64 0, .bool false, .bool false], .bool false])) (by simp [results, Tryd.results21, go_sem]) rfl ⟨rfl, ?_⟩
          go_grown
        · have e2 : decide (64 ≤ at') = false := by simpa using k2
          by_cases k3 : n < -1024
          · have e3 : decide (n < -1024) = true := by simpa using k3
            clear h h1 h2
            go_enter Tryd.func21, Tryd.ntmps21
            go_wp2_with fail
            refine (o1.out _).mono ?_
            rintro e w' ⟨rfl, rfl⟩
            go_wp2_with fail
            refine (o2.out _).mono ?_
            rintro e w' ⟨rfl, rfl⟩
            go_wp2_with fail
            refine bodyPost_ret (v := (.tuple #[.agg #[.int .i64 0, .int .i64 0, .bool false, .bool false, .int .i64 0, .int .i64 0, .bool false, .bool false], .bool false])) (by simp [results, Tryd.results21, go_sem]) rfl ⟨rfl, ?_⟩
            go_grown
          · have e3 : decide (n < -1024) = false := by simpa using k3
            have k4 : 1024 < n := by
              rcases Int.lt_or_le 1024 n with hh | hh
              · exact hh
              · exact absurd ⟨⟨h1, h2⟩, ⟨by omega, by omega⟩, ⟨by omega, by omega⟩⟩ h
            have e4 : decide (1024 < n) = true := by simpa using k4
            clear h h1 h2
            go_enter Tryd.func21, Tryd.ntmps21
            go_wp2_with fail
            refine (o1.out _).mono ?_
            rintro e w' ⟨rfl, rfl⟩
            go_wp2_with fail
            refine (o2.out _).mono ?_
            rintro e w' ⟨rfl, rfl⟩
            go_wp2_with fail
            refine bodyPost_ret (v := (.tuple #[.agg #[.int .i64 0, .int .i64 0, .bool false, .bool false, .int .i64 0, .int .i64 0, .bool false, .bool false], .bool false])) (by simp [results, Tryd.results21, go_sem]) rfl ⟨rfl, ?_⟩
            go_grown
    · have o2 : Hid (∀ w, _) := fun w => rOutside_no c2 r2 f2 g2 w h2
      clear h h1 h2
      go_enter Tryd.func21, Tryd.ntmps21
      go_wp2_with fail
      refine (o1.out _).mono ?_
      rintro e w' ⟨rfl, rfl⟩
      go_wp2_with fail
      refine (o2.out _).mono ?_
      rintro e w' ⟨rfl, rfl⟩
      go_wp2_with fail
      refine bodyPost_ret (v := (.tuple #[.agg #[.int .i64 0, .int .i64 0, .bool false, .bool false, .int .i64 0, .int .i64 0, .bool false, .bool false], .bool false])) (by simp [results, Tryd.results21, go_sem]) rfl ⟨rfl, ?_⟩
      go_grown
  · have o1 : Hid (∀ w, _) := fun w => rOutside_no c1 r1 f1 g1 w h1
    clear h h1
    go_enter Tryd.func21, Tryd.ntmps21
    go_wp2_with fail
    refine (o1.out _).mono ?_
    rintro e w' ⟨rfl, rfl⟩
    go_wp2_with fail
    refine bodyPost_ret (v := (.tuple #[.agg #[.int .i64 0, .int .i64 0, .bool false, .bool false, .int .i64 0, .int .i64 0, .bool false, .bool false], .bool false])) (by simp [results, Tryd.results21, go_sem]) rfl ⟨rfl, ?_⟩
    go_grown

set_option maxHeartbeats 2000000 in
theorem rmoved_out_row (c1 r1 c2 r2 at' n : Int) (f1 g1 f2 g2 : Bool) (w : World) (h : ¬ okM c1 r1 c2 r2 true at' n) :
    Calls Tryd.prog 21 #[.agg #[.int .i64 c1, .int .i64 r1, .bool f1, .bool g1, .int .i64 c2, .int .i64 r2, .bool f2, .bool g2], .bool true, .int .i64 at', .int .i64 n] w fun e w' => e = .returned (.tuple #[.agg #[.int .i64 0, .int .i64 0, .bool false, .bool false, .int .i64 0, .int .i64 0, .bool false, .bool false], .bool false]) ∧ Below w.heap.size w w' := by
  have h : ¬ ((inB c1 r1 ∧ inB c2 r2) ∧ (0 ≤ at' ∧ at' < 1024) ∧ (-1024 ≤ n ∧ n ≤ 1024)) := h
  by_cases h1 : inB c1 r1
  · have o1 : Hid (∀ w, _) := fun w => rOutside_in c1 r1 f1 g1 w h1
    by_cases h2 : inB c2 r2
    · have o2 : Hid (∀ w, _) := fun w => rOutside_in c2 r2 f2 g2 w h2
      by_cases k1 : at' < 0
      · have e1 : decide (at' < 0) = true := by simpa using k1
        clear h h1 h2
        go_enter Tryd.func21, Tryd.ntmps21
        go_wp2_with fail
        refine (o1.out _).mono ?_
        rintro e w' ⟨rfl, rfl⟩
        go_wp2_with fail
        refine (o2.out _).mono ?_
        rintro e w' ⟨rfl, rfl⟩
        go_wp2_with fail
        refine bodyPost_ret (v := (.tuple #[.agg #[.int .i64 0, .int .i64 0, .bool false, .bool false, .int .i64 0, .int .i64 0, .bool false, .bool false], .bool false])) (by simp [results, Tryd.results21, go_sem]) rfl ⟨rfl, ?_⟩
        go_grown
      · have e1 : decide (at' < 0) = false := by simpa using k1
        by_cases k2 : 1024 ≤ at'
        · have e2 : decide (1024 ≤ at') = true := by simpa using k2
          clear h h1 h2
          go_enter Tryd.func21, Tryd.ntmps21
          go_wp2_with fail
          refine (o1.out _).mono ?_
          rintro e w' ⟨rfl, rfl⟩
          go_wp2_with fail
          refine (o2.out _).mono ?_
          rintro e w' ⟨rfl, rfl⟩
          go_wp2_with fail
          refine bodyPost_ret (v := (.tuple #[.agg #[.int .i64 0, .int .i64 0, .bool false, .bool false, .int .i64 0, .int .i64 0, .bool false, .bool false], .bool false])) (by simp [results, Tryd.results21, go_sem]) rfl ⟨rfl, ?_⟩
          go_grown
        · have e2 : decide (1024 ≤ at') = false := by simpa using k2
          by_cases k3 : n < -1024
          · have e3 : decide (n < -1024) = true := by simpa using k3
            clear h h1 h2
            go_enter Tryd.func21, Tryd.ntmps21
            go_wp2_with fail
            refine (o1.out _).mono ?_
            rintro e w' ⟨rfl, rfl⟩
            go_wp2_with fail
            refine (o2.out _).mono ?_
            rintro e w' ⟨rfl, rfl⟩
            go_wp2_with fail
            refine bodyPost_ret (v := (.tuple #[.agg #[.int .i64 0, .int .i64 0, .bool false, .bool false, .int .i64 0, .int .i64 0, .bool false, .bool false], .bool false])) (by simp [results, Tryd.results21, go_sem]) rfl ⟨rfl, ?_⟩
            go_grown
          · have e3 : decide (n < -1024) = false := by simpa using k3
            have k4 : 1024 < n := by
              rcases Int.lt_or_le 1024 n with hh | hh
              · exact hh
              · exact absurd ⟨⟨h1, h2⟩, ⟨by omega, by omega⟩, ⟨by omega, by omega⟩⟩ h
            have e4 : decide (1024 < n) = true := by simpa using k4
            clear h h1 h2
            go_enter Tryd.func21, Tryd.ntmps21
            go_wp2_with fail
            refine (o1.out _).mono ?_
            rintro e w' ⟨rfl, rfl⟩
            go_wp2_with fail
            refine (o2.out _).mono ?_
            rintro e w' ⟨rfl, rfl⟩
            go_wp2_with fail
            refine bodyPost_ret (v := (.tuple #[.agg #[.int .i64 0, .int .i64 0, .bool false, .bool false, .int .i64 0, .int .i64 0, .bool false, .bool false], .bool false])) (by simp [results, Tryd.results21, go_sem]) rfl ⟨rfl, ?_⟩
            go_grown
    · have o2 : Hid (∀ w, _) := fun w => rOutside_no c2 r2 f2 g2 w h2
      clear h h1 h2
      go_enter Tryd.func21, Tryd.ntmps21
      go_wp2_with fail
      refine (o1.out _).mono ?_
      rintro e w' ⟨rfl, rfl⟩
      go_wp2_with fail
      refine (o2.out _).mono ?_
      rintro e w' ⟨rfl, rfl⟩
      go_wp2_with fail
      refine bodyPost_ret (v := (.tuple #[.agg #[.int .i64 0, .int .i64 0, .bool false, .bool false, .int .i64 0, .int .i64 0, .bool false, .bool false], .bool false])) (by simp [results, Tryd.results21, go_sem]) rfl ⟨rfl, ?_⟩
      go_grown
  · have o1 : Hid (∀ w, _) := fun w => rOutside_no c1 r1 f1 g1 w h1
    clear h h1
    go_enter Tryd.func21, Tryd.ntmps21
    go_wp2_with fail
    refine (o1.out _).mono ?_
    rintro e w' ⟨rfl, rfl⟩
    go_wp2_with fail
    refine bodyPost_ret (v := (.tuple #[.agg #[.int .i64 0, .int .i64 0, .bool false, .bool false, .int .i64 0, .int .i64 0, .bool false, .bool false], .bool false])) (by simp [results, Tryd.results21, go_sem]) rfl ⟨rfl, ?_⟩
    go_grown

theorem rMoved_any (c1 r1 c2 r2 at' n : Int) (f1 g1 f2 g2 rows : Bool) (w : World) :
    Calls Tryd.prog 21 #[.agg #[.int .i64 c1, .int .i64 r1, .bool f1, .bool g1, .int .i64 c2, .int .i64 r2, .bool f2, .bool g2], .bool rows, .int .i64 at', .int .i64 n] w fun e w' => e = .returned (movR c1 r1 c2 r2 f1 g1 f2 g2 rows at' n).val ∧ Below w.heap.size w w' := by
  unfold movR
  by_cases h : okM c1 r1 c2 r2 rows at' n
  · rw [if_pos h]
    obtain ⟨⟨i1, i2⟩, ⟨a1, a2⟩, n1, n2⟩ := h
    cases rows
    · rw [if_neg (by simp)]
      cases hl : mvok c1 c2 at' n 64
      · rw [if_neg (by simp)]
        by_cases ho : c2 < c1
        · exact rmov_col_lt_no c1 r1 c2 r2 at' n _ _ f1 g1 f2 g2 w i1 i2 a1 a2 n1 n2 ho rfl rfl hl
        · exact rmov_col_ge_no c1 r1 c2 r2 at' n _ _ f1 g1 f2 g2 w i1 i2 a1 a2 n1 n2 ho rfl rfl hl
      · rw [if_pos rfl]
        by_cases ho : c2 < c1
        · rw [show mvx c1 c2 at' n 64 = hiN (max c1 c2) at' n 64 from by unfold mvx; rw [if_pos ho, show max c1 c2 = c1 by omega], show mvy c1 c2 at' n 64 = loN (min c1 c2) at' n from by unfold mvy; rw [if_pos ho, show min c1 c2 = c2 by omega]]
          exact rmov_col_lt_yes c1 r1 c2 r2 at' n _ _ f1 g1 f2 g2 w i1 i2 a1 a2 n1 n2 ho rfl rfl hl
        · rw [show mvx c1 c2 at' n 64 = loN (min c1 c2) at' n from by unfold mvx; rw [if_neg ho, show min c1 c2 = c1 by omega], show mvy c1 c2 at' n 64 = hiN (max c1 c2) at' n 64 from by unfold mvy; rw [if_neg ho, show max c1 c2 = c2 by omega]]
          exact rmov_col_ge_yes c1 r1 c2 r2 at' n _ _ f1 g1 f2 g2 w i1 i2 a1 a2 n1 n2 ho rfl rfl hl
    · rw [if_pos rfl]
      cases hl : mvok r1 r2 at' n 1024
      · rw [if_neg (by simp)]
        by_cases ho : r2 < r1
        · exact rmov_row_lt_no c1 r1 c2 r2 at' n _ _ f1 g1 f2 g2 w i1 i2 a1 a2 n1 n2 ho rfl rfl hl
        · exact rmov_row_ge_no c1 r1 c2 r2 at' n _ _ f1 g1 f2 g2 w i1 i2 a1 a2 n1 n2 ho rfl rfl hl
      · rw [if_pos rfl]
        by_cases ho : r2 < r1
        · rw [show mvx r1 r2 at' n 1024 = hiN (max r1 r2) at' n 1024 from by unfold mvx; rw [if_pos ho, show max r1 r2 = r1 by omega], show mvy r1 r2 at' n 1024 = loN (min r1 r2) at' n from by unfold mvy; rw [if_pos ho, show min r1 r2 = r2 by omega]]
          exact rmov_row_lt_yes c1 r1 c2 r2 at' n _ _ f1 g1 f2 g2 w i1 i2 a1 a2 n1 n2 ho rfl rfl hl
        · rw [show mvx r1 r2 at' n 1024 = loN (min r1 r2) at' n from by unfold mvx; rw [if_neg ho, show min r1 r2 = r1 by omega], show mvy r1 r2 at' n 1024 = hiN (max r1 r2) at' n 1024 from by unfold mvy; rw [if_neg ho, show max r1 r2 = r2 by omega]]
          exact rmov_row_ge_yes c1 r1 c2 r2 at' n _ _ f1 g1 f2 g2 w i1 i2 a1 a2 n1 n2 ho rfl rfl hl
  · rw [if_neg h]
    cases rows
    · exact rmoved_out_col c1 r1 c2 r2 at' n f1 g1 f2 g2 w h
    · exact rmoved_out_row c1 r1 c2 r2 at' n f1 g1 f2 g2 w h
end Go.Proofs.YtjbkjeabobccaacDoor
