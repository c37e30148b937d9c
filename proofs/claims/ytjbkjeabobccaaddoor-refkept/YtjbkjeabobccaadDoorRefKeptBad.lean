import Derived.Test.YtjbkjeabobccaadDoorRefKeptBase
import Derived.Deep.CutRange
namespace Go.Proofs.YtjbkjeabobccaadDoor
open Go.RowKit Go.Lib
set_option linter.unusedVariables false

set_option maxHeartbeats 4000000 in
set_option maxRecDepth 100000 in
theorem kept_bad_col (c1 r1 c2 r2 at' n cell : Int) (f1 g1 f2 g2 : Bool) (w : World) (L T R D A1 B1 A2 B2 : Int) (F1 G1 F2 G2 : Bool)
    (ca : Hid (∀ w, Calls Tryd.prog 5 #[.agg #[.int .i64 c1, .int .i64 r1, .bool f1, .bool g1, .int .i64 c2, .int .i64 r2, .bool f2, .bool g2]] w fun e w' => e = .returned (.agg #[.int .i64 c1, .int .i64 r1, .bool f1, .bool g1, .int .i64 c2, .int .i64 r2, .bool f2, .bool g2]) ∧ Below w.heap.size w w'))
    (cm : Hid (∀ w, Calls Tryd.prog 4 #[.agg #[.int .i64 c1, .int .i64 r1, .bool f1, .bool g1, .int .i64 c2, .int .i64 r2, .bool f2, .bool g2], .bool false, .int .i64 at', .int .i64 n] w fun e w' => e = .returned (.tuple #[.agg #[.int .i64 A1, .int .i64 B1, .bool F1, .bool G1, .int .i64 A2, .int .i64 B2, .bool F2, .bool G2], .bool false]) ∧ Below w.heap.size w w'))
    (cb : Hid (∀ w, Calls Tryd.prog 6 #[.agg #[.int .i64 c1, .int .i64 r1, .bool f1, .bool g1, .int .i64 c2, .int .i64 r2, .bool f2, .bool g2]] w fun e w' => e = .returned (.tuple #[.int .i64 L, .int .i64 T, .int .i64 R, .int .i64 D]) ∧ Below w.heap.size w w'))
    (h : L < 0 ∨ at' < 0 ∨ 64 ≤ at' ∨ n < -1024 ∨ 1024 < n) :
    Calls Tryd.prog 3 #[.agg #[.int .i64 c1, .int .i64 r1, .bool f1, .bool g1, .int .i64 c2, .int .i64 r2, .bool f2, .bool g2], .bool false, .int .i64 at', .int .i64 n, .int .i64 cell] w fun e w' => e = .returned (.bool true) ∧ Below w.heap.size w w' := by
  have al : Hid (∀ w, _) := alive_any
  by_cases k0 : L < 0
  · have d0 : decide (L < 0) = true := by simpa using k0
    clear h
    go_enter Tryd.func3, Tryd.ntmps3
    go_wp2_with fail
    refine (ca.out _).mono ?_
    rintro e w1 ⟨rfl, hb1⟩
    go_wp2_with fail
    refine (cm.out _).mono ?_
    rintro e w2 ⟨rfl, hb2⟩
    have hb12 := hb1.trans (hb2.mono hb1.size)
    have hbq := hb12.alloc hb12.size (.cells #[.int .i64 A1, .int .i64 B1, .bool F1, .bool G1, .int .i64 A2, .int .i64 B2, .bool F2, .bool G2] 28)
    obtain ⟨p0, p1, p2, p3, p4, p5, p6, p7⟩ := box8 hbq
    go_wp2_with fail
    refine (ca.out _).mono ?_
    rintro e w3 ⟨rfl, hb3⟩
    clear p0 p1 p2 p3 p4 p5 p6 p7
    go_wp2_with fail
    refine (cb.out _).mono ?_
    rintro e w4 ⟨rfl, hb4⟩
    have hbB := hb3.trans (hb4.mono hb3.size)
    have hbA := hbq.trans (hbB.mono hbq.size)
    go_wp2_with (go_at_call 7; refine (al.out _).mono ?_; rintro e w9 ⟨rfl, hb9⟩)
    go_ret
    exact ⟨rfl, key1 hbA hb9⟩
  · have d0 : decide (L < 0) = false := by simpa using k0
    by_cases k1 : at' < 0
    · have d1 : decide (at' < 0) = true := by simpa using k1
      clear h
      go_enter Tryd.func3, Tryd.ntmps3
      go_wp2_with fail
      refine (ca.out _).mono ?_
      rintro e w1 ⟨rfl, hb1⟩
      go_wp2_with fail
      refine (cm.out _).mono ?_
      rintro e w2 ⟨rfl, hb2⟩
      have hb12 := hb1.trans (hb2.mono hb1.size)
      have hbq := hb12.alloc hb12.size (.cells #[.int .i64 A1, .int .i64 B1, .bool F1, .bool G1, .int .i64 A2, .int .i64 B2, .bool F2, .bool G2] 28)
      obtain ⟨p0, p1, p2, p3, p4, p5, p6, p7⟩ := box8 hbq
      go_wp2_with fail
      refine (ca.out _).mono ?_
      rintro e w3 ⟨rfl, hb3⟩
      clear p0 p1 p2 p3 p4 p5 p6 p7
      go_wp2_with fail
      refine (cb.out _).mono ?_
      rintro e w4 ⟨rfl, hb4⟩
      have hbB := hb3.trans (hb4.mono hb3.size)
      have hbA := hbq.trans (hbB.mono hbq.size)
      go_wp2_with (go_at_call 7; refine (al.out _).mono ?_; rintro e w9 ⟨rfl, hb9⟩)
      go_ret
      exact ⟨rfl, key1 hbA hb9⟩
    · have d1 : decide (at' < 0) = false := by simpa using k1
      by_cases k2 : 64 ≤ at'
      · have d2 : decide (64 ≤ at') = true := by simpa using k2
        clear h
        go_enter Tryd.func3, Tryd.ntmps3
        go_wp2_with fail
        refine (ca.out _).mono ?_
        rintro e w1 ⟨rfl, hb1⟩
        go_wp2_with fail
        refine (cm.out _).mono ?_
        rintro e w2 ⟨rfl, hb2⟩
        have hb12 := hb1.trans (hb2.mono hb1.size)
        have hbq := hb12.alloc hb12.size (.cells #[.int .i64 A1, .int .i64 B1, .bool F1, .bool G1, .int .i64 A2, .int .i64 B2, .bool F2, .bool G2] 28)
        obtain ⟨p0, p1, p2, p3, p4, p5, p6, p7⟩ := box8 hbq
        go_wp2_with fail
        refine (ca.out _).mono ?_
        rintro e w3 ⟨rfl, hb3⟩
        clear p0 p1 p2 p3 p4 p5 p6 p7
        go_wp2_with fail
        refine (cb.out _).mono ?_
        rintro e w4 ⟨rfl, hb4⟩
        have hbB := hb3.trans (hb4.mono hb3.size)
        have hbA := hbq.trans (hbB.mono hbq.size)
        go_wp2_with (go_at_call 7; refine (al.out _).mono ?_; rintro e w9 ⟨rfl, hb9⟩)
        go_ret
        exact ⟨rfl, key1 hbA hb9⟩
      · have d2 : decide (64 ≤ at') = false := by simpa using k2
        by_cases k3 : n < -1024
        · have d3 : decide (n < -1024) = true := by simpa using k3
          clear h
          go_enter Tryd.func3, Tryd.ntmps3
          go_wp2_with fail
          refine (ca.out _).mono ?_
          rintro e w1 ⟨rfl, hb1⟩
          go_wp2_with fail
          refine (cm.out _).mono ?_
          rintro e w2 ⟨rfl, hb2⟩
          have hb12 := hb1.trans (hb2.mono hb1.size)
          have hbq := hb12.alloc hb12.size (.cells #[.int .i64 A1, .int .i64 B1, .bool F1, .bool G1, .int .i64 A2, .int .i64 B2, .bool F2, .bool G2] 28)
          obtain ⟨p0, p1, p2, p3, p4, p5, p6, p7⟩ := box8 hbq
          go_wp2_with fail
          refine (ca.out _).mono ?_
          rintro e w3 ⟨rfl, hb3⟩
          clear p0 p1 p2 p3 p4 p5 p6 p7
          go_wp2_with fail
          refine (cb.out _).mono ?_
          rintro e w4 ⟨rfl, hb4⟩
          have hbB := hb3.trans (hb4.mono hb3.size)
          have hbA := hbq.trans (hbB.mono hbq.size)
          go_wp2_with (go_at_call 7; refine (al.out _).mono ?_; rintro e w9 ⟨rfl, hb9⟩)
          go_ret
          exact ⟨rfl, key1 hbA hb9⟩
        · have d3 : decide (n < -1024) = false := by simpa using k3
          have k4 : 1024 < n := by omega
          have d4 : decide (1024 < n) = true := by simpa using k4
          clear h
          go_enter Tryd.func3, Tryd.ntmps3
          go_wp2_with fail
          refine (ca.out _).mono ?_
          rintro e w1 ⟨rfl, hb1⟩
          go_wp2_with fail
          refine (cm.out _).mono ?_
          rintro e w2 ⟨rfl, hb2⟩
          have hb12 := hb1.trans (hb2.mono hb1.size)
          have hbq := hb12.alloc hb12.size (.cells #[.int .i64 A1, .int .i64 B1, .bool F1, .bool G1, .int .i64 A2, .int .i64 B2, .bool F2, .bool G2] 28)
          obtain ⟨p0, p1, p2, p3, p4, p5, p6, p7⟩ := box8 hbq
          go_wp2_with fail
          refine (ca.out _).mono ?_
          rintro e w3 ⟨rfl, hb3⟩
          clear p0 p1 p2 p3 p4 p5 p6 p7
          go_wp2_with fail
          refine (cb.out _).mono ?_
          rintro e w4 ⟨rfl, hb4⟩
          have hbB := hb3.trans (hb4.mono hb3.size)
          have hbA := hbq.trans (hbB.mono hbq.size)
          go_wp2_with (go_at_call 7; refine (al.out _).mono ?_; rintro e w9 ⟨rfl, hb9⟩)
          go_ret
          exact ⟨rfl, key1 hbA hb9⟩

set_option maxHeartbeats 4000000 in
set_option maxRecDepth 100000 in
theorem kept_bad_row (c1 r1 c2 r2 at' n cell : Int) (f1 g1 f2 g2 : Bool) (w : World) (L T R D A1 B1 A2 B2 : Int) (F1 G1 F2 G2 : Bool)
    (ca : Hid (∀ w, Calls Tryd.prog 5 #[.agg #[.int .i64 c1, .int .i64 r1, .bool f1, .bool g1, .int .i64 c2, .int .i64 r2, .bool f2, .bool g2]] w fun e w' => e = .returned (.agg #[.int .i64 c1, .int .i64 r1, .bool f1, .bool g1, .int .i64 c2, .int .i64 r2, .bool f2, .bool g2]) ∧ Below w.heap.size w w'))
    (cm : Hid (∀ w, Calls Tryd.prog 4 #[.agg #[.int .i64 c1, .int .i64 r1, .bool f1, .bool g1, .int .i64 c2, .int .i64 r2, .bool f2, .bool g2], .bool true, .int .i64 at', .int .i64 n] w fun e w' => e = .returned (.tuple #[.agg #[.int .i64 A1, .int .i64 B1, .bool F1, .bool G1, .int .i64 A2, .int .i64 B2, .bool F2, .bool G2], .bool false]) ∧ Below w.heap.size w w'))
    (cb : Hid (∀ w, Calls Tryd.prog 6 #[.agg #[.int .i64 c1, .int .i64 r1, .bool f1, .bool g1, .int .i64 c2, .int .i64 r2, .bool f2, .bool g2]] w fun e w' => e = .returned (.tuple #[.int .i64 L, .int .i64 T, .int .i64 R, .int .i64 D]) ∧ Below w.heap.size w w'))
    (h : L < 0 ∨ at' < 0 ∨ 1024 ≤ at' ∨ n < -1024 ∨ 1024 < n) :
    Calls Tryd.prog 3 #[.agg #[.int .i64 c1, .int .i64 r1, .bool f1, .bool g1, .int .i64 c2, .int .i64 r2, .bool f2, .bool g2], .bool true, .int .i64 at', .int .i64 n, .int .i64 cell] w fun e w' => e = .returned (.bool true) ∧ Below w.heap.size w w' := by
  have al : Hid (∀ w, _) := alive_any
  by_cases k0 : L < 0
  · have d0 : decide (L < 0) = true := by simpa using k0
    clear h
    go_enter Tryd.func3, Tryd.ntmps3
    go_wp2_with fail
    refine (ca.out _).mono ?_
    rintro e w1 ⟨rfl, hb1⟩
    go_wp2_with fail
    refine (cm.out _).mono ?_
    rintro e w2 ⟨rfl, hb2⟩
    have hb12 := hb1.trans (hb2.mono hb1.size)
    have hbq := hb12.alloc hb12.size (.cells #[.int .i64 A1, .int .i64 B1, .bool F1, .bool G1, .int .i64 A2, .int .i64 B2, .bool F2, .bool G2] 28)
    obtain ⟨p0, p1, p2, p3, p4, p5, p6, p7⟩ := box8 hbq
    go_wp2_with fail
    refine (ca.out _).mono ?_
    rintro e w3 ⟨rfl, hb3⟩
    clear p0 p1 p2 p3 p4 p5 p6 p7
    go_wp2_with fail
    refine (cb.out _).mono ?_
    rintro e w4 ⟨rfl, hb4⟩
    have hbB := hb3.trans (hb4.mono hb3.size)
    have hbA := hbq.trans (hbB.mono hbq.size)
    go_wp2_with (go_at_call 7; refine (al.out _).mono ?_; rintro e w9 ⟨rfl, hb9⟩)
    go_ret
    exact ⟨rfl, key1 hbA hb9⟩
  · have d0 : decide (L < 0) = false := by simpa using k0
    by_cases k1 : at' < 0
    · have d1 : decide (at' < 0) = true := by simpa using k1
      clear h
      go_enter Tryd.func3, Tryd.ntmps3
      go_wp2_with fail
      refine (ca.out _).mono ?_
      rintro e w1 ⟨rfl, hb1⟩
      go_wp2_with fail
      refine (cm.out _).mono ?_
      rintro e w2 ⟨rfl, hb2⟩
      have hb12 := hb1.trans (hb2.mono hb1.size)
      have hbq := hb12.alloc hb12.size (.cells #[.int .i64 A1, .int .i64 B1, .bool F1, .bool G1, .int .i64 A2, .int .i64 B2, .bool F2, .bool G2] 28)
      obtain ⟨p0, p1, p2, p3, p4, p5, p6, p7⟩ := box8 hbq
      go_wp2_with fail
      refine (ca.out _).mono ?_
      rintro e w3 ⟨rfl, hb3⟩
      clear p0 p1 p2 p3 p4 p5 p6 p7
      go_wp2_with fail
      refine (cb.out _).mono ?_
      rintro e w4 ⟨rfl, hb4⟩
      have hbB := hb3.trans (hb4.mono hb3.size)
      have hbA := hbq.trans (hbB.mono hbq.size)
      go_wp2_with (go_at_call 7; refine (al.out _).mono ?_; rintro e w9 ⟨rfl, hb9⟩)
      go_ret
      exact ⟨rfl, key1 hbA hb9⟩
    · have d1 : decide (at' < 0) = false := by simpa using k1
      by_cases k2 : 1024 ≤ at'
      · have d2 : decide (1024 ≤ at') = true := by simpa using k2
        clear h
        go_enter Tryd.func3, Tryd.ntmps3
        go_wp2_with fail
        refine (ca.out _).mono ?_
        rintro e w1 ⟨rfl, hb1⟩
        go_wp2_with fail
        refine (cm.out _).mono ?_
        rintro e w2 ⟨rfl, hb2⟩
        have hb12 := hb1.trans (hb2.mono hb1.size)
        have hbq := hb12.alloc hb12.size (.cells #[.int .i64 A1, .int .i64 B1, .bool F1, .bool G1, .int .i64 A2, .int .i64 B2, .bool F2, .bool G2] 28)
        obtain ⟨p0, p1, p2, p3, p4, p5, p6, p7⟩ := box8 hbq
        go_wp2_with fail
        refine (ca.out _).mono ?_
        rintro e w3 ⟨rfl, hb3⟩
        clear p0 p1 p2 p3 p4 p5 p6 p7
        go_wp2_with fail
        refine (cb.out _).mono ?_
        rintro e w4 ⟨rfl, hb4⟩
        have hbB := hb3.trans (hb4.mono hb3.size)
        have hbA := hbq.trans (hbB.mono hbq.size)
        go_wp2_with (go_at_call 7; refine (al.out _).mono ?_; rintro e w9 ⟨rfl, hb9⟩)
        go_ret
        exact ⟨rfl, key1 hbA hb9⟩
      · have d2 : decide (1024 ≤ at') = false := by simpa using k2
        by_cases k3 : n < -1024
        · have d3 : decide (n < -1024) = true := by simpa using k3
          clear h
          go_enter Tryd.func3, Tryd.ntmps3
          go_wp2_with fail
          refine (ca.out _).mono ?_
          rintro e w1 ⟨rfl, hb1⟩
          go_wp2_with fail
          refine (cm.out _).mono ?_
          rintro e w2 ⟨rfl, hb2⟩
          have hb12 := hb1.trans (hb2.mono hb1.size)
          have hbq := hb12.alloc hb12.size (.cells #[.int .i64 A1, .int .i64 B1, .bool F1, .bool G1, .int .i64 A2, .int .i64 B2, .bool F2, .bool G2] 28)
          obtain ⟨p0, p1, p2, p3, p4, p5, p6, p7⟩ := box8 hbq
          go_wp2_with fail
          refine (ca.out _).mono ?_
          rintro e w3 ⟨rfl, hb3⟩
          clear p0 p1 p2 p3 p4 p5 p6 p7
          go_wp2_with fail
          refine (cb.out _).mono ?_
          rintro e w4 ⟨rfl, hb4⟩
          have hbB := hb3.trans (hb4.mono hb3.size)
          have hbA := hbq.trans (hbB.mono hbq.size)
          go_wp2_with (go_at_call 7; refine (al.out _).mono ?_; rintro e w9 ⟨rfl, hb9⟩)
          go_ret
          exact ⟨rfl, key1 hbA hb9⟩
        · have d3 : decide (n < -1024) = false := by simpa using k3
          have k4 : 1024 < n := by omega
          have d4 : decide (1024 < n) = true := by simpa using k4
          clear h
          go_enter Tryd.func3, Tryd.ntmps3
          go_wp2_with fail
          refine (ca.out _).mono ?_
          rintro e w1 ⟨rfl, hb1⟩
          go_wp2_with fail
          refine (cm.out _).mono ?_
          rintro e w2 ⟨rfl, hb2⟩
          have hb12 := hb1.trans (hb2.mono hb1.size)
          have hbq := hb12.alloc hb12.size (.cells #[.int .i64 A1, .int .i64 B1, .bool F1, .bool G1, .int .i64 A2, .int .i64 B2, .bool F2, .bool G2] 28)
          obtain ⟨p0, p1, p2, p3, p4, p5, p6, p7⟩ := box8 hbq
          go_wp2_with fail
          refine (ca.out _).mono ?_
          rintro e w3 ⟨rfl, hb3⟩
          clear p0 p1 p2 p3 p4 p5 p6 p7
          go_wp2_with fail
          refine (cb.out _).mono ?_
          rintro e w4 ⟨rfl, hb4⟩
          have hbB := hb3.trans (hb4.mono hb3.size)
          have hbA := hbq.trans (hbB.mono hbq.size)
          go_wp2_with (go_at_call 7; refine (al.out _).mono ?_; rintro e w9 ⟨rfl, hb9⟩)
          go_ret
          exact ⟨rfl, key1 hbA hb9⟩
end Go.Proofs.YtjbkjeabobccaadDoor
