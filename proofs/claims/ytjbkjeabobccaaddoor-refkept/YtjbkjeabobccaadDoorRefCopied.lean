import Derived.Test.YtjbkjeabobccaadDoorRefBounds3
namespace Go.Proofs.YtjbkjeabobccaadDoor
open Go.RowKit Go.Lib

set_option maxHeartbeats 400000 in
theorem outside_no (c r : Int) (fc fr : Bool) (w : World) (h : ¬ inB c r) :
    Calls Tryd.prog 9 #[.agg #[.int .i64 c, .int .i64 r, .bool fc, .bool fr]] w fun e w' => e = .returned (.bool true) ∧ w' = w.alloc (.cells #[.int .i64 c, .int .i64 r, .bool fc, .bool fr] 26) := by
  unfold inB at h
  by_cases h1 : c < 0
  · have e1 : decide (c < 0) = true := by simpa using h1
    go_enter Tryd.func9, Tryd.ntmps9
    go_wp2
    go_ret
    exact ⟨rfl, rfl⟩
  · have e1 : decide (c < 0) = false := by simpa using h1
    by_cases h2 : 64 ≤ c
    · have e2 : decide (64 ≤ c) = true := by simpa using h2
      go_enter Tryd.func9, Tryd.ntmps9
      go_wp2
      go_ret
      exact ⟨rfl, rfl⟩
    · have e2 : decide (64 ≤ c) = false := by simpa using h2
      by_cases h3 : r < 0
      · have e3 : decide (r < 0) = true := by simpa using h3
        go_enter Tryd.func9, Tryd.ntmps9
        go_wp2
        go_ret
        exact ⟨rfl, rfl⟩
      · have e3 : decide (r < 0) = false := by simpa using h3
        have e4 : decide (1024 ≤ r) = true := by simp; omega
        clear h
        go_enter Tryd.func9, Tryd.ntmps9
        go_wp2
        go_ret
        exact ⟨by first | rfl | rw [e4], rfl⟩
end Go.Proofs.YtjbkjeabobccaadDoor
