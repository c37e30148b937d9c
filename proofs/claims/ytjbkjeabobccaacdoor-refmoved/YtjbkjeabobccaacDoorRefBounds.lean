import Derived.Test.YtjbkjeabobccaacDoorRefAlive
namespace Go.Proofs.YtjbkjeabobccaacDoor
open Go.RowKit Go.Lib

set_option maxHeartbeats 400000 in
theorem given_any (c r : Int) (fc fr : Bool) (w : World) :
    Calls Tryd.prog 10 #[.agg #[.int .i64 c, .int .i64 r, .bool fc, .bool fr]] w fun e w' => e = .returned (.agg #[.int .i64 c, .int .i64 r, .bool fc, .bool fr]) ∧ Below w.heap.size w w' := by
  go_enter Tryd.func10, Tryd.ntmps10
  go_wp2
  refine bodyPost_ret (v := .agg #[.int .i64 c, .int .i64 r, .bool fc, .bool fr]) (by simp [results, Tryd.results10, go_sem]) rfl ⟨rfl, ?_⟩
  go_grown

set_option maxHeartbeats 400000 in
theorem part_row (b off : Nat) (w : World) :
    Calls Tryd.prog 33 #[.pointer (some ⟨b, off, none⟩), .bool true] w fun e w' => e = .returned (.pointer (some ⟨b, off + 1, none⟩)) ∧ w' = w := by
  go_enter Tryd.func33, Tryd.ntmps33
  go_wp2
  go_ret
  exact ⟨rfl, rfl⟩
set_option maxHeartbeats 400000 in
theorem part_col (b off : Nat) (w : World) :
    Calls Tryd.prog 33 #[.pointer (some ⟨b, off, none⟩), .bool false] w fun e w' => e = .returned (.pointer (some ⟨b, off, none⟩)) ∧ w' = w := by
  go_enter Tryd.func33, Tryd.ntmps33
  go_wp2
  go_ret
  exact ⟨rfl, rfl⟩
set_option maxHeartbeats 1000000 in
theorem ends_col_lt (b : Nat) (x y : Int) (w : World) (h0 : w.cell? ⟨b, 0, none⟩ = some (.int .i64 x)) (h1 : w.cell? ⟨b, 4, none⟩ = some (.int .i64 y)) (h : y < x) :
    Calls Tryd.prog 32 #[.pointer (some ⟨b, 0, none⟩), .bool false] w fun e w' => e = .returned (.tuple #[.pointer (some ⟨b, 4, none⟩), .pointer (some ⟨b, 0, none⟩)]) ∧ ∃ n, w' = w.drewN n := by
  go_enter Tryd.func32, Tryd.ntmps32
  go_wp2_with fail
  go_quiet ((go_at_call 33; exact Calls.quiet_of_same (part_col _ _ _)))
  go_wp2_with fail
  go_quiet (fail)
  go_wp2_with fail
  go_ret2
  exact ⟨rfl, _, World.drewN_drewN ..⟩
set_option maxHeartbeats 1000000 in
theorem ends_col_ge (b : Nat) (x y : Int) (w : World) (h0 : w.cell? ⟨b, 0, none⟩ = some (.int .i64 x)) (h1 : w.cell? ⟨b, 4, none⟩ = some (.int .i64 y)) (h : ¬ y < x) :
    Calls Tryd.prog 32 #[.pointer (some ⟨b, 0, none⟩), .bool false] w fun e w' => e = .returned (.tuple #[.pointer (some ⟨b, 0, none⟩), .pointer (some ⟨b, 4, none⟩)]) ∧ ∃ n, w' = w.drewN n := by
  go_enter Tryd.func32, Tryd.ntmps32
  go_wp2_with fail
  go_quiet ((go_at_call 33; exact Calls.quiet_of_same (part_col _ _ _)))
  go_wp2_with fail
  go_quiet (fail)
  go_wp2_with fail
  go_ret2
  exact ⟨rfl, _, World.drewN_drewN ..⟩
set_option maxHeartbeats 1000000 in
theorem ends_row_lt (b : Nat) (x y : Int) (w : World) (h0 : w.cell? ⟨b, 1, none⟩ = some (.int .i64 x)) (h1 : w.cell? ⟨b, 5, none⟩ = some (.int .i64 y)) (h : y < x) :
    Calls Tryd.prog 32 #[.pointer (some ⟨b, 0, none⟩), .bool true] w fun e w' => e = .returned (.tuple #[.pointer (some ⟨b, 5, none⟩), .pointer (some ⟨b, 1, none⟩)]) ∧ ∃ n, w' = w.drewN n := by
  go_enter Tryd.func32, Tryd.ntmps32
  go_wp2_with fail
  go_quiet ((go_at_call 33; exact Calls.quiet_of_same (part_row _ _ _)))
  go_wp2_with fail
  go_quiet (fail)
  go_wp2_with fail
  go_ret2
  exact ⟨rfl, _, World.drewN_drewN ..⟩
set_option maxHeartbeats 1000000 in
theorem ends_row_ge (b : Nat) (x y : Int) (w : World) (h0 : w.cell? ⟨b, 1, none⟩ = some (.int .i64 x)) (h1 : w.cell? ⟨b, 5, none⟩ = some (.int .i64 y)) (h : ¬ y < x) :
    Calls Tryd.prog 32 #[.pointer (some ⟨b, 0, none⟩), .bool true] w fun e w' => e = .returned (.tuple #[.pointer (some ⟨b, 1, none⟩), .pointer (some ⟨b, 5, none⟩)]) ∧ ∃ n, w' = w.drewN n := by
  go_enter Tryd.func32, Tryd.ntmps32
  go_wp2_with fail
  go_quiet ((go_at_call 33; exact Calls.quiet_of_same (part_row _ _ _)))
  go_wp2_with fail
  go_quiet (fail)
  go_wp2_with fail
  go_ret2
  exact ⟨rfl, _, World.drewN_drewN ..⟩
theorem ends_col (b : Nat) (x y : Int) (w : World) (h0 : w.cell? ⟨b, 0, none⟩ = some (.int .i64 x)) (h1 : w.cell? ⟨b, 4, none⟩ = some (.int .i64 y)) :
    Calls Tryd.prog 32 #[.pointer (some ⟨b, 0, none⟩), .bool false] w fun e w' => e = .returned (.tuple #[.pointer (some ⟨b, if y < x then 4 else 0, none⟩), .pointer (some ⟨b, if y < x then 0 else 4, none⟩)]) ∧ ∃ n, w' = w.drewN n := by
  by_cases h : y < x
  · rw [if_pos h, if_pos h]
    exact ends_col_lt b x y w h0 h1 h
  · rw [if_neg h, if_neg h]
    exact ends_col_ge b x y w h0 h1 h
theorem ends_row (b : Nat) (x y : Int) (w : World) (h0 : w.cell? ⟨b, 1, none⟩ = some (.int .i64 x)) (h1 : w.cell? ⟨b, 5, none⟩ = some (.int .i64 y)) :
    Calls Tryd.prog 32 #[.pointer (some ⟨b, 0, none⟩), .bool true] w fun e w' => e = .returned (.tuple #[.pointer (some ⟨b, if y < x then 5 else 1, none⟩), .pointer (some ⟨b, if y < x then 1 else 5, none⟩)]) ∧ ∃ n, w' = w.drewN n := by
  by_cases h : y < x
  · rw [if_pos h, if_pos h]
    exact ends_row_lt b x y w h0 h1 h
  · rw [if_neg h, if_neg h]
    exact ends_row_ge b x y w h0 h1 h

theorem outside_bel (c r : Int) (fc fr : Bool) (w : World) (h : inB c r) :
    Calls Tryd.prog 26 #[.agg #[.int .i64 c, .int .i64 r, .bool fc, .bool fr]] w fun e w' => e = .returned (.bool false) ∧ Below w.heap.size w w' := by
  refine (outside_in c r fc fr w h).mono ?_
  rintro e w' ⟨rfl, rfl⟩
  exact ⟨rfl, (Below.refl _ _).alloc (Nat.le_refl _) _⟩

set_option maxHeartbeats 400000 in
theorem outside_out (c r : Int) (fc fr : Bool) (w : World) (h : ¬ inB c r) :
    Calls Tryd.prog 26 #[.agg #[.int .i64 c, .int .i64 r, .bool fc, .bool fr]] w fun e w' => e = .returned (.bool true) ∧ Below w.heap.size w w' := by
  unfold inB at h
  by_cases h1 : c < 0
  · have e1 : decide (c < 0) = true := by simpa using h1
    go_enter Tryd.func26, Tryd.ntmps26
    go_wp2
    go_ret
    exact ⟨rfl, (Below.refl _ _).alloc (Nat.le_refl _) _⟩
  · have e1 : decide (c < 0) = false := by simpa using h1
    by_cases h2 : 64 ≤ c
    · have e2 : decide (64 ≤ c) = true := by simpa using h2
      go_enter Tryd.func26, Tryd.ntmps26
      go_wp2
      go_ret
      exact ⟨rfl, (Below.refl _ _).alloc (Nat.le_refl _) _⟩
    · have e2 : decide (64 ≤ c) = false := by simpa using h2
      by_cases h3 : r < 0
      · have e3 : decide (r < 0) = true := by simpa using h3
        go_enter Tryd.func26, Tryd.ntmps26
        go_wp2
        go_ret
        exact ⟨rfl, (Below.refl _ _).alloc (Nat.le_refl _) _⟩
      · have e3 : decide (r < 0) = false := by simpa using h3
        have e4 : decide (1024 ≤ r) = true := by simp; omega
        clear h
        go_enter Tryd.func26, Tryd.ntmps26
        go_wp2
        go_ret
        exact ⟨by first | rfl | rw [e4], (Below.refl _ _).alloc (Nat.le_refl _) _⟩
end Go.Proofs.YtjbkjeabobccaacDoor
