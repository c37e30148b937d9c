import Derived.Test.YtjbkjeabobccaadDoorRefBounds3
namespace Go.Proofs.YtjbkjeabobccaadDoor
open Go.RowKit Go.Lib
set_option linter.unusedVariables false

set_option maxHeartbeats 1000000 in
theorem putIn_ff (b i j : Nat) (x y at' n size : Int) (w : World) (hij : i ≠ j) (hx : w.cell? ⟨b, i, none⟩ = some (.int .i64 x)) (hy : w.cell? ⟨b, j, none⟩ = some (.int .i64 y)) (fx : w.frozen? ⟨b, i, none⟩ = false) (fy : w.frozen? ⟨b, j, none⟩ = false) (hb : b < w.heap.size)
    (h1 : ¬ (at' ≤ x)) (h2 : ¬ (at' ≤ y)) (hs0 : 0 < size) (hs1 : size ≤ 1024) (bx : 0 ≤ x) (bx' : x ≤ 1024) (by' : 0 ≤ y) (by'' : y ≤ 1024) (bn : 0 ≤ n) (bn' : n ≤ 1024) :
    Calls Tryd.prog 11 #[.pointer (some ⟨b, i, none⟩), .pointer (some ⟨b, j, none⟩), .int .i64 at', .int .i64 n, .int .i64 size] w fun e w' => e = .returned (.bool (decide (x < size))) ∧ w' = (w.setCell ⟨b, j, none⟩ (.int .i64 (min y (size - 1)))).alloc (.cells #[.pointer (some ⟨b, i, none⟩), .pointer (some ⟨b, j, none⟩)] 38) := by
  have hx1 : ∀ o, (w.alloc o).cell? ⟨b, i, none⟩ = some (.int .i64 x) := fun o => by rw [World.cell?_alloc_past _ _ _ hb]; exact hx
  have hy1 : ∀ o, (w.alloc o).cell? ⟨b, j, none⟩ = some (.int .i64 y) := fun o => by rw [World.cell?_alloc_past _ _ _ hb]; exact hy
  have hji : j ≠ i := fun h => hij h.symm
  go_enter Tryd.func11, Tryd.ntmps11
  go_wp2_with fail
  go_rounds 3
  go_ret
  exact ⟨rfl, rfl⟩

set_option maxHeartbeats 1000000 in
theorem putIn_ft (b i j : Nat) (x y at' n size : Int) (w : World) (hij : i ≠ j) (hx : w.cell? ⟨b, i, none⟩ = some (.int .i64 x)) (hy : w.cell? ⟨b, j, none⟩ = some (.int .i64 y)) (fx : w.frozen? ⟨b, i, none⟩ = false) (fy : w.frozen? ⟨b, j, none⟩ = false) (hb : b < w.heap.size)
    (h1 : ¬ (at' ≤ x)) (h2 : at' ≤ y) (hs0 : 0 < size) (hs1 : size ≤ 1024) (bx : 0 ≤ x) (bx' : x ≤ 1024) (by' : 0 ≤ y) (by'' : y ≤ 1024) (bn : 0 ≤ n) (bn' : n ≤ 1024) :
    Calls Tryd.prog 11 #[.pointer (some ⟨b, i, none⟩), .pointer (some ⟨b, j, none⟩), .int .i64 at', .int .i64 n, .int .i64 size] w fun e w' => e = .returned (.bool (decide (x < size))) ∧ w' = ((w.setCell ⟨b, j, none⟩ (.int .i64 (y + n))).setCell ⟨b, j, none⟩ (.int .i64 (min (y + n) (size - 1)))).alloc (.cells #[.pointer (some ⟨b, i, none⟩), .pointer (some ⟨b, j, none⟩)] 38) := by
  have hx1 : ∀ o, (w.alloc o).cell? ⟨b, i, none⟩ = some (.int .i64 x) := fun o => by rw [World.cell?_alloc_past _ _ _ hb]; exact hx
  have hy1 : ∀ o, (w.alloc o).cell? ⟨b, j, none⟩ = some (.int .i64 y) := fun o => by rw [World.cell?_alloc_past _ _ _ hb]; exact hy
  have hji : j ≠ i := fun h => hij h.symm
  go_enter Tryd.func11, Tryd.ntmps11
  go_wp2_with fail
  go_rounds 3
  go_ret
  exact ⟨rfl, rfl⟩

set_option maxHeartbeats 1000000 in
theorem putIn_tt (b i j : Nat) (x y at' n size : Int) (w : World) (hij : i ≠ j) (hx : w.cell? ⟨b, i, none⟩ = some (.int .i64 x)) (hy : w.cell? ⟨b, j, none⟩ = some (.int .i64 y)) (fx : w.frozen? ⟨b, i, none⟩ = false) (fy : w.frozen? ⟨b, j, none⟩ = false) (hb : b < w.heap.size)
    (h1 : at' ≤ x) (h2 : at' ≤ y) (hs0 : 0 < size) (hs1 : size ≤ 1024) (bx : 0 ≤ x) (bx' : x ≤ 1024) (by' : 0 ≤ y) (by'' : y ≤ 1024) (bn : 0 ≤ n) (bn' : n ≤ 1024) :
    Calls Tryd.prog 11 #[.pointer (some ⟨b, i, none⟩), .pointer (some ⟨b, j, none⟩), .int .i64 at', .int .i64 n, .int .i64 size] w fun e w' => e = .returned (.bool (decide ((x + n) < size))) ∧ w' = (((w.setCell ⟨b, i, none⟩ (.int .i64 (x + n))).setCell ⟨b, j, none⟩ (.int .i64 (y + n))).setCell ⟨b, j, none⟩ (.int .i64 (min (y + n) (size - 1)))).alloc (.cells #[.pointer (some ⟨b, i, none⟩), .pointer (some ⟨b, j, none⟩)] 38) := by
  have hx1 : ∀ o, (w.alloc o).cell? ⟨b, i, none⟩ = some (.int .i64 x) := fun o => by rw [World.cell?_alloc_past _ _ _ hb]; exact hx
  have hy1 : ∀ o, (w.alloc o).cell? ⟨b, j, none⟩ = some (.int .i64 y) := fun o => by rw [World.cell?_alloc_past _ _ _ hb]; exact hy
  have hji : j ≠ i := fun h => hij h.symm
  go_enter Tryd.func11, Tryd.ntmps11
  go_wp2_with fail
  go_rounds 3
  go_ret
  exact ⟨rfl, rfl⟩

set_option maxHeartbeats 1000000 in
theorem takeOut_bb (b i j : Nat) (x y at' n : Int) (w : World) (hij : i ≠ j) (hx : w.cell? ⟨b, i, none⟩ = some (.int .i64 x)) (hy : w.cell? ⟨b, j, none⟩ = some (.int .i64 y)) (fx : w.frozen? ⟨b, i, none⟩ = false) (fy : w.frozen? ⟨b, j, none⟩ = false)
    (h1 : ¬ (at' + n ≤ x)) (h1' : ¬ (at' ≤ x)) (h2 : ¬ (at' + n ≤ y)) (h2' : ¬ (at' ≤ y)) (bx : 0 ≤ x) (bx' : x ≤ 1024) (by' : 0 ≤ y) (by'' : y ≤ 1024) (bn : 0 ≤ n) (bn' : n ≤ 1024) (ba : 0 ≤ at') (ba' : at' ≤ 1024) :
    Calls Tryd.prog 12 #[.pointer (some ⟨b, i, none⟩), .pointer (some ⟨b, j, none⟩), .int .i64 at', .int .i64 n] w fun e w' => e = .returned (.bool (decide (x ≤ y))) ∧ ∃ k, w' = (w).drewN k := by
  have hji : j ≠ i := fun h => hij h.symm
  go_enter Tryd.func12, Tryd.ntmps12
  go_wp2_with fail
  go_quiet (fail)
  go_wp2_with fail
  go_ret
  exact ⟨rfl, _, rfl⟩

set_option maxHeartbeats 1000000 in
theorem takeOut_bm (b i j : Nat) (x y at' n : Int) (w : World) (hij : i ≠ j) (hx : w.cell? ⟨b, i, none⟩ = some (.int .i64 x)) (hy : w.cell? ⟨b, j, none⟩ = some (.int .i64 y)) (fx : w.frozen? ⟨b, i, none⟩ = false) (fy : w.frozen? ⟨b, j, none⟩ = false)
    (h1 : ¬ (at' + n ≤ x)) (h1' : ¬ (at' ≤ x)) (h2 : ¬ (at' + n ≤ y)) (h2' : at' ≤ y) (bx : 0 ≤ x) (bx' : x ≤ 1024) (by' : 0 ≤ y) (by'' : y ≤ 1024) (bn : 0 ≤ n) (bn' : n ≤ 1024) (ba : 0 ≤ at') (ba' : at' ≤ 1024) :
    Calls Tryd.prog 12 #[.pointer (some ⟨b, i, none⟩), .pointer (some ⟨b, j, none⟩), .int .i64 at', .int .i64 n] w fun e w' => e = .returned (.bool (decide (x ≤ (at' - 1)))) ∧ ∃ k, w' = ((w.setCell ⟨b, j, none⟩ (.int .i64 (at' - 1)))).drewN k := by
  have hji : j ≠ i := fun h => hij h.symm
  go_enter Tryd.func12, Tryd.ntmps12
  go_wp2_with fail
  go_quiet (fail)
  go_wp2_with fail
  go_ret
  exact ⟨rfl, _, rfl⟩

set_option maxHeartbeats 1000000 in
theorem takeOut_ba (b i j : Nat) (x y at' n : Int) (w : World) (hij : i ≠ j) (hx : w.cell? ⟨b, i, none⟩ = some (.int .i64 x)) (hy : w.cell? ⟨b, j, none⟩ = some (.int .i64 y)) (fx : w.frozen? ⟨b, i, none⟩ = false) (fy : w.frozen? ⟨b, j, none⟩ = false)
    (h1 : ¬ (at' + n ≤ x)) (h1' : ¬ (at' ≤ x)) (h2 : at' + n ≤ y) (bx : 0 ≤ x) (bx' : x ≤ 1024) (by' : 0 ≤ y) (by'' : y ≤ 1024) (bn : 0 ≤ n) (bn' : n ≤ 1024) (ba : 0 ≤ at') (ba' : at' ≤ 1024) :
    Calls Tryd.prog 12 #[.pointer (some ⟨b, i, none⟩), .pointer (some ⟨b, j, none⟩), .int .i64 at', .int .i64 n] w fun e w' => e = .returned (.bool (decide (x ≤ (y - n)))) ∧ ∃ k, w' = ((w.setCell ⟨b, j, none⟩ (.int .i64 (y - n)))).drewN k := by
  have hji : j ≠ i := fun h => hij h.symm
  go_enter Tryd.func12, Tryd.ntmps12
  go_wp2_with fail
  go_quiet (fail)
  go_wp2_with fail
  go_ret
  exact ⟨rfl, _, rfl⟩

set_option maxHeartbeats 1000000 in
theorem takeOut_mm (b i j : Nat) (x y at' n : Int) (w : World) (hij : i ≠ j) (hx : w.cell? ⟨b, i, none⟩ = some (.int .i64 x)) (hy : w.cell? ⟨b, j, none⟩ = some (.int .i64 y)) (fx : w.frozen? ⟨b, i, none⟩ = false) (fy : w.frozen? ⟨b, j, none⟩ = false)
    (h1 : ¬ (at' + n ≤ x)) (h1' : at' ≤ x) (h2 : ¬ (at' + n ≤ y)) (h2' : at' ≤ y) (bx : 0 ≤ x) (bx' : x ≤ 1024) (by' : 0 ≤ y) (by'' : y ≤ 1024) (bn : 0 ≤ n) (bn' : n ≤ 1024) (ba : 0 ≤ at') (ba' : at' ≤ 1024) :
    Calls Tryd.prog 12 #[.pointer (some ⟨b, i, none⟩), .pointer (some ⟨b, j, none⟩), .int .i64 at', .int .i64 n] w fun e w' => e = .returned (.bool (decide (at' ≤ (at' - 1)))) ∧ ∃ k, w' = (((w.setCell ⟨b, i, none⟩ (.int .i64 at')).setCell ⟨b, j, none⟩ (.int .i64 (at' - 1)))).drewN k := by
  have hji : j ≠ i := fun h => hij h.symm
  go_enter Tryd.func12, Tryd.ntmps12
  go_wp2_with fail
  go_quiet (fail)
  go_wp2_with fail
  go_ret
  exact ⟨rfl, _, rfl⟩

set_option maxHeartbeats 1000000 in
theorem takeOut_ma (b i j : Nat) (x y at' n : Int) (w : World) (hij : i ≠ j) (hx : w.cell? ⟨b, i, none⟩ = some (.int .i64 x)) (hy : w.cell? ⟨b, j, none⟩ = some (.int .i64 y)) (fx : w.frozen? ⟨b, i, none⟩ = false) (fy : w.frozen? ⟨b, j, none⟩ = false)
    (h1 : ¬ (at' + n ≤ x)) (h1' : at' ≤ x) (h2 : at' + n ≤ y) (bx : 0 ≤ x) (bx' : x ≤ 1024) (by' : 0 ≤ y) (by'' : y ≤ 1024) (bn : 0 ≤ n) (bn' : n ≤ 1024) (ba : 0 ≤ at') (ba' : at' ≤ 1024) :
    Calls Tryd.prog 12 #[.pointer (some ⟨b, i, none⟩), .pointer (some ⟨b, j, none⟩), .int .i64 at', .int .i64 n] w fun e w' => e = .returned (.bool (decide (at' ≤ (y - n)))) ∧ ∃ k, w' = (((w.setCell ⟨b, i, none⟩ (.int .i64 at')).setCell ⟨b, j, none⟩ (.int .i64 (y - n)))).drewN k := by
  have hji : j ≠ i := fun h => hij h.symm
  go_enter Tryd.func12, Tryd.ntmps12
  go_wp2_with fail
  go_quiet (fail)
  go_wp2_with fail
  go_ret
  exact ⟨rfl, _, rfl⟩

set_option maxHeartbeats 1000000 in
theorem takeOut_aa (b i j : Nat) (x y at' n : Int) (w : World) (hij : i ≠ j) (hx : w.cell? ⟨b, i, none⟩ = some (.int .i64 x)) (hy : w.cell? ⟨b, j, none⟩ = some (.int .i64 y)) (fx : w.frozen? ⟨b, i, none⟩ = false) (fy : w.frozen? ⟨b, j, none⟩ = false)
    (h1 : at' + n ≤ x) (h2 : at' + n ≤ y) (bx : 0 ≤ x) (bx' : x ≤ 1024) (by' : 0 ≤ y) (by'' : y ≤ 1024) (bn : 0 ≤ n) (bn' : n ≤ 1024) (ba : 0 ≤ at') (ba' : at' ≤ 1024) :
    Calls Tryd.prog 12 #[.pointer (some ⟨b, i, none⟩), .pointer (some ⟨b, j, none⟩), .int .i64 at', .int .i64 n] w fun e w' => e = .returned (.bool (decide (x ≤ y))) ∧ ∃ k, w' = (((w.setCell ⟨b, i, none⟩ (.int .i64 (x - n))).setCell ⟨b, j, none⟩ (.int .i64 (y - n)))).drewN k := by
  have hji : j ≠ i := fun h => hij h.symm
  go_enter Tryd.func12, Tryd.ntmps12
  go_wp2_with fail
  go_quiet (fail)
  go_wp2_with fail
  go_ret
  exact ⟨rfl, _, rfl⟩

set_option maxHeartbeats 400000 in
theorem sizeOf_col (w : World) : Calls Tryd.prog 8 #[.bool false] w fun e w' => e = .returned (.int .i64 64) ∧ w' = w := by
  go_enter Tryd.func8, Tryd.ntmps8
  go_wp2
  go_ret
  exact ⟨rfl, rfl⟩
set_option maxHeartbeats 400000 in
theorem sizeOf_row (w : World) : Calls Tryd.prog 8 #[.bool true] w fun e w' => e = .returned (.int .i64 1024) ∧ w' = w := by
  go_enter Tryd.func8, Tryd.ntmps8
  go_wp2
  go_ret
  exact ⟨rfl, rfl⟩
end Go.Proofs.YtjbkjeabobccaadDoor
