import Derived.Test.YtjbkjeabobccaadDoorRefMoved3
namespace Go.Proofs.YtjbkjeabobccaadDoor
open Go.RowKit Go.Lib
set_option linter.unusedVariables false

theorem box8 {w w' : World} {v0 v1 v2 v3 v4 v5 v6 v7 : Value} {T : TypeId} (hb : Below (w.alloc (.cells #[v0, v1, v2, v3, v4, v5, v6, v7] T)).heap.size (w.alloc (.cells #[v0, v1, v2, v3, v4, v5, v6, v7] T)) w') :
    w'.cell? ⟨w.heap.size, 0, none⟩ = some v0 ∧ w'.cell? ⟨w.heap.size, 1, none⟩ = some v1 ∧ w'.cell? ⟨w.heap.size, 2, none⟩ = some v2 ∧ w'.cell? ⟨w.heap.size, 3, none⟩ = some v3 ∧
    w'.cell? ⟨w.heap.size, 4, none⟩ = some v4 ∧ w'.cell? ⟨w.heap.size, 5, none⟩ = some v5 ∧ w'.cell? ⟨w.heap.size, 6, none⟩ = some v6 ∧ w'.cell? ⟨w.heap.size, 7, none⟩ = some v7 := by
  refine ⟨?_, ?_, ?_, ?_, ?_, ?_, ?_, ?_⟩ <;> (rw [hb.cell (by simp), World.cell?_alloc_at _ _ _ _ rfl]; rfl)

set_option maxHeartbeats 1000000 in
theorem area_at (c1 r1 c2 r2 : Int) (f1 g1 f2 g2 : Bool) (w : World) :
    Calls Tryd.prog 5 #[.agg #[.int .i64 c1, .int .i64 r1, .bool f1, .bool g1, .int .i64 c2, .int .i64 r2, .bool f2, .bool g2]] w fun e w' => e = .returned (.agg #[.int .i64 c1, .int .i64 r1, .bool f1, .bool g1, .int .i64 c2, .int .i64 r2, .bool f2, .bool g2]) ∧
      w' = ((((((w.alloc (.cells #[.int .i64 c1, .int .i64 r1, .bool f1, .bool g1, .int .i64 c2, .int .i64 r2, .bool f2, .bool g2] 25)).alloc (.cells #[.int .i64 c1, .int .i64 r1, .bool f1, .bool g1, .int .i64 c2, .int .i64 r2, .bool f2, .bool g2] 28)).alloc (.cells #[.int .i64 c1, .int .i64 r1, .bool f1, .bool g1] 23)).alloc (.cells #[.int .i64 c1, .int .i64 r1, .bool f1, .bool g1] 26)).alloc (.cells #[.int .i64 c2, .int .i64 r2, .bool f2, .bool g2] 23)).alloc (.cells #[.int .i64 c2, .int .i64 r2, .bool f2, .bool g2] 26)).drew := by
  go_enter Tryd.func5, Tryd.ntmps5
  go_wp2_with fail
  go_region_with (go_at_call 13; refine (given_at _ _ _ _ _).mono ?_; rintro e w' ⟨rfl, rfl⟩)
  all_goals
    go_wp2_with fail
    exact bodyPost_ret (v := .agg #[.int .i64 c1, .int .i64 r1, .bool f1, .bool g1, .int .i64 c2, .int .i64 r2, .bool f2, .bool g2]) (by simp [results, Tryd.results5, go_sem]) rfl ⟨rfl, rfl⟩

theorem key1 {w X w9 : World} {B : Obj} (h1 : Below (w.alloc B).heap.size (w.alloc B) X) (h2 : Below X.heap.size X w9) : Below w.heap.size w w9 :=
  ((Below.refl _ _).alloc (Nat.le_refl _) _).trans ((h1.trans (h2.mono h1.size)).mono (by simp))
end Go.Proofs.YtjbkjeabobccaadDoor
