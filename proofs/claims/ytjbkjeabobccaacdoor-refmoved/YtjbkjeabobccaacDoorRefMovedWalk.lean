import Derived.Test.YtjbkjeabobccaacDoorRefMoved4
import Derived.Test.YtjbkjeabobccaacDoorRefCopiedWalk
namespace Go.Proofs.YtjbkjeabobccaacDoor
open Go.RowKit Go.Lib

theorem box8 {w w' : World} {v0 v1 v2 v3 v4 v5 v6 v7 : Value} {T : TypeId} (hb : Below (w.alloc (.cells #[v0, v1, v2, v3, v4, v5, v6, v7] T)).heap.size (w.alloc (.cells #[v0, v1, v2, v3, v4, v5, v6, v7] T)) w') :
    w'.cell? ⟨w.heap.size, 0, none⟩ = some v0 ∧ w'.cell? ⟨w.heap.size, 1, none⟩ = some v1 ∧ w'.cell? ⟨w.heap.size, 2, none⟩ = some v2 ∧ w'.cell? ⟨w.heap.size, 3, none⟩ = some v3 ∧
    w'.cell? ⟨w.heap.size, 4, none⟩ = some v4 ∧ w'.cell? ⟨w.heap.size, 5, none⟩ = some v5 ∧ w'.cell? ⟨w.heap.size, 6, none⟩ = some v6 ∧ w'.cell? ⟨w.heap.size, 7, none⟩ = some v7 := by
  refine ⟨?_, ?_, ?_, ?_, ?_, ?_, ?_, ?_⟩ <;> (rw [hb.cell (by simp), World.cell?_alloc_at _ _ _ _ rfl]; rfl)

set_option maxHeartbeats 1000000 in
theorem area_at (c1 r1 c2 r2 : Int) (f1 g1 f2 g2 : Bool) (w : World) :
    Calls Tryd.prog 16 #[.agg #[.int .i64 c1, .int .i64 r1, .bool f1, .bool g1, .int .i64 c2, .int .i64 r2, .bool f2, .bool g2]] w fun e w' => e = .returned (.agg #[.int .i64 c1, .int .i64 r1, .bool f1, .bool g1, .int .i64 c2, .int .i64 r2, .bool f2, .bool g2]) ∧
      w' = ((((((w.alloc (.cells #[.int .i64 c1, .int .i64 r1, .bool f1, .bool g1, .int .i64 c2, .int .i64 r2, .bool f2, .bool g2] 36)).alloc (.cells #[.int .i64 c1, .int .i64 r1, .bool f1, .bool g1, .int .i64 c2, .int .i64 r2, .bool f2, .bool g2] 40)).alloc (.cells #[.int .i64 c1, .int .i64 r1, .bool f1, .bool g1] 26)).alloc (.cells #[.int .i64 c1, .int .i64 r1, .bool f1, .bool g1] 23)).alloc (.cells #[.int .i64 c2, .int .i64 r2, .bool f2, .bool g2] 26)).alloc (.cells #[.int .i64 c2, .int .i64 r2, .bool f2, .bool g2] 23)).drew := by
  go_enter Tryd.func16, Tryd.ntmps16
  go_wp2_with fail
  go_region_with (go_at_call 10; refine (given_at _ _ _ _ _).mono ?_; rintro e w' ⟨rfl, rfl⟩)
  all_goals
    go_wp2_with fail
    exact bodyPost_ret (v := .agg #[.int .i64 c1, .int .i64 r1, .bool f1, .bool g1, .int .i64 c2, .int .i64 r2, .bool f2, .bool g2]) (by simp [results, Tryd.results16, go_sem]) rfl ⟨rfl, rfl⟩

theorem key9 {w X w9 : World} {B : Obj} (h1 : Below (w.alloc B).heap.size (w.alloc B) X) (h2 : Below X.heap.size X w9) : Below w.heap.size w w9 :=
  ((Below.refl _ _).alloc (Nat.le_refl _) _).trans ((h1.trans (h2.mono h1.size)).mono (by simp))

set_option maxHeartbeats 4000000 in
theorem refMoved_walk (c1 r1 c2 r2 at' n : Int) (f1 g1 f2 g2 rows : Bool) (w : World) :
    Calls Tryd.prog 7 #[.agg #[.int .i64 c1, .int .i64 r1, .bool f1, .bool g1, .int .i64 c2, .int .i64 r2, .bool f2, .bool g2], .bool rows, .int .i64 at', .int .i64 n] w fun e w' => e = .returned (.bool true) ∧ Below w.heap.size w w' := by
  have ca : Hid (∀ w, _) := fun w => area_any c1 r1 c2 r2 f1 g1 f2 g2 w
  have cm0 := fun w => moved_any c1 r1 c2 r2 at' n f1 g1 f2 g2 rows w
  have cr0 := fun w => rMoved_any c1 r1 c2 r2 at' n f1 g1 f2 g2 rows w
  obtain ⟨⟨A1, B1, F1, G1, A2, B2, F2, G2, ok⟩, e⟩ : ∃ v, movR c1 r1 c2 r2 f1 g1 f2 g2 rows at' n = v := ⟨_, rfl⟩
  rw [e] at cm0 cr0
  simp only [Ar.val] at cm0 cr0
  have cm : Hid (∀ w, _) := cm0
  have cr : Hid (∀ w, _) := cr0
  have cz : Hid (∀ w, _) := fun w => area_at A1 B1 A2 B2 F1 G1 F2 G2 w
  have al : Hid (∀ w, _) := alive_any
  clear cm0 cr0 e
  go_enter Tryd.func7, Tryd.ntmps7
  go_wp2_with fail
  refine (ca.out _).mono ?_
  rintro e w1 ⟨rfl, hb1⟩
  go_wp2_with fail
  refine (cm.out _).mono ?_
  rintro e w2 ⟨rfl, hb2⟩
  have hb12 := hb1.trans (hb2.mono hb1.size)
  have hbq := hb12.alloc hb12.size (.cells #[.int .i64 A1, .int .i64 B1, .bool F1, .bool G1, .int .i64 A2, .int .i64 B2, .bool F2, .bool G2] 40)
  obtain ⟨p0, p1, p2, p3, p4, p5, p6, p7⟩ := box8 hbq
  go_wp2_with fail
  refine (cr.out _).mono ?_
  rintro e w3 ⟨rfl, hb3⟩
  clear p0 p1 p2 p3 p4 p5 p6 p7
  have hw3 := hbq.trans (hb3.mono hbq.size)
  have z1 : w.heap.size + 1 ≤ w2.heap.size := by have := hb12.size; simpa using this
  have z3 : w2.heap.size + 1 ≤ w3.heap.size := by have := hb3.size; simpa using this
  have hb4 := hb3.alloc hb3.size (.cells #[.int .i64 A1, .int .i64 B1, .bool F1, .bool G1, .int .i64 A2, .int .i64 B2, .bool F2, .bool G2] 36)
  obtain ⟨p0, p1, p2, p3, p4, p5, p6, p7⟩ := box8 hb4
  have hq : ∀ o1 o2 o3 o4 o5 o6, _ := fun o1 o2 o3 o4 o5 o6 => box8 ((((((hb4.alloc hb4.size o1).alloc (by simp; omega) o2).alloc (by simp; omega) o3).alloc (by simp; omega) o4).alloc (by simp; omega) o5).alloc (by simp; omega) o6)
  have q0 := fun o1 o2 o3 o4 o5 o6 => (hq o1 o2 o3 o4 o5 o6).1
  have q1 := fun o1 o2 o3 o4 o5 o6 => (hq o1 o2 o3 o4 o5 o6).2.1
  have q2 := fun o1 o2 o3 o4 o5 o6 => (hq o1 o2 o3 o4 o5 o6).2.2.1
  have q3 := fun o1 o2 o3 o4 o5 o6 => (hq o1 o2 o3 o4 o5 o6).2.2.2.1
  have q4 := fun o1 o2 o3 o4 o5 o6 => (hq o1 o2 o3 o4 o5 o6).2.2.2.2.1
  have q5 := fun o1 o2 o3 o4 o5 o6 => (hq o1 o2 o3 o4 o5 o6).2.2.2.2.2.1
  have q6 := fun o1 o2 o3 o4 o5 o6 => (hq o1 o2 o3 o4 o5 o6).2.2.2.2.2.2.1
  have q7 := fun o1 o2 o3 o4 o5 o6 => (hq o1 o2 o3 o4 o5 o6).2.2.2.2.2.2.2
  clear hq
  have hw4 := hw3.alloc hw3.size (.cells #[.int .i64 A1, .int .i64 B1, .bool F1, .bool G1, .int .i64 A2, .int .i64 B2, .bool F2, .bool G2] 36)
  go_wp2_with fail
  go_region_with (first | (go_at_call 16; refine (cz.out _).mono ?_; rintro e w' ⟨rfl, rfl⟩) | (go_at_call 12; refine (al.out _).mono ?_; rintro e w9 ⟨rfl, hb9⟩))
  all_goals (go_wp2_with fail; go_ret; exact ⟨rfl, key9 (w := w) (by go_grown) hb9⟩)
end Go.Proofs.YtjbkjeabobccaacDoor
