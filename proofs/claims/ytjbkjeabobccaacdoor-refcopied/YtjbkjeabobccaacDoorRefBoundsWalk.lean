import Derived.Test.YtjbkjeabobccaacDoorRefBounds3
namespace Go.Proofs.YtjbkjeabobccaacDoor
open Go.RowKit Go.Lib

/-- What lay below a world's end lies there still. -/
theorem bcell {W w1 : World} (hb : Below W.heap.size W w1) : (∀ b o, b < W.heap.size → w1.cell? ⟨b, o, none⟩ = W.cell? ⟨b, o, none⟩) ∧ (∀ b o, b < W.heap.size → w1.frozen? ⟨b, o, none⟩ = W.frozen? ⟨b, o, none⟩) :=
  ⟨fun b o h => hb.cell (p := ⟨b, o, none⟩) h, fun b o h => hb.frozen (p := ⟨b, o, none⟩) h⟩

set_option maxHeartbeats 2000000 in
theorem refBounds_walk (c1 r1 c2 r2 : Int) (f1 g1 f2 g2 : Bool) (w : World) :
    Calls Tryd.prog 5 #[.agg #[.int .i64 c1, .int .i64 r1, .bool f1, .bool g1, .int .i64 c2, .int .i64 r2, .bool f2, .bool g2]] w fun e w' => e = .returned (.bool true) ∧ Below w.heap.size w w' := by
  have ca : Hid (∀ w, _) := fun w => area_any c1 r1 c2 r2 f1 g1 f2 g2 w
  have cb0 := fun w => bounds_any c1 r1 c2 r2 f1 g1 f2 g2 w
  have cr0 := fun w => rBounds_any c1 r1 c2 r2 f1 g1 f2 g2 w
  obtain ⟨⟨x, y, z, t⟩, e⟩ : ∃ v, bdR c1 r1 c2 r2 = v := ⟨_, rfl⟩
  rw [e] at cb0 cr0
  have cb : Hid (∀ w, _) := cb0
  have cr : Hid (∀ w, _) := cr0
  have al : Hid (∀ w, _) := alive_any
  clear cb0 cr0 e
  go_enter Tryd.func5, Tryd.ntmps5
  go_wp2_with fail
  refine (ca.out _).mono ?_
  rintro e w1 ⟨rfl, hb1⟩
  have s1 : w.heap.size + 1 ≤ w1.heap.size := by have := hb1.size; simpa using this
  go_wp2_with fail
  refine (cb.out _).mono ?_
  rintro e w2 ⟨rfl, hb2⟩
  have hb12 := hb1.trans (hb2.mono hb1.size)
  have s2 : w.heap.size + 1 ≤ w2.heap.size := by have := hb12.size; simpa using this
  obtain ⟨k1, k2⟩ := bcell hb12
  go_wp2_with fail
  refine (cr.out _).mono ?_
  rintro e w3 ⟨rfl, hb3⟩
  have hb13 := hb12.trans (hb3.mono hb12.size)
  go_wp2_with (go_at_call 12; refine (al.out _).mono ?_; rintro e w4 ⟨rfl, hb4⟩)
  go_ret
  refine ⟨rfl, ?_⟩
  have hb14 := hb13.trans (hb4.mono hb13.size)
  exact ((Below.refl _ _).alloc (Nat.le_refl _) _).trans (hb14.mono (by simp))
end Go.Proofs.YtjbkjeabobccaacDoor
