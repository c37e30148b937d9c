import Derived.Test.YtjbkjeabobccaacDoorRefParses1
import Derived.Test.YtjbkjeabobccaacDoorRefPrintsWalk
namespace Go.Proofs.YtjbkjeabobccaacDoor
open Go.RowKit Go.Sort Go.Lib
set_option linter.unusedVariables false

/-- What the walk of the law wants of the document's own reader. -/
def Reads (s : ByteArray) : Prop := ∀ w : World, Calls Tryd.prog 9 #[.string s] w fun e w' => e = .returned (.tuple #[.agg #[.int .i64 (cellR s.data.toList).1, .int .i64 (cellR s.data.toList).2.1, .bool (cellR s.data.toList).2.2.1, .bool (cellR s.data.toList).2.2.2.1], .bool (cellR s.data.toList).2.2.2.2]) ∧ Below w.heap.size w w'
theorem lenEq {n m : Nat} (h : n = m) : ((n : Int) == (m : Int)) = true := by rw [h]; simp

set_option maxHeartbeats 8000000 in
theorem refParses_yes (s : ByteArray) (w : World) (hs : s.size ≤ maxLen) (hE : TabE w) (hR : Reads s) (c r : Nat) (x y : Int) (f g : Bool) (hx : x = c) (hy : y = r) (hc : c < 64) (hr : r < 1024)
    (he : cellR s.data.toList = (x, y, f, g, true)) (hz : (nameB c r f g).size = s.size) :
    Calls Tryd.prog 3 #[.string s] w fun e w' => e = .returned (.bool true) ∧ Below w.heap.size w w' := by
  have cg : Hid (∀ w, _) := fun w => given_at x y f g w
  have cp0 := fun w h => print_in c r x y f g w hx hy hc hr h
  obtain ⟨N, eN⟩ : ∃ N, nameB c r f g = N := ⟨_, rfl⟩
  rw [eN] at hz cp0
  have cp : Hid (∀ w, TabE w → _) := cp0
  have ca0 := fun w => parse_any s w hs
  have cq0 := fun w => hR w
  rw [he] at ca0 cq0
  have ca : Hid (∀ w, _) := ca0
  have cq : Hid (∀ w, _) := cq0
  have al : Hid (∀ w, _) := alive_any
  have HE : Hid (TabE w) := hE
  clear ca0 cq0 cp0 eN hx hy he hE hR
  go_enter Tryd.func3, Tryd.ntmps3
  go_wp2_with fail
  refine (ca.out _).mono ?_
  rintro e w1 ⟨rfl, hb1⟩
  go_wp2_with fail
  refine (cq.out _).mono ?_
  rintro e w2 ⟨rfl, hb2⟩
  obtain ⟨p0, p1, p2, p3⟩ := boxr hb2
  have zA : w1.heap.size < w2.heap.size := by have := hb2.size; simp at this; omega
  have zA' : ∀ k, w1.heap.size < w2.heap.size + k := fun k => by omega
  have zB : w.heap.size < w2.heap.size := by have := hb1.size; omega
  have zB' : ∀ k, w.heap.size < w2.heap.size + k := fun k => by omega
  have G2 : ∀ (X A B : Obj) (o : Nat), (((w2.alloc X).alloc A).alloc B).cell? ⟨w1.heap.size, o, none⟩ = w2.cell? ⟨w1.heap.size, o, none⟩ := fun X A B o => by
    rw [World.cell?_alloc_past _ _ _ (by simp; omega), World.cell?_alloc_past _ _ _ (by simp; omega), World.cell?_alloc_past _ _ _ zA]
  have B2 : Below w.heap.size w (w2.alloc (.cells #[.int .i64 x, .int .i64 y, .bool f, .bool g] 26)) := ((hb1.alloc hb1.size _).trans (hb2.mono (by have := hb1.size; simp; omega))).alloc (by have := hb1.size; omega) _
  clear hb1 hb2
  go_wp2_with fail
  go_region_held2 (fun w' => w'.cell? ⟨w1.heap.size, 0, none⟩ = some (.int .i64 x) ∧ w'.cell? ⟨w1.heap.size, 1, none⟩ = some (.int .i64 y) ∧ w'.cell? ⟨w1.heap.size, 2, none⟩ = some (.bool f) ∧ w'.cell? ⟨w1.heap.size, 3, none⟩ = some (.bool g) ∧
      w'.cell? ⟨w2.heap.size, 0, none⟩ = some (.int .i64 x) ∧ w'.cell? ⟨w2.heap.size, 1, none⟩ = some (.int .i64 y) ∧ w'.cell? ⟨w2.heap.size, 2, none⟩ = some (.bool f) ∧ w'.cell? ⟨w2.heap.size, 3, none⟩ = some (.bool g)) (go_keep)
    (first
      | (go_at_call 11; refine (cp.out _ (HE.out.step (by go_grown))).mono ?_; rintro e w5 ⟨rfl, hb5⟩; have k5 : ∀ o, w5.cell? ⟨w1.heap.size, o, none⟩ = _ := (fun o => bcl hb5 w1.heap.size o (by simp <;> omega)); have j5 : ∀ o, w5.cell? ⟨w2.heap.size, o, none⟩ = _ := (fun o => bcl hb5 w2.heap.size o (by simp <;> omega)); have z5 : w1.heap.size < w5.heap.size := Nat.lt_of_lt_of_le (by simp <;> omega) hb5.size; have y5 : w2.heap.size < w5.heap.size := Nat.lt_of_lt_of_le (by simp <;> omega) hb5.size; have z5' : ∀ k, w1.heap.size < w5.heap.size + k := (fun k => by omega); have y5' : ∀ k, w2.heap.size < w5.heap.size + k := (fun k => by omega); have B5 : Below w.heap.size w w5 := key2 (by go_grown) hb5)
      | (go_at_call 10; refine (cg.out _).mono ?_; rintro e w' ⟨rfl, rfl⟩)
      | (go_at_call 12; refine (al.out _).mono ?_; rintro e w9 ⟨rfl, hb9⟩; have k9 : ∀ o, w9.cell? ⟨w1.heap.size, o, none⟩ = _ := (fun o => bcl hb9 w1.heap.size o (by first | omega | (simp <;> omega))); have j9 : ∀ o, w9.cell? ⟨w2.heap.size, o, none⟩ = _ := (fun o => bcl hb9 w2.heap.size o (by first | omega | (simp <;> omega))); have z9 : w1.heap.size < w9.heap.size := Nat.lt_of_lt_of_le (by first | omega | (simp <;> omega)) hb9.size; have y9 : w2.heap.size < w9.heap.size := Nat.lt_of_lt_of_le (by first | omega | (simp <;> omega)) hb9.size; have B9 : Below w.heap.size w w9 := key2 (by first | assumption | go_grown) hb9))
  all_goals
    go_wp2_with fail
    go_ret
    exact ⟨rfl, B9⟩
end Go.Proofs.YtjbkjeabobccaacDoor
