import Derived.Test.YtjbkjeabobccaacDoorRefPrint5
import Derived.Deep.RegionHeld2
namespace Go.Proofs.YtjbkjeabobccaacDoor
open Go.RowKit Go.Sort Go.Lib
set_option linter.unusedVariables false

theorem bcl {W w1 : World} (hb : Below W.heap.size W w1) : ∀ b o, b < W.heap.size → w1.cell? ⟨b, o, none⟩ = W.cell? ⟨b, o, none⟩ := fun b o h => hb.cell (p := ⟨b, o, none⟩) h
theorem key2 {w X w9 : World} (h1 : Below w.heap.size w X) (h2 : Below X.heap.size X w9) : Below w.heap.size w w9 := h1.trans (h2.mono h1.size)

set_option maxHeartbeats 8000000 in
theorem refPrints_in (c r : Nat) (x y : Int) (f g : Bool) (w : World) (hx : x = c) (hy : y = r) (hc : c < 64) (hr : r < 1024) (hE : TabE w) :
    Calls Tryd.prog 4 #[.agg #[.int .i64 x, .int .i64 y, .bool f, .bool g]] w fun e w' => e = .returned (.bool true) ∧ Below w.heap.size w w' := by
  have hin : inB x y := ⟨by omega, by omega, by omega, by omega⟩
  have cg : Hid (∀ w, _) := fun w => given_at x y f g w
  have co : Hid (∀ w, _) := fun w => rOutside_in x y f g w hin
  have cp : Hid (∀ w, TabE w → _) := fun w h => print_in c r x y f g w hx hy hc hr h
  have cr : Hid (∀ w, _) := fun w => rPrint_in c r x y f g w hx hy hc hr
  have ca0 := fun w => parse_any (nameB c r f g) w (by have := name_size c r f g hr; unfold maxLen; omega)
  rw [name_cell c r f g hc hr] at ca0
  have al : Hid (∀ w, _) := alive_any
  obtain ⟨N, eN⟩ : ∃ N, nameB c r f g = N := ⟨_, rfl⟩
  rw [eN] at cp cr ca0
  rw [show (c : Int) = x from hx.symm, show (r : Int) = y from hy.symm] at ca0
  have ca : Hid (∀ w, _) := ca0
  have hE1 : Hid (∀ A B C, TabE (((w.alloc A).alloc B).alloc C)) := fun A B C => hE.step (by go_grown)
  clear ca0 eN hx hy hin hE
  go_enter Tryd.func4, Tryd.ntmps4
  go_wp2_with fail
  refine (cg.out _).mono ?_
  rintro e w' ⟨rfl, rfl⟩
  go_wp2_with fail
  refine (cp.out _ (hE1.out _ _ _)).mono ?_
  rintro e w1 ⟨rfl, hb1⟩
  go_wp2_with fail
  refine (ca.out _).mono ?_
  rintro e w2 ⟨rfl, hb2⟩
  have hbA := (((((Below.refl _ _).alloc (Nat.le_refl _) _).alloc (by simp) _).trans (hb1.mono (by simp))).trans (hb2.mono (by have := hb1.size; simp at this ⊢; omega)) : Below (w.alloc (.cells #[.int .i64 x, .int .i64 y, .bool f, .bool g] 26)).heap.size (w.alloc (.cells #[.int .i64 x, .int .i64 y, .bool f, .bool g] 26)) w2)
  have zA : w.heap.size < w2.heap.size := by have := hbA.size; simp at this; omega
  have zA' : ∀ k, w.heap.size < w2.heap.size + k := fun k => by omega
  obtain ⟨p0, p1, p2, p3⟩ := boxr hbA
  have B2 : Below w.heap.size w (w2.alloc (.cells #[.int .i64 x, .int .i64 y, .bool f, .bool g] 23)) := (((Below.refl _ _).alloc (Nat.le_refl _) _).trans (hbA.mono (by simp))).alloc (by omega) _
  clear hb1 hb2 hbA
  go_wp2_with fail
  go_region_held2 (fun w' => w'.cell? ⟨w.heap.size, 0, none⟩ = some (.int .i64 x) ∧ w'.cell? ⟨w.heap.size, 1, none⟩ = some (.int .i64 y) ∧ w'.cell? ⟨w.heap.size, 2, none⟩ = some (.bool f) ∧ w'.cell? ⟨w.heap.size, 3, none⟩ = some (.bool g) ∧
      w'.cell? ⟨w2.heap.size, 0, none⟩ = some (.int .i64 x) ∧ w'.cell? ⟨w2.heap.size, 1, none⟩ = some (.int .i64 y) ∧ w'.cell? ⟨w2.heap.size, 2, none⟩ = some (.bool f) ∧ w'.cell? ⟨w2.heap.size, 3, none⟩ = some (.bool g)) (go_keep)
    (first
      | (go_at_call 13; refine (cr.out _).mono ?_; rintro e w5 ⟨rfl, hb5⟩; have k5 := bcl hb5; have z5 : w.heap.size < w5.heap.size := Nat.lt_of_lt_of_le (by simp <;> omega) hb5.size; have y5 : w2.heap.size < w5.heap.size := Nat.lt_of_lt_of_le (by simp <;> omega) hb5.size; have z5' : ∀ k, w.heap.size < w5.heap.size + k := (fun k => by omega); have y5' : ∀ k, w2.heap.size < w5.heap.size + k := (fun k => by omega); have B5 : Below w.heap.size w w5 := key2 (by go_grown) hb5)
      | (go_at_call 14; refine (co.out _).mono ?_; rintro e w' ⟨rfl, rfl⟩)
      | (go_at_call 10; refine (cg.out _).mono ?_; rintro e w' ⟨rfl, rfl⟩)
      | (go_at_call 12; refine (al.out _).mono ?_; rintro e w9 ⟨rfl, hb9⟩; have k9 : ∀ o, w9.cell? ⟨w.heap.size, o, none⟩ = _ := (fun o => bcl hb9 w.heap.size o (by simp <;> omega)); have j9 : ∀ o, w9.cell? ⟨w2.heap.size, o, none⟩ = _ := (fun o => bcl hb9 w2.heap.size o (by simp <;> omega)); have z9 : w.heap.size < w9.heap.size := Nat.lt_of_lt_of_le (by simp <;> omega) hb9.size; have y9 : w2.heap.size < w9.heap.size := Nat.lt_of_lt_of_le (by simp <;> omega) hb9.size; have B9 : Below w.heap.size w w9 := key2 (by go_grown) hb9))
  all_goals
    go_wp2_with fail
    go_ret
    exact ⟨rfl, B9⟩

set_option maxHeartbeats 2000000 in
theorem print_out (x y : Int) (f g : Bool) (w : World) (h : ¬ inB x y) :
    Calls Tryd.prog 11 #[.agg #[.int .i64 x, .int .i64 y, .bool f, .bool g]] w fun e w' => e = .returned (.string ⟨#[]⟩) ∧ Below w.heap.size w w' := by
  have co : Hid (∀ w, _) := fun w => outside_no x y f g w h
  clear h
  go_enter Tryd.func11, Tryd.ntmps11
  go_wp2_with fail
  refine (co.out _).mono ?_
  rintro e w' ⟨rfl, rfl⟩
  go_wp2_with fail
  go_ret
  exact ⟨rfl, ((Below.refl _ _).alloc (Nat.le_refl _) _).alloc (by simp) _⟩
set_option maxHeartbeats 2000000 in
theorem rPrint_out (x y : Int) (f g : Bool) (w : World) (h : ¬ inB x y) :
    Calls Tryd.prog 13 #[.agg #[.int .i64 x, .int .i64 y, .bool f, .bool g]] w fun e w' => e = .returned (.string ⟨#[]⟩) ∧ Below w.heap.size w w' := by
  have co : Hid (∀ w, _) := fun w => rOutside_no x y f g w h
  clear h
  go_enter Tryd.func13, Tryd.ntmps13
  go_wp2_with fail
  refine (co.out _).mono ?_
  rintro e w' ⟨rfl, rfl⟩
  go_wp2_with fail
  go_ret
  exact ⟨rfl, ((Below.refl _ _).alloc (Nat.le_refl _) _).alloc (by simp) _⟩
theorem cell_none : cellR (⟨#[]⟩ : ByteArray).data.toList = (0, 0, false, false, false) := by decide +kernel

set_option maxHeartbeats 8000000 in
theorem refPrints_out (x y : Int) (f g : Bool) (w : World) (hn : ¬ inB x y) :
    Calls Tryd.prog 4 #[.agg #[.int .i64 x, .int .i64 y, .bool f, .bool g]] w fun e w' => e = .returned (.bool true) ∧ Below w.heap.size w w' := by
  have cg : Hid (∀ w, _) := fun w => given_at x y f g w
  have co : Hid (∀ w, _) := fun w => rOutside_no x y f g w hn
  have cp : Hid (∀ w, _) := fun w => print_out x y f g w hn
  have cr : Hid (∀ w, _) := fun w => rPrint_out x y f g w hn
  have ca0 := fun w => parse_any ⟨#[]⟩ w (by unfold maxLen; decide)
  rw [cell_none] at ca0
  have ca : Hid (∀ w, _) := ca0
  have al : Hid (∀ w, _) := alive_any
  clear ca0 hn
  go_enter Tryd.func4, Tryd.ntmps4
  go_wp2_with fail
  refine (cg.out _).mono ?_
  rintro e w' ⟨rfl, rfl⟩
  go_wp2_with fail
  refine (cp.out _).mono ?_
  rintro e w1 ⟨rfl, hb1⟩
  go_wp2_with fail
  refine (ca.out _).mono ?_
  rintro e w2 ⟨rfl, hb2⟩
  have hbA := (((((Below.refl _ _).alloc (Nat.le_refl _) _).alloc (by simp) _).trans (hb1.mono (by simp))).trans (hb2.mono (by have := hb1.size; simp at this ⊢; omega)) : Below (w.alloc (.cells #[.int .i64 x, .int .i64 y, .bool f, .bool g] 26)).heap.size (w.alloc (.cells #[.int .i64 x, .int .i64 y, .bool f, .bool g] 26)) w2)
  have zA : w.heap.size < w2.heap.size := by have := hbA.size; simp at this; omega
  have zA' : ∀ k, w.heap.size < w2.heap.size + k := fun k => by omega
  obtain ⟨p0, p1, p2, p3⟩ := boxr hbA
  have B2 : Below w.heap.size w (w2.alloc (.cells #[.int .i64 0, .int .i64 0, .bool false, .bool false] 23)) := (((Below.refl _ _).alloc (Nat.le_refl _) _).trans (hbA.mono (by simp))).alloc (by omega) _
  clear hb1 hb2 hbA
  have e0 : (w2.alloc (.cells #[.int .i64 0, .int .i64 0, .bool false, .bool false] 23)).cell? ⟨w.heap.size, 0, none⟩ = some (.int .i64 x) := by rw [World.cell?_alloc_past _ _ _ zA]; exact p0
  have e1 : (w2.alloc (.cells #[.int .i64 0, .int .i64 0, .bool false, .bool false] 23)).cell? ⟨w.heap.size, 1, none⟩ = some (.int .i64 y) := by rw [World.cell?_alloc_past _ _ _ zA]; exact p1
  have e2 : (w2.alloc (.cells #[.int .i64 0, .int .i64 0, .bool false, .bool false] 23)).cell? ⟨w.heap.size, 2, none⟩ = some (.bool f) := by rw [World.cell?_alloc_past _ _ _ zA]; exact p2
  have e3 : (w2.alloc (.cells #[.int .i64 0, .int .i64 0, .bool false, .bool false] 23)).cell? ⟨w.heap.size, 3, none⟩ = some (.bool g) := by rw [World.cell?_alloc_past _ _ _ zA]; exact p3
  go_wp2_with fail
  go_region_with
    (first
      | (go_at_call 13; refine (cr.out _).mono ?_; rintro e w5 ⟨rfl, hb5⟩; have z5 : w.heap.size < w5.heap.size := Nat.lt_of_lt_of_le (by simp <;> omega) hb5.size; have q0 : w5.cell? ⟨w.heap.size, 0, none⟩ = some (.int .i64 x) := (bcl hb5 w.heap.size 0 (by simp <;> omega)).trans (by simpa using e0); have q1 : w5.cell? ⟨w.heap.size, 1, none⟩ = some (.int .i64 y) := (bcl hb5 w.heap.size 1 (by simp <;> omega)).trans (by simpa using e1); have q2 : w5.cell? ⟨w.heap.size, 2, none⟩ = some (.bool f) := (bcl hb5 w.heap.size 2 (by simp <;> omega)).trans (by simpa using e2); have q3 : w5.cell? ⟨w.heap.size, 3, none⟩ = some (.bool g) := (bcl hb5 w.heap.size 3 (by simp <;> omega)).trans (by simpa using e3); have B5 : Below w.heap.size w w5 := key2 (by go_grown) hb5)
      | (go_at_call 14; refine (co.out _).mono ?_; rintro e w' ⟨rfl, rfl⟩)
      | (go_at_call 12; refine (al.out _).mono ?_; rintro e w9 ⟨rfl, hb9⟩; have B9 : Below w.heap.size w w9 := key2 (by go_grown) hb9))
  all_goals
    go_wp2_with fail
    go_ret
    exact ⟨rfl, B9⟩

theorem refPrints_walk (x y : Int) (f g : Bool) (w : World) (hE : TabE w) :
    Calls Tryd.prog 4 #[.agg #[.int .i64 x, .int .i64 y, .bool f, .bool g]] w fun e w' => e = .returned (.bool true) ∧ Below w.heap.size w w' := by
  by_cases h : inB x y
  · obtain ⟨h1, h2, h3, h4⟩ := h
    exact refPrints_in x.toNat y.toNat x y f g w (by omega) (by omega) (by omega) (by omega) hE
  · exact refPrints_out x y f g w h
end Go.Proofs.YtjbkjeabobccaacDoor
