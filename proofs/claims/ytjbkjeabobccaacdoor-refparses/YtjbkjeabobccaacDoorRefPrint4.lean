import Derived.Test.YtjbkjeabobccaacDoorRefPrint3
namespace Go.Proofs.YtjbkjeabobccaacDoor
open Go.RowKit Go.Sort Go.Lib
set_option linter.unusedVariables false

theorem boxr {w w' : World} {v0 v1 v2 v3 : Value} {T : TypeId} (hb : Below (w.alloc (.cells #[v0, v1, v2, v3] T)).heap.size (w.alloc (.cells #[v0, v1, v2, v3] T)) w') :
    w'.cell? ⟨w.heap.size, 0, none⟩ = some v0 ∧ w'.cell? ⟨w.heap.size, 1, none⟩ = some v1 ∧ w'.cell? ⟨w.heap.size, 2, none⟩ = some v2 ∧ w'.cell? ⟨w.heap.size, 3, none⟩ = some v3 := by
  refine ⟨?_, ?_, ?_, ?_⟩ <;> (rw [hb.cell (by simp), World.cell?_alloc_at _ _ _ _ rfl]; rfl)

set_option maxHeartbeats 4000000 in
theorem rPrint_in (c r : Nat) (x y : Int) (f g : Bool) (w : World) (hx : x = c) (hy : y = r) (hc : c < 64) (hr : r < 1024) :
    Calls Tryd.prog 13 #[.agg #[.int .i64 x, .int .i64 y, .bool f, .bool g]] w fun e w' => e = .returned (.string (nameB c r f g)) ∧ Below w.heap.size w w' := by
  have hin : inB x y := ⟨by omega, by omega, by omega, by omega⟩
  have co : Hid (∀ w, _) := fun w => rOutside_in x y f g w hin
  have y0 : 0 ≤ y := by omega
  have y1 : y < 1024 := by omega
  have cl0 := fun w => letters_any c x w hx hc
  have cw0 := fun w => whole_any (r + 1) (by omega) (y + 1) w (by omega)
  have l3 := colN_le c
  have l4 := dec_le (r + 1) (by omega)
  unfold nameB
  obtain ⟨C, eC⟩ : ∃ C : ByteArray, ⟨(colN c).toArray⟩ = C := ⟨_, rfl⟩
  obtain ⟨D, eD⟩ : ∃ D : ByteArray, ⟨(decDigits (r + 1)).toArray⟩ = D := ⟨_, rfl⟩
  have l3' : C.size ≤ 2 := by rw [← eC]; simpa [ByteArray.size] using l3
  have l4' : D.size ≤ 20 := by rw [← eD]; simpa [ByteArray.size] using l4
  rw [eC] at cl0 ⊢
  rw [eD] at cw0 ⊢
  have cl : Hid (∀ w, _) := cl0
  have cw : Hid (∀ w, _) := cw0
  clear cl0 cw0 l3 l4 eC eD hx hy hin
  have z1 := fixS_le f
  have s1 : ∀ W, (Op.stringOp .add (fixS f) C).run Tryd.prog W = .ok (.string (fixS f ++ C)) W := fun W => run_string_add_sum W _ C (by omega)
  have z2 : (fixS f ++ C).size ≤ 3 := by rw [ByteArray.size_append]; omega
  obtain ⟨E, eE⟩ : ∃ E, fixS f ++ C = E := ⟨_, rfl⟩
  rw [eE] at s1 z2 ⊢
  have z3 := fixS_le g
  have s2 : ∀ W, (Op.stringOp .add E (fixS g)).run Tryd.prog W = .ok (.string (E ++ fixS g)) W := fun W => run_string_add_sum W E _ (by omega)
  have z4 : (E ++ fixS g).size ≤ 4 := by rw [ByteArray.size_append]; omega
  have s3 : ∀ W, (Op.stringOp .add (E ++ fixS g) D).run Tryd.prog W = .ok (.string (E ++ fixS g ++ D)) W := fun W => run_string_add_sum W _ D (by omega)
  have eg0 : E ++ fixS false = E := by apply ByteArray.ext; simp [fixS]
  clear eE l3' l4' z1 z2 z3 z4
  cases f <;> cases g
  all_goals
    try rw [eg0] at s3 ⊢
    simp only [fixS, if_true, if_false, Bool.false_eq_true] at s1 s2 s3 ⊢
    go_enter Tryd.func13, Tryd.ntmps13
    go_wp2_with fail
    refine (co.out _).mono ?_
    rintro e w' ⟨rfl, rfl⟩
    go_wp2_with fail
    refine (cl.out _).mono ?_
    rintro e w2 ⟨rfl, hb2⟩
    have hb3 := Below.trans (((Below.refl _ _).alloc (Nat.le_refl _) _)) (hb2.mono (by simp))
    obtain ⟨p0, p1, p2, p3⟩ := boxr hb3
    go_wp2_with fail
    refine (cw.out _).mono ?_
    rintro e w4 ⟨rfl, hb4⟩
    clear p0 p1 p2 p3
    go_wp2_with fail
    go_ret
    exact ⟨rfl, ((Below.refl _ _).alloc (Nat.le_refl _) _).trans ((hb3.trans (hb4.mono hb3.size)).mono (by simp))⟩
end Go.Proofs.YtjbkjeabobccaacDoor
