import Derived.Test.YtjbkjeabobccaacDoorRefCopied2
import Derived.Test.YtjbkjeabobccaacDoorRefBoundsWalk
import Derived.Deep.CutRange
namespace Go.Proofs.YtjbkjeabobccaacDoor
open Go.RowKit Go.Lib

/-- A box of four cells reads as it was laid, in every later world. -/
theorem box4 {w w' : World} {v0 v1 v2 v3 : Value} {T : TypeId} (hb : Below (w.alloc (.cells #[v0, v1, v2, v3] T)).heap.size (w.alloc (.cells #[v0, v1, v2, v3] T)) w') :
    w'.cell? ⟨w.heap.size, 0, none⟩ = some v0 ∧ w'.cell? ⟨w.heap.size, 1, none⟩ = some v1 ∧ w'.cell? ⟨w.heap.size, 2, none⟩ = some v2 ∧ w'.cell? ⟨w.heap.size, 3, none⟩ = some v3 := by
  refine ⟨?_, ?_, ?_, ?_⟩ <;> (rw [hb.cell (by simp), World.cell?_alloc_at _ _ _ _ rfl]; rfl)

set_option maxHeartbeats 4000000 in
theorem refCopied_walk (c r cols rows : Int) (f g : Bool) (w : World) (hc : -9223372036854775808 ≤ cols) (hc' : cols ≤ 9223372036854775807) (hr : -9223372036854775808 ≤ rows) (hr' : rows ≤ 9223372036854775807) :
    Calls Tryd.prog 6 #[.agg #[.int .i64 c, .int .i64 r, .bool f, .bool g], .int .i64 cols, .int .i64 rows] w fun e w' => e = .returned (.bool true) ∧ Below w.heap.size w w' := by
  have cg : Hid (∀ w, _) := fun w => given_any c r f g w
  have ca0 := fun w => copied_any c r cols rows f g w hc hc' hr hr'
  have cb0 := fun w => rCopied_any c r cols rows f g w
  obtain ⟨⟨X, Y, F, G, ok⟩, e⟩ : ∃ v, copR c r cols rows f g = v := ⟨_, rfl⟩
  rw [e] at ca0 cb0
  have ca : Hid (∀ w, _) := ca0
  have cb : Hid (∀ w, _) := cb0
  have cg2 : Hid (∀ w, _) := fun w => given_at X Y F G w
  have cg1 : Hid (∀ w, _) := fun w => given_at c r f g w
  have al : Hid (∀ w, _) := alive_any
  have cback : Hid (ok = true → ∀ w, Calls Tryd.prog 18 #[.agg #[.int .i64 X, .int .i64 Y, .bool F, .bool G], .int .i64 (wrap64 (-cols)), .int .i64 (wrap64 (-rows))] w fun e w' => e = .returned (.tuple #[.agg #[.int .i64 c, .int .i64 r, .bool f, .bool g], .bool true]) ∧ Below w.heap.size w w') := fun ho w => by
    have hk : okC c r cols rows f g := by
      by_cases hh : okC c r cols rows f g
      · exact hh
      · rw [copR_no hh] at e
        simp only [Prod.mk.injEq] at e
        rw [← e.2.2.2.2] at ho
        cases ho
    rw [copR_yes hk] at e
    simp only [Prod.mk.injEq] at e
    obtain ⟨rfl, rfl, rfl, rfl, _⟩ := e
    have := copied_any (onC c cols f) (onC r rows g) (wrap64 (-cols)) (wrap64 (-rows)) f g w (by unfold wrap64; omega) (by unfold wrap64; omega) (by unfold wrap64; omega) (by unfold wrap64; omega)
    have hk' := hk
    unfold okC inB at hk'
    have ec : onC (onC c cols f) (wrap64 (-cols)) f = c := by
      cases f
      · simp only [onC, Bool.false_eq_true, if_false] at hk' ⊢
        unfold wrap64
        omega
      · rfl
    have er : onC (onC r rows g) (wrap64 (-rows)) g = r := by
      cases g
      · simp only [onC, Bool.false_eq_true, if_false] at hk' ⊢
        unfold wrap64
        omega
      · rfl
    rw [copR_yes ⟨hk.2, by rw [ec, er]; exact hk.1⟩, ec, er] at this
    exact this
  clear ca0 cb0 e
  cases ok
  · clear cback
    go_enter Tryd.func6, Tryd.ntmps6
    go_wp2_with fail
    refine (cg.out _).mono ?_
    rintro e w1 ⟨rfl, hb1⟩
    go_wp2_with fail
    refine (ca.out _).mono ?_
    rintro e w2 ⟨rfl, hb2⟩
    have hb12 := hb1.trans (hb2.mono hb1.size)
    have hbq := hb12.alloc hb12.size (.cells #[.int .i64 X, .int .i64 Y, .bool F, .bool G] 23)
    obtain ⟨p0, p1, p2, p3⟩ := box4 hbq
    go_wp2_with fail
    refine (cb.out _).mono ?_
    rintro e w3 ⟨rfl, hb3⟩
    clear p0 p1 p2 p3
    have hw3 := hbq.trans (hb3.mono hbq.size)
    have z1 : w.heap.size + 1 ≤ w2.heap.size := by have := hb12.size; simpa using this
    have z3 : w2.heap.size + 1 ≤ w3.heap.size := by have := hb3.size; simpa using this
    have hb4 := hb3.alloc hb3.size (.cells #[.int .i64 X, .int .i64 Y, .bool F, .bool G] 26)
    obtain ⟨q0, q1, q2, q3⟩ := box4 hb4
    have hq : ∀ o1 o2, _ := fun o1 o2 => box4 ((hb4.alloc hb4.size o1).alloc (Nat.le_trans hb4.size (by simp)) o2)
    have r0 := fun o1 o2 => (hq o1 o2).1
    have r1 := fun o1 o2 => (hq o1 o2).2.1
    have r2 := fun o1 o2 => (hq o1 o2).2.2.1
    have r3 := fun o1 o2 => (hq o1 o2).2.2.2
    clear hq
    go_upto_region 3 with fail
    go_cut [36] from 13 (fun s wx => s = .bool false ∧ Below w3.heap.size w3 wx)
    case first =>
      go_region_with (go_at_call 10; refine (cg2.out _).mono ?_; rintro e w' ⟨rfl, rfl⟩)
      all_goals (go_wp2_with fail; go_meet; exact ⟨rfl, by go_grown⟩)
    case rest =>
    obtain ⟨rfl, hb5⟩ := hcut
    clear r0 r1 r2 r3 q0 q1 q2 q3
    have hw5 := hw3.trans (hb5.mono hw3.size)
    have hbx := hb3.trans (hb5.mono hb3.size)
    go_wp2_with (go_at_call 12; refine (al.out _).mono ?_; rintro e w6 ⟨rfl, hb6⟩)
    go_ret
    refine ⟨rfl, ?_⟩
    exact ((Below.refl _ _).alloc (Nat.le_refl _) _).trans ((hw5.trans (hb6.mono hw5.size)).mono (by simp))
  · have cback := cback.out rfl
    have ck : Hid (∀ w, _) := cback
    clear cback
    go_enter Tryd.func6, Tryd.ntmps6
    go_wp2_with fail
    refine (cg.out _).mono ?_
    rintro e w1 ⟨rfl, hb1⟩
    go_wp2_with fail
    refine (ca.out _).mono ?_
    rintro e w2 ⟨rfl, hb2⟩
    have hb12 := hb1.trans (hb2.mono hb1.size)
    have hbq := hb12.alloc hb12.size (.cells #[.int .i64 X, .int .i64 Y, .bool F, .bool G] 23)
    obtain ⟨p0, p1, p2, p3⟩ := box4 hbq
    go_wp2_with fail
    refine (cb.out _).mono ?_
    rintro e w3 ⟨rfl, hb3⟩
    clear p0 p1 p2 p3
    have hw3 := hbq.trans (hb3.mono hbq.size)
    have z1 : w.heap.size + 1 ≤ w2.heap.size := by have := hb12.size; simpa using this
    have z3 : w2.heap.size + 1 ≤ w3.heap.size := by have := hb3.size; simpa using this
    have hb4 := hb3.alloc hb3.size (.cells #[.int .i64 X, .int .i64 Y, .bool F, .bool G] 26)
    obtain ⟨q0, q1, q2, q3⟩ := box4 hb4
    have hq : ∀ o1 o2, _ := fun o1 o2 => box4 ((hb4.alloc hb4.size o1).alloc (Nat.le_trans hb4.size (by simp)) o2)
    have r0 := fun o1 o2 => (hq o1 o2).1
    have r1 := fun o1 o2 => (hq o1 o2).2.1
    have r2 := fun o1 o2 => (hq o1 o2).2.2.1
    have r3 := fun o1 o2 => (hq o1 o2).2.2.2
    clear hq
    go_upto_region 3 with fail
    go_cut [36] from 13 (fun s wx => s = .bool false ∧ Below w3.heap.size w3 wx)
    case first =>
      go_region_with (go_at_call 10; refine (cg2.out _).mono ?_; rintro e w' ⟨rfl, rfl⟩)
      all_goals (go_wp2_with fail; go_meet; exact ⟨rfl, by go_grown⟩)
    case rest =>
    obtain ⟨rfl, hb5⟩ := hcut
    clear r0 r1 r2 r3 q0 q1 q2 q3
    have hw5 := hw3.trans (hb5.mono hw3.size)
    have hbx := hb3.trans (hb5.mono hb3.size)
    obtain ⟨p0, p1, p2, p3⟩ := box4 hbx
    go_wp2_with fail
    refine (ck.out _).mono ?_
    rintro e w6 ⟨rfl, hb6⟩
    clear p0 p1 p2 p3
    have hw6 := hw5.trans (hb6.mono hw5.size)
    have z6 : w.heap.size + 1 ≤ w6.heap.size := by have := hw6.size; simpa using this
    have hb7 := hw6.alloc hw6.size (.cells #[.int .i64 c, .int .i64 r, .bool f, .bool g] 23)
    obtain ⟨q0, q1, q2, q3⟩ := box4 hb7
    have hq : ∀ o1 o2, _ := fun o1 o2 => box4 ((hb7.alloc hb7.size o1).alloc (Nat.le_trans hb7.size (by simp)) o2)
    have r0 := fun o1 o2 => (hq o1 o2).1
    have r1 := fun o1 o2 => (hq o1 o2).2.1
    have r2 := fun o1 o2 => (hq o1 o2).2.2.1
    have r3 := fun o1 o2 => (hq o1 o2).2.2.2
    clear hq
    go_upto_region 7 with fail
    go_cut [54] from 13 (fun s wx => s = .bool false ∧ Below w6.heap.size w6 wx)
    case first =>
      go_region_with (go_at_call 10; refine (cg1.out _).mono ?_; rintro e w' ⟨rfl, rfl⟩)
      all_goals (go_wp2_with fail; go_meet; exact ⟨rfl, by go_grown⟩)
    case rest =>
    obtain ⟨rfl, hb8⟩ := hcut
    clear r0 r1 r2 r3 q0 q1 q2 q3
    have hw8 := hw6.trans (hb8.mono hw6.size)
    go_wp2_with (go_at_call 12; refine (al.out _).mono ?_; rintro e w9 ⟨rfl, hb9⟩)
    go_ret
    refine ⟨rfl, ?_⟩
    exact ((Below.refl _ _).alloc (Nat.le_refl _) _).trans ((hw8.trans (hb9.mono hw8.size)).mono (by simp))
end Go.Proofs.YtjbkjeabobccaacDoor
