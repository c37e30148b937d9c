import Derived.Test.YtjbkjeabobccaaaDoorNumPrint
namespace Go.Proofs.YtjbkjeabobccaaaDoor
open Go.RowKit Go.Sort Go.Lib

theorem parse_15 : parseR [49, 46, 53] = (1500000, true) := by decide +kernel
theorem print_3 : printL 3000000 = [51] := by
  unfold printL fracL
  have h1 : Lib.decDigits ((3000000 : Int).natAbs / 1000000) = [51] := by
    rw [show (3000000 : Int).natAbs / 1000000 = 3 by rfl, Lib.decDigits]; rfl
  have h2 : Lib.decDigits (1000000 + (3000000 : Int).natAbs % 1000000) = [49, 48, 48, 48, 48, 48, 48] := by
    rw [show 1000000 + (3000000 : Int).natAbs % 1000000 = 1000000 by rfl]
    rw [Lib.decDigits_eq]
    decide +kernel
  rw [h1, h2]
  decide

theorem add_yes (w : World) : Calls Tryd.prog 14 #[.int .i64 1500000, .int .i64 1500000] w fun e w' => e = .returned (.tuple #[.int .i64 3000000, .int .i64 0]) ∧ w' = w :=
  add_any 1500000 1500000 w (by omega) (by omega)

set_option maxHeartbeats 400000 in
theorem alive_any (w : World) (hE : Env w) :
    Calls Tryd.prog 11 #[] w fun e w' => e = .returned (.bool true) ∧ Below w.heap.size w w' := by
  have c1 : Hid (∀ w, Env w → Calls Tryd.prog 9 #[.string ⟨#[49, 46, 53]⟩] w fun e w' => e = .returned (.tuple #[.int .i64 1500000, .bool true]) ∧ Below w.heap.size w w') := fun w hE => by
    have := parse_any ⟨#[49, 46, 53]⟩ w hE (by decide)
    rw [show (⟨#[49, 46, 53]⟩ : ByteArray).data.toList = [49, 46, 53] from rfl, parse_15] at this
    exact this
  have c2 : Hid (∀ w, Env w → Calls Tryd.prog 12 #[.int .i64 3000000] w fun e w' => e = .returned (.string ⟨#[51]⟩) ∧ Below w.heap.size w w') := fun w hE => by
    have := print_any 3000000 w hE (by omega) (by omega)
    rw [print_3] at this
    exact this
  go_enter Tryd.func11, Tryd.ntmps11
  go_wp2_with fail
  refine (c1.out _ hE).mono ?_
  rintro e w1 ⟨rfl, hb1⟩
  go_wp2_with fail
  refine (add_yes _).mono ?_
  rintro e w' ⟨rfl, rfl⟩
  go_wp2_with (first | (go_at_call 37; go_in) | (go_at_call 12; refine (c2.out _ (hE.step hb1)).mono ?_; rintro e w2 ⟨rfl, hb2⟩))
  go_ret
  exact ⟨rfl, hb1.trans (hb2.mono hb1.size)⟩
end Go.Proofs.YtjbkjeabobccaaaDoor
