import Derived.Test.YtjbkjeabobccaabGreatDoorNumPrint
namespace Go.Proofs.YtjbkjeabobccaabGreatDoor
open Go.RowKit Go.Sort Go.Lib

theorem parse_15 : parseR [49, 46, 53] = (1500000, true) := by decide +kernel
theorem print_3 : printL 3000000 = [51] := by
  unfold printL fracL
  have h1 : Lib.decDigits ((3000000 : Int).natAbs / 1000000) = [51] := by
    rw [show (3000000 : Int).natAbs / 1000000 = 3 by rfl, Lib.decDigits]; rfl
  have h2 : Lib.decDigits (1000000 + (3000000 : Int).natAbs % 1000000) = [49, 48, 48, 48, 48, 48, 48] := by
    rw [show 1000000 + (3000000 : Int).natAbs % 1000000 = 1000000 by rfl]
    rw [Lib.decDigits_eq]
    decide +kernel
  rw [h1, h2]
  decide

theorem add_yes (w : World) : Calls Tryz.prog 76 #[.int .i64 1500000, .int .i64 1500000] w fun e w' => e = .returned (.tuple #[.int .i64 3000000, .int .i64 0]) ∧ w' = w :=
  add_any 1500000 1500000 w (by omega) (by omega)

end Go.Proofs.YtjbkjeabobccaabGreatDoor
