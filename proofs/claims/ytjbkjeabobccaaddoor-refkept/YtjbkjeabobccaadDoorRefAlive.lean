import Derived.Test.YtjbkjeabobccaadDoorRefParse
namespace Go.Proofs.YtjbkjeabobccaadDoor
open Go.RowKit Go.Lib

def inB (c r : Int) : Prop := 0 ≤ c ∧ c < 64 ∧ 0 ≤ r ∧ r < 1024

set_option maxHeartbeats 400000 in
theorem outside_in (c r : Int) (fc fr : Bool) (w : World) (h : inB c r) :
    Calls Tryd.prog 9 #[.agg #[.int .i64 c, .int .i64 r, .bool fc, .bool fr]] w fun e w' => e = .returned (.bool false) ∧ w' = w.alloc (.cells #[.int .i64 c, .int .i64 r, .bool fc, .bool fr] 26) := by
  obtain ⟨h1, h2, h3, h4⟩ := h
  have e1 : decide (c < 0) = false := by simp; omega
  have e2 : decide (64 ≤ c) = false := by simp; omega
  have e3 : decide (r < 0) = false := by simp; omega
  have e4 : decide (1024 ≤ r) = false := by simp; omega
  go_enter Tryd.func9, Tryd.ntmps9
  go_wp2
  go_ret
  exact ⟨by first | rfl | rw [e4], rfl⟩

set_option maxHeartbeats 400000 in
theorem columnName_1 (w : World) :
    Calls Tryd.prog 22 #[.int .i64 1] w fun e w' => e = .returned (.string ⟨#[66]⟩) ∧ w' = w := by
  go_enter Tryd.func22, Tryd.ntmps22
  go_wp2
  go_ret
  exact ⟨rfl, rfl⟩

set_option maxHeartbeats 400000 in
theorem fixSign_no (w : World) : Calls Tryd.prog 21 #[.bool false] w fun e w' => e = .returned (.string ⟨#[]⟩) ∧ w' = w := by
  go_enter Tryd.func21, Tryd.ntmps21
  go_wp2
  go_ret
  exact ⟨rfl, rfl⟩
set_option maxHeartbeats 400000 in
theorem fixSign_yes (w : World) : Calls Tryd.prog 21 #[.bool true] w fun e w' => e = .returned (.string ⟨#[36]⟩) ∧ w' = w := by
  go_enter Tryd.func21, Tryd.ntmps21
  go_wp2
  go_ret
  exact ⟨rfl, rfl⟩
def fixS (b : Bool) : ByteArray := if b then ⟨#[36]⟩ else ⟨#[]⟩
theorem fixSign_any (b : Bool) (w : World) : Calls Tryd.prog 21 #[.bool b] w fun e w' => e = .returned (.string (fixS b)) ∧ w' = w := by
  cases b
  · exact fixSign_no w
  · exact fixSign_yes w
theorem itoa_3 (w : World) : Calls Tryd.prog 23 #[.int .i64 3] w fun e w' => e = .returned (.string ⟨#[51]⟩) ∧ w' = w := by
  have := Tryd.strconv_Itoa_small 3 (by omega) w
  rw [show Lib.decDigits 3 = [51] from by rw [Lib.decDigits]; rfl] at this
  exact this

set_option maxHeartbeats 1000000 in
theorem print_b3 (w : World) :
    Calls Tryd.prog 15 #[.agg #[.int .i64 1, .int .i64 2, .bool false, .bool true]] w fun e w' => e = .returned (.string ⟨#[66, 36, 51]⟩) ∧ Below w.heap.size w w' := by
  have a1 : ∀ W, (Op.stringOp .add (fixS false) ⟨#[66]⟩).run Tryd.prog W = .ok (.string ⟨#[66]⟩) W := fun W => run_string_add_sum W (fixS false) ⟨#[66]⟩ (by decide)
  have a2 : ∀ W, (Op.stringOp .add ⟨#[66]⟩ (fixS true)).run Tryd.prog W = .ok (.string ⟨#[66, 36]⟩) W := fun W => run_string_add_sum W ⟨#[66]⟩ (fixS true) (by decide)
  have a3 : ∀ W, (Op.stringOp .add ⟨#[66, 36]⟩ ⟨#[51]⟩).run Tryd.prog W = .ok (.string ⟨#[66, 36, 51]⟩) W := fun W => run_string_add_sum W ⟨#[66, 36]⟩ ⟨#[51]⟩ (by decide)
  have co : Hid (∀ w, _) := fun w => outside_in 1 2 false true w ⟨by omega, by omega, by omega, by omega⟩
  go_enter Tryd.func15, Tryd.ntmps15
  go_wp2_with fail
  refine (co.out _).mono ?_
  rintro e w' ⟨rfl, rfl⟩
  go_wp2_with fail
  go_quiet ((first | (go_at_call 21; exact Calls.quiet_of_same (fixSign_any _ _)) | (go_at_call 22; exact Calls.quiet_of_same (columnName_1 _)) | (go_at_call 23; exact Calls.quiet_of_same (itoa_3 _))))
  go_wp2_with fail
  go_ret
  exact ⟨rfl, bdrew (((Below.refl _ _).alloc (Nat.le_refl _) _).alloc (by simp) _) _⟩

theorem cell_b3 : cellR [98, 36, 51] = (1, 2, false, true, true) := by decide +kernel

set_option maxHeartbeats 1000000 in
theorem alive_any (w : World) :
    Calls Tryd.prog 7 #[] w fun e w' => e = .returned (.bool true) ∧ Below w.heap.size w w' := by
  have c1 : Hid (∀ w, Calls Tryd.prog 14 #[.string ⟨#[98, 36, 51]⟩] w fun e w' => e = .returned (.tuple #[.agg #[.int .i64 1, .int .i64 2, .bool false, .bool true], .bool true]) ∧ Below w.heap.size w w') := fun w => by
    have := parse_any ⟨#[98, 36, 51]⟩ w (by decide)
    rw [show (⟨#[98, 36, 51]⟩ : ByteArray).data.toList = [98, 36, 51] from rfl, cell_b3] at this
    exact this
  have c2 : Hid (∀ w, _) := print_b3
  go_enter Tryd.func7, Tryd.ntmps7
  go_wp2_with fail
  refine (c1.out _).mono ?_
  rintro e w1 ⟨rfl, hb1⟩
  go_wp2_with fail
  refine (c2.out _).mono ?_
  rintro e w2 ⟨rfl, hb2⟩
  go_wp2_with fail
  go_ret
  exact ⟨rfl, (hb1.alloc hb1.size _).trans (hb2.mono (by simp; have := hb1.size; omega))⟩
end Go.Proofs.YtjbkjeabobccaadDoor
