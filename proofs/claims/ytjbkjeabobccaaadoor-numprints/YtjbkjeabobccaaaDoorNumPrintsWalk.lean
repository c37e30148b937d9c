import Derived.Test.YtjbkjeabobccaaaDoorNumPrints3
namespace Go.Proofs.YtjbkjeabobccaaaDoor
open Go.RowKit Go.Sort Go.Lib
set_option linter.unusedVariables false

theorem printL_len (n : Int) (h1 : -9223372036854775807 ≤ n) (h2 : n ≤ 9223372036854775807) : (printL n).length ≤ 31 := by
  have a1 : (decDigits (n.natAbs / 1000000)).length ≤ 20 := by rw [decDigits_length]; exact nDigits_le20 _ (by omega)
  have a2 := (frac_ok n.natAbs).2.1
  rw [printL_eq, List.length_append, List.length_append]
  split <;> split <;> simp <;> omega
theorem step2 {w X w9 : World} (h1 : Below w.heap.size w X) (h2 : Below X.heap.size X w9) : Below w.heap.size w w9 := h1.trans (h2.mono h1.size)

set_option maxHeartbeats 2000000 in
theorem numPrints_walk (n : Int) (w : World) (hE : Env w) (h1 : -9223372036854775808 ≤ n) (h2 : n ≤ 9223372036854775807) :
    Calls Tryd.prog 4 #[.int .i64 n] w fun e w' => e = .returned (.bool true) ∧ Below w.heap.size w w' := by
  by_cases hn : n = -9223372036854775808
  · subst hn
    have cp0 := fun w hE => parse_any ⟨#[]⟩ w hE (by decide)
    rw [show (⟨#[]⟩ : ByteArray).data.toList = [] from rfl, parse_none] at cp0
    have cp := Lib.hid (cp0 w hE)
    clear cp0 h1 h2
    go_enter Tryd.func4, Tryd.ntmps4
    go_wp2_with fail
    refine (print_none _).mono ?_
    rintro e w' ⟨rfl, rfl⟩
    go_wp2_with fail
    refine cp.out.mono ?_
    rintro e w1 ⟨rfl, hb1⟩
    have al := Lib.hid (alive_any w1 (hE.step hb1))
    go_wp2_with (first | (go_at_call 13; refine (rPrint_none _).mono ?_; rintro e w' ⟨rfl, rfl⟩) | (go_at_call 11; refine al.out.mono ?_; rintro e w3 ⟨rfl, hb3⟩))
    go_ret
    exact ⟨rfl, step2 hb1 hb3⟩
  · have h1' : -9223372036854775807 ≤ n := by omega
    have c1 := Lib.hid (print_any n w hE h1' h2)
    have hl := printL_len n h1' h2
    have c2 : Hid (∀ w, Env w → Calls Tryd.prog 9 #[.string ⟨(printL n).toArray⟩] w fun e w' => e = .returned (.tuple #[.int .i64 n, .bool true]) ∧ Below w.heap.size w w') := fun w hE => by
      have := parse_any ⟨(printL n).toArray⟩ w hE (by simp [ByteArray.size]; omega)
      rw [show (⟨(printL n).toArray⟩ : ByteArray).data.toList = printL n by simp, parse_print n h1' h2] at this
      exact this
    have c3 := Lib.hid (fun w => rPrint_any n w h1' h2)
    have hne : (n == -9223372036854775808) = false := by simpa using hn
    obtain ⟨L, eL⟩ : ∃ L : ByteArray, ⟨(printL n).toArray⟩ = L := ⟨_, rfl⟩
    rw [eL] at c1 c2 c3
    clear eL hl h1 h2 h1' hn
    go_enter Tryd.func4, Tryd.ntmps4
    go_wp2_with fail
    refine c1.out.mono ?_
    rintro e w1 ⟨rfl, hb1⟩
    go_wp2_with fail
    refine (c2.out _ (hE.step hb1)).mono ?_
    rintro e w2 ⟨rfl, hb2⟩
    have hB := step2 hb1 hb2
    go_wp2_with fail
    refine (c3.out _).mono ?_
    rintro e w3 ⟨rfl, hb3⟩
    have hB3 := step2 hB hb3
    have al := Lib.hid (alive_any w3 (hE.step hB3))
    go_wp2_with (go_at_call 11; refine al.out.mono ?_; rintro e w4 ⟨rfl, hb4⟩)
    go_ret
    exact ⟨rfl, step2 hB3 hb4⟩
end Go.Proofs.YtjbkjeabobccaaaDoor
