import Derived.Test.YtjbkjeabobccaabGreatDoorNumParse
namespace Go.Proofs.YtjbkjeabobccaabGreatDoor
open Go.RowKit Go.Sort Go.Lib

theorem fmt_int (x : Int) (w : World) (hE : Env w) (h0 : 0 ≤ x) (h1 : x < 18446744073709551616) :
    Calls Tryz.prog 71 #[.int .u64 x, .int .i64 10] w fun e w' => e = .returned (.string ⟨(Lib.decDigits x.toNat).toArray⟩) ∧ Below w.heap.size w w' := by
  obtain ⟨u, rfl⟩ := Int.eq_ofNat_of_zero_le h0
  refine (fmtUint_any u (by omega) w (hE.tab w (Below.refl _ _))).mono ?_
  rintro e w' ⟨rfl, k, os, rfl⟩
  exact ⟨by simp, bell _ _ (Nat.le_refl _) k os⟩

theorem digits_len (u : Nat) (h : u < 18446744073709551616) : 1 ≤ (Lib.decDigits u).length ∧ (Lib.decDigits u).length ≤ 20 := by
  rw [Lib.decDigits_length]
  by_cases h0 : u < 10
  · rw [Lib.nDigits_small h0]; omega
  · have := Lib.numDigits_eq u (by omega) h
    refine ⟨?_, by split at this <;> omega⟩
    rw [Lib.nDigits_big h0]; omega

def fracL (a : Nat) : List UInt8 := Lib.trimRightB ((Lib.decDigits (1000000 + a % 1000000)).drop 1) 48
def printL (n : Int) : List UInt8 :=
  (if n < 0 then [45] else []) ++ Lib.decDigits (n.natAbs / 1000000) ++ (if (fracL n.natAbs).isEmpty then [] else 46 :: fracL n.natAbs)
theorem trimRightB_le (l : List UInt8) (c : UInt8) : (Lib.trimRightB l c).length ≤ l.length := by
  unfold Lib.trimRightB
  have := (List.dropWhile_suffix (· == c) (l := l.reverse)).length_le
  simpa using this
theorem ret_str {a b : ByteArray} (h : a.data.toList = b.data.toList) : Ending.returned (.string a) = .returned (.string b) := by
  rw [WideShapes.bytes_inj h]

set_option maxHeartbeats 400000 in
theorem sizeOf_any (n : Int) (w : World) (h1 : -9223372036854775807 ≤ n) (h2 : n ≤ 9223372036854775807) :
    Calls Tryz.prog 70 #[.int .i64 n] w fun e w' => e = .returned (.int .u64 (n.natAbs : Int)) ∧ w' = w := by
  by_cases h : n < 0
  · rw [show (n.natAbs : Int) = -n by omega]
    go_enter Tryz.func70, Tryz.ntmps70
    go_wp2
    go_ret
    exact ⟨rfl, rfl⟩
  · rw [show (n.natAbs : Int) = n by omega]
    go_enter Tryz.func70, Tryz.ntmps70
    go_wp2
    go_ret
    exact ⟨rfl, rfl⟩

set_option maxHeartbeats 400000 in
theorem isNumber_yes (n : Int) (w : World) (h1 : -9223372036854775807 ≤ n) :
    Calls Tryz.prog 69 #[.int .i64 n] w fun e w' => e = .returned (.bool true) ∧ w' = w := by
  go_enter Tryz.func69, Tryz.ntmps69
  go_wp2
  go_ret
  exact ⟨rfl, rfl⟩

set_option maxHeartbeats 1000000 in
set_option maxRecDepth 100000 in
theorem print_any (n : Int) (w : World) (hE : Env w) (h1 : -9223372036854775807 ≤ n) (h2 : n ≤ 9223372036854775807) :
    Calls Tryz.prog 40 #[.int .i64 n] w fun e w' => e = .returned (.string ⟨(printL n).toArray⟩) ∧ Below w.heap.size w w' := by
  obtain ⟨s, Hs⟩ : ∃ s : Int, Hid (s = (n.natAbs : Int)) := ⟨_, rfl⟩
  have hs0 : 0 ≤ s := by rw [Hs.out]; omega
  have hs1 : s ≤ 9223372036854775807 := by rw [Hs.out]; omega
  have c1 : Hid (∀ w, Calls Tryz.prog 70 #[.int .i64 n] w fun e w' => e = .returned (.int .u64 s) ∧ w' = w) := fun w => by
    have := sizeOf_any n w h1 h2
    rw [← Hs.out] at this
    exact this
  have q1 : (s / 1000000).toNat = n.natAbs / 1000000 := by rw [Hs.out]; omega
  have q2 : (1000000 + s % 1000000).toNat = 1000000 + n.natAbs % 1000000 := by rw [Hs.out]; omega
  obtain ⟨aB, HaB⟩ : ∃ tB : ByteArray, Hid (tB = ⟨(Lib.decDigits (n.natAbs / 1000000)).toArray⟩) := ⟨_, rfl⟩
  obtain ⟨dB, HdB⟩ : ∃ tB : ByteArray, Hid (tB = ⟨(Lib.decDigits (1000000 + n.natAbs % 1000000)).toArray⟩) := ⟨_, rfl⟩
  obtain ⟨fB, HfB⟩ : ∃ tB : ByteArray, Hid (tB = ⟨(fracL n.natAbs).toArray⟩) := ⟨_, rfl⟩
  have c2 : Hid (∀ w, Env w → Calls Tryz.prog 71 #[.int .u64 (s / 1000000), .int .i64 10] w fun e w' => e = .returned (.string aB) ∧ Below w.heap.size w w') := fun w hE => by
    have := fmt_int (s / 1000000) w hE (by omega) (by omega)
    rw [q1, ← HaB.out] at this
    exact this
  have c3 : Hid (∀ w, Env w → Calls Tryz.prog 71 #[.int .u64 (1000000 + s % 1000000), .int .i64 10] w fun e w' => e = .returned (.string dB) ∧ Below w.heap.size w w') := fun w hE => by
    have := fmt_int (1000000 + s % 1000000) w hE (by omega) (by omega)
    rw [q2, ← HdB.out] at this
    exact this
  have la := digits_len (n.natAbs / 1000000) (by omega)
  have ld := digits_len (1000000 + n.natAbs % 1000000) (by omega)
  have sa : aB.size = (Lib.decDigits (n.natAbs / 1000000)).length := by rw [HaB.out]; simp [ByteArray.size]
  have sd : dB.size = (Lib.decDigits (1000000 + n.natAbs % 1000000)).length := by rw [HdB.out]; simp [ByteArray.size]
  have sf : fB.size ≤ 20 := by
    have := trimRightB_le ((Lib.decDigits (1000000 + n.natAbs % 1000000)).drop 1) 48
    rw [HfB.out]
    simp only [ByteArray.size, List.size_toArray]
    unfold fracL
    rw [List.length_drop] at this
    omega
  have c4 : Hid (∀ w, Calls Tryz.prog 72 #[.string (dB.extract 1 dB.size), .string ⟨#[48]⟩] w fun e w' => e = .returned (.string fB) ∧ w' = w) := fun w => by
    have := Tryz.strings_TrimRight_one (dB.extract 1 dB.size) 48 (by decide) w (by simp; omega)
    have e : (dB.extract 1 dB.size).data.toList = (Lib.decDigits (1000000 + n.natAbs % 1000000)).drop 1 := by
      rw [Lib.extract_to_end, HdB.out]
    rw [e] at this
    rw [HfB.out]
    exact this
  have c0 : Hid (∀ w, Calls Tryz.prog 69 #[.int .i64 n] w fun e w' => e = .returned (.bool true) ∧ w' = w) := fun w => isNumber_yes n w h1
  have ld1 : (1 : Int) ≤ dB.size := by omega
  have ef : fB.toList.isEmpty = (fracL n.natAbs).isEmpty := by rw [Lib.toList_data, HfB.out]
  have bA : (aB.size : Int) ≤ 20 := by omega
  have bF : (fB.size : Int) ≤ 20 := by omega
  clear q1 q2 la ld sa sd sf
  by_cases hn : n < 0
  · cases hf : (fracL n.natAbs).isEmpty
    · have PR : Hid (printL n = [45] ++ Lib.decDigits (n.natAbs / 1000000) ++ 46 :: fracL n.natAbs) := by show printL n = _; unfold printL; rw [hf]; simp [hn]
      rw [hf] at ef
      go_enter Tryz.func40, Tryz.ntmps40
      go_wp2_with fail
      refine (c0.out _).mono ?_
      rintro e w' ⟨rfl, rfl⟩
      go_wp2_with fail
      refine (c1.out _).mono ?_
      rintro e w' ⟨rfl, rfl⟩
      go_wp2_with fail
      refine (c2.out _ hE).mono ?_
      rintro e w1 ⟨rfl, hb1⟩
      go_wp2_with fail
      refine (c3.out _ (hE.step hb1)).mono ?_
      rintro e w2 ⟨rfl, hb2⟩
      go_wp2_with fail
      refine (c4.out _).mono ?_
      rintro e w3 ⟨rfl, rfl⟩
      go_wp2_with fail
      go_ret
      exact ⟨ret_str (by rw [PR.out]; simp [HaB.out, HfB.out]), hb1.trans (hb2.mono hb1.size)⟩
    · have PR : Hid (printL n = [45] ++ Lib.decDigits (n.natAbs / 1000000)) := by show printL n = _; unfold printL; rw [hf]; simp [hn]
      rw [hf] at ef
      go_enter Tryz.func40, Tryz.ntmps40
      go_wp2_with fail
      refine (c0.out _).mono ?_
      rintro e w' ⟨rfl, rfl⟩
      go_wp2_with fail
      refine (c1.out _).mono ?_
      rintro e w' ⟨rfl, rfl⟩
      go_wp2_with fail
      refine (c2.out _ hE).mono ?_
      rintro e w1 ⟨rfl, hb1⟩
      go_wp2_with fail
      refine (c3.out _ (hE.step hb1)).mono ?_
      rintro e w2 ⟨rfl, hb2⟩
      go_wp2_with fail
      refine (c4.out _).mono ?_
      rintro e w3 ⟨rfl, rfl⟩
      go_wp2_with fail
      go_ret
      exact ⟨ret_str (by rw [PR.out]; simp [HaB.out]), hb1.trans (hb2.mono hb1.size)⟩
  · cases hf : (fracL n.natAbs).isEmpty
    · have PR : Hid (printL n = Lib.decDigits (n.natAbs / 1000000) ++ 46 :: fracL n.natAbs) := by show printL n = _; unfold printL; rw [hf]; simp [hn]
      rw [hf] at ef
      go_enter Tryz.func40, Tryz.ntmps40
      go_wp2_with fail
      refine (c0.out _).mono ?_
      rintro e w' ⟨rfl, rfl⟩
      go_wp2_with fail
      refine (c1.out _).mono ?_
      rintro e w' ⟨rfl, rfl⟩
      go_wp2_with fail
      refine (c2.out _ hE).mono ?_
      rintro e w1 ⟨rfl, hb1⟩
      go_wp2_with fail
      refine (c3.out _ (hE.step hb1)).mono ?_
      rintro e w2 ⟨rfl, hb2⟩
      go_wp2_with fail
      refine (c4.out _).mono ?_
      rintro e w3 ⟨rfl, rfl⟩
      go_wp2_with fail
      go_ret
      exact ⟨ret_str (by rw [PR.out]; simp [HaB.out, HfB.out]), hb1.trans (hb2.mono hb1.size)⟩
    · have PR : Hid (printL n = Lib.decDigits (n.natAbs / 1000000)) := by show printL n = _; unfold printL; rw [hf]; simp [hn]
      rw [hf] at ef
      go_enter Tryz.func40, Tryz.ntmps40
      go_wp2_with fail
      refine (c0.out _).mono ?_
      rintro e w' ⟨rfl, rfl⟩
      go_wp2_with fail
      refine (c1.out _).mono ?_
      rintro e w' ⟨rfl, rfl⟩
      go_wp2_with fail
      refine (c2.out _ hE).mono ?_
      rintro e w1 ⟨rfl, hb1⟩
      go_wp2_with fail
      refine (c3.out _ (hE.step hb1)).mono ?_
      rintro e w2 ⟨rfl, hb2⟩
      go_wp2_with fail
      refine (c4.out _).mono ?_
      rintro e w3 ⟨rfl, rfl⟩
      go_wp2_with fail
      go_ret
      exact ⟨ret_str (by rw [PR.out]; simp [HaB.out]), hb1.trans (hb2.mono hb1.size)⟩
end Go.Proofs.YtjbkjeabobccaabGreatDoor
