import Derived.Test.YtjbkjeabobccaabGreatDoorValText
import Derived.Test.YtjbkjeabobccaabGreatDoorNumPrint
namespace Go.Proofs.YtjbkjeabobccaabGreatDoor
open Go.RowKit Go.Sort Go.Lib
set_option linter.unusedVariables false

theorem cmp_same (x : UInt8) (l m : List UInt8) : Lib.compareBytes (x :: l) (x :: m) = Lib.compareBytes l m := by
  rw [Lib.compareBytes, if_neg (UInt8.lt_irrefl x), if_neg (UInt8.lt_irrefl x)]
theorem cmp_lt {x y : UInt8} (h : x < y) (l m : List UInt8) : Lib.compareBytes (x :: l) (y :: m) = -1 := by
  rw [Lib.compareBytes, if_pos h]
theorem cmp_gt {x y : UInt8} (h : y < x) (l m : List UInt8) : Lib.compareBytes (x :: l) (y :: m) = 1 := by
  rw [Lib.compareBytes, if_neg (fun h2 => UInt8.lt_irrefl x (UInt8.lt_trans h2 h)), if_pos h]
theorem drop_cap (s : ByteArray) (k : Nat) (h : k < s.size) : (s.data.toList.map cap).drop k = cap s[k] :: (s.data.toList.map cap).drop (k + 1) := by
  rw [← List.map_drop, drop_cons s k h, List.map_cons, List.map_drop]
theorem drop_end (s : ByteArray) (k : Nat) (h : s.size ≤ k) : (s.data.toList.map cap).drop k = [] := List.drop_eq_nil_of_le (by simp; omega)
theorem cmp_end (a b : ByteArray) (k : Nat) (h : a.size ≤ k ∨ b.size ≤ k) (h1 : k ≤ a.size) (h2 : k ≤ b.size) :
    Lib.compareBytes ((a.data.toList.map cap).drop k) ((b.data.toList.map cap).drop k) = Lib.compareInt a.size b.size := by
  unfold Lib.compareInt
  by_cases ha : k < a.size
  · have hb : b.size ≤ k := by omega
    rw [drop_end b k hb, drop_cap a k ha, Lib.compareBytes, if_neg (by omega), if_pos (by omega)]
  · rw [drop_end a k (by omega)]
    by_cases hb : k < b.size
    · rw [drop_cap b k hb, Lib.compareBytes, if_pos (by omega)]
    · rw [drop_end b k (by omega), Lib.compareBytes, if_neg (by omega), if_neg (by omega)]

set_option maxHeartbeats 1000000 in
set_option maxRecDepth 100000 in
theorem texts_any (a b : ByteArray) (w : World) (ha : a.size ≤ maxLen) (hb : b.size ≤ maxLen) :
    Calls Tryz.prog 47 #[.string a, .string b] w fun e w' => e = .returned (.int .i64 (Lib.compareBytes (a.data.toList.map cap) (b.data.toList.map cap))) ∧ w' = w := by
  unfold maxLen at ha hb
  have ci := hidv (fun w => ints_any a.size b.size w)
  obtain ⟨R, eR⟩ : ∃ R, Lib.compareBytes (a.data.toList.map cap) (b.data.toList.map cap) = R := ⟨_, rfl⟩
  rw [eR]
  have HR := hidv eR
  clear eR
  go_enter Tryz.func47, Tryz.ntmps47
  go_wp2_with fail
  go_loopw [5] (fun i wr => ∃ k : Nat, k ≤ a.size ∧ k ≤ b.size ∧ i = .int .i64 k ∧ wr = w ∧ Hid (Lib.compareBytes ((a.data.toList.map cap).drop k) ((b.data.toList.map cap).drop k) = R)) (fun i _ => a.size - (RowKit.intOf i).toNat)
  case atStart => exact ⟨0, Nat.zero_le _, Nat.zero_le _, rfl, rfl, HR⟩
  case round =>
    obtain ⟨k, hk1, hk2, rfl, rfl, HE⟩ := hrel
    by_cases h1 : k < a.size
    · by_cases h2 : k < b.size
      · have ca := hidv (fun w => big_any a[k] w)
        have cb := hidv (fun w => big_any b[k] w)
        have e := HE.out
        rw [drop_cap a k h1, drop_cap b k h2] at e
        obtain ⟨x, ex⟩ : ∃ x, cap a[k] = x := ⟨_, rfl⟩
        obtain ⟨y, ey⟩ : ∃ y, cap b[k] = y := ⟨_, rfl⟩
        rw [ex, ey] at e
        rw [ex] at ca
        rw [ey] at cb
        have hx := x.toNat_lt
        have hy := y.toNat_lt
        clear ex ey HE
        rcases Nat.lt_trichotomy x.toNat y.toNat with h | h | h
        · have HV : Hid (R = -1) := by show _ = _; rw [← e]; exact cmp_lt (UInt8.lt_iff_toNat_lt.2 h) _ _
          have q0 : ((x.toNat : Int) != (y.toNat : Int)) = true := by simp; omega
          have q1 : (x.toNat : Int) < y.toNat := by omega
          clear e
          go_wp2_with fail
          refine (ca.out _).mono ?_
          rintro e w' ⟨rfl, rfl⟩
          go_wp2_with fail
          refine (cb.out _).mono ?_
          rintro e w' ⟨rfl, rfl⟩
          go_wp2_with fail
          go_ret
          exact ⟨by rw [HV.out]; rfl, rfl⟩
        · have exy : x = y := UInt8.toNat_inj.1 h
          subst exy
          rw [cmp_same] at e
          have HN := hidv e
          clear e
          go_wp2_with fail
          refine (ca.out _).mono ?_
          rintro e w' ⟨rfl, rfl⟩
          go_wp2_with fail
          refine (cb.out _).mono ?_
          rintro e w' ⟨rfl, rfl⟩
          go_wp2_with fail
          go_roundw
          case rel => exact ⟨k + 1, by omega, by omega, by go_num, by first | rfl | trivial, HN⟩
          case measure => simp [RowKit.intOf]; omega
        · have HV : Hid (R = 1) := by show _ = _; rw [← e]; exact cmp_gt (UInt8.lt_iff_toNat_lt.2 h) _ _
          have q0 : ((x.toNat : Int) != (y.toNat : Int)) = true := by simp; omega
          have q1 : ¬ (x.toNat : Int) < y.toNat := by omega
          clear e
          go_wp2_with fail
          refine (ca.out _).mono ?_
          rintro e w' ⟨rfl, rfl⟩
          go_wp2_with fail
          refine (cb.out _).mono ?_
          rintro e w' ⟨rfl, rfl⟩
          go_wp2_with fail
          go_ret
          exact ⟨by rw [HV.out]; rfl, rfl⟩
      · have HV : Hid (Lib.compareInt a.size b.size = R) := by show _ = _; rw [← HE.out]; exact (cmp_end a b k (by omega) hk1 hk2).symm
        have q1 : (k : Int) < a.size := by omega
        have q2 : ¬ (k : Int) < b.size := by omega
        clear HE
        go_wp2_with (go_at_call 46; refine (ci.out _).mono ?_; rintro e w' ⟨rfl, rfl⟩)
        go_ret
        exact ⟨by rw [← HV.out]; rfl, rfl⟩
    · have HV : Hid (Lib.compareInt a.size b.size = R) := by show _ = _; rw [← HE.out]; exact (cmp_end a b k (by omega) hk1 hk2).symm
      have q1 : ¬ (k : Int) < a.size := by omega
      clear HE
      go_wp2_with (go_at_call 46; refine (ci.out _).mono ?_; rintro e w' ⟨rfl, rfl⟩)
      go_ret
      exact ⟨by rw [← HV.out]; rfl, rfl⟩
end Go.Proofs.YtjbkjeabobccaabGreatDoor
