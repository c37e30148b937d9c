import Derived.Test.YtjbkjeabobccaacGreatDoorValText
import Derived.Test.YtjbkjeabobccaacGreatDoorNumPrint
namespace Go.Proofs.YtjbkjeabobccaacGreatDoor
open Go.RowKit Go.Sort Go.Lib
set_option linter.unusedVariables false

theorem cmp_same (x : UInt8) (l m : List UInt8) : Lib.compareBytes (x :: l) (x :: m) = Lib.compareBytes l m := by
  rw [Lib.compareBytes, if_neg (UInt8.lt_irrefl x), if_neg (UInt8.lt_irrefl x)]
theorem cmp_lt {x y : UInt8} (h : x < y) (l m : List UInt8) : Lib.compareBytes (x :: l) (y :: m) = -1 := by
  rw [Lib.compareBytes, if_pos h]
theorem cmp_gt {x y : UInt8} (h : y < x) (l m : List UInt8) : Lib.compareBytes (x :: l) (y :: m) = 1 := by
  rw [Lib.compareBytes, if_neg (fun h2 => UInt8.lt_irrefl x (UInt8.lt_trans h2 h)), if_pos h]
theorem drop_cap (s : ByteArray) (k : Nat) (h : k < s.size) : (s.data.toList.map cap).drop k = cap s[k] :: (s.data.toList.map cap).drop (k + 1) := by
  rw [← List.map_drop, drop_cons s k h, List.map_cons, List.map_drop]
theorem drop_end (s : ByteArray) (k : Nat) (h : s.size ≤ k) : (s.data.toList.map cap).drop k = [] := List.drop_eq_nil_of_le (by simp; omega)
theorem cmp_end (a b : ByteArray) (k : Nat) (h : a.size ≤ k ∨ b.size ≤ k) (h1 : k ≤ a.size) (h2 : k ≤ b.size) :
    Lib.compareBytes ((a.data.toList.map cap).drop k) ((b.data.toList.map cap).drop k) = Lib.compareInt a.size b.size := by
  unfold Lib.compareInt
  by_cases ha : k < a.size
  · have hb : b.size ≤ k := by omega
    rw [drop_end b k hb, drop_cap a k ha, Lib.compareBytes, if_neg (by omega), if_pos (by omega)]
  · rw [drop_end a k (by omega)]
    by_cases hb : k < b.size
    · rw [drop_cap b k hb, Lib.compareBytes, if_pos (by omega)]
    · rw [drop_end b k (by omega), Lib.compareBytes, if_neg (by omega), if_neg (by omega)]

end Go.Proofs.YtjbkjeabobccaacGreatDoor
