import Derived.Test.YtjbkjeabobccaabGreatDoorNumFmt
import Derived.Test.YtjbkjeabobccaabGreatDoorNumScaled
namespace Go.Proofs.YtjbkjeabobccaabGreatDoor
open Go.RowKit Go.Sort Go.Lib

/-- What the walks lean on, in every later world: a table of the library's, and that a variable of the library's holds some int. -/
structure Env (w : World) : Prop where
  tab : ∀ w', Below w.heap.size w w' → Lib.TabIs Tryz.prog w' "internal/strconv.uint64pow10" .u64 Lib.pow10Tab
  len : ∃ m : Int, ∀ w', Below w.heap.size w w' → w'.cell? ⟨1, 0, none⟩ = some (.int .i64 m)
theorem Env.step {w w1 : World} (h : Env w) (hb : Below w.heap.size w w1) : Env w1 :=
  ⟨fun w' hb' => h.tab w' (hb.trans (hb'.mono hb.size)), h.len.imp fun _ hm w' hb' => hm w' (hb.trans (hb'.mono hb.size))⟩
theorem Below.drewNs {B : Nat} {a w : World} (h : Below B a w) (n : Nat) : Below B a (w.drewN n) := ⟨h.os, h.tape, h.output, h.size, h.block⟩
theorem bl (w : World) (n : Nat) : Below w.heap.size w (w.drewN n) := Below.drewNs (Below.refl _ _) n

def isDig (c : UInt8) : Bool := decide (48 ≤ (c.toNat : Int)) && decide ((c.toNat : Int) ≤ 57)
def isDigB (l : List UInt8) : Bool := !l.isEmpty && l.all isDig
theorem take_snoc (s : ByteArray) (k : Nat) (h : k < s.size) : s.data.toList.take (k + 1) = s.data.toList.take k ++ [s[k]] := by
  rw [List.take_succ_eq_append_getElem (by simpa using h)]; rfl
theorem drop_cons (s : ByteArray) (k : Nat) (h : k < s.size) : s.data.toList.drop k = s[k] :: s.data.toList.drop (k + 1) := by
  rw [List.drop_eq_getElem_cons (by simpa using h)]; rfl
theorem ret_bool {a b : Bool} (h : a = b) : Ending.returned (.bool a) = .returned (.bool b) := by rw [h]

theorem all_false {s : ByteArray} {k : Nat} (h : k < s.size) (hd : isDig s[k] = false) : isDigB s.data.toList = false := by
  have hm : s[k] ∈ s.data.toList := by
    have : s.data.toList[k]'(by simpa using h) = s[k] := rfl
    rw [← this]; exact List.getElem_mem _
  have : s.data.toList.all isDig = false := by
    rw [Bool.eq_false_iff]
    intro ha
    have := List.all_eq_true.1 ha _ hm
    rw [hd] at this; cases this
  simp [isDigB, this]

set_option maxHeartbeats 400000 in
theorem isDigits_any (s : ByteArray) (w : World) (hs : s.size ≤ maxLen) :
    Calls Tryz.prog 57 #[.string s] w fun e w' => e = .returned (.bool (isDigB s.data.toList)) ∧ w' = w := by
  unfold maxLen at hs
  go_enter Tryz.func57, Tryz.ntmps57
  go_wp2
  go_loop [3, 6] (fun _ i => ∃ k : Nat, k ≤ s.size ∧ i = .int .i64 k ∧ Hid ((s.data.toList.take k).all isDig = true)) (fun _ i => s.size - (RowKit.intOf i).toNat)
  case atStart => exact ⟨0, Nat.zero_le _, rfl, rfl⟩
  case round =>
    obtain ⟨k, hk, rfl, hall⟩ := hrel
    by_cases hlt : k < s.size
    · by_cases h1 : (s[k].toNat : Int) < 48
      · have hf : Hid (isDigB s.data.toList = false) := all_false hlt (by unfold isDig; simp; omega)
        go_wp2
        rw [hf.out]
        go_ret
        exact ⟨rfl, rfl⟩
      · by_cases h2 : 57 < (s[k].toNat : Int)
        · have hf : Hid (isDigB s.data.toList = false) := all_false hlt (by unfold isDig; simp; omega)
          go_wp2
          rw [hf.out]
          go_ret
          exact ⟨rfl, rfl⟩
        · have hd : isDig s[k] = true := by unfold isDig; simp; omega
          have hn : Hid ((s.data.toList.take (k + 1)).all isDig = true) := by
            show _ = true
            rw [take_snoc s k hlt, List.all_append, hall.out]
            simp [hd]
          clear hd
          go_wp2
          go_round
          case rel => exact ⟨k + 1, by omega, by go_num, hn⟩
          case measure => simp [RowKit.intOf]; omega
    · have hf : Hid (isDigB s.data.toList = !s.data.toList.isEmpty) := by
        have := hall.out
        rw [List.take_of_length_le (by simp; omega)] at this
        show _ = _
        simp [isDigB, this]
      go_wp2
      rw [hf.out]
      go_ret
      exact ⟨ret_bool (by rw [Lib.toList_data]), rfl⟩

/-- What a row of digits tells; none: it has gone beyond a word. -/
def rd : List UInt8 → Int → Option Int
  | [], n => some n
  | c :: l, n => if 922337203685477580 < n then none else rd l (n * 10 + ((c.toNat : Int) - 48))
def rdR (l : List UInt8) : Int × Bool := match rd l 0 with
  | none => (0, false)
  | some n => (n, decide (n ≤ 9223372036854775807))

theorem dig_at {s : ByteArray} (h : s.data.toList.all isDig = true) (k : Nat) (hk : k < s.size) : 48 ≤ (s[k].toNat : Int) ∧ (s[k].toNat : Int) ≤ 57 := by
  have hm : s[k] ∈ s.data.toList := by
    have : s.data.toList[k]'(by simpa using hk) = s[k] := rfl
    rw [← this]; exact List.getElem_mem _
  have := List.all_eq_true.1 h _ hm
  simpa [isDig] using this
theorem ret_two {k k' : IntKind} {a a' : Int} {b b' : Bool} (h : a = a') (hk : k = k') (h' : b = b') : Ending.returned (.tuple #[.int k a, .bool b]) = .returned (.tuple #[.int k' a', .bool b']) := by rw [h, h', hk]

set_option maxHeartbeats 400000 in
theorem readDigits_any (s : ByteArray) (w : World) (hs : s.size ≤ maxLen) (hd : s.data.toList.all isDig = true) :
    Calls Tryz.prog 58 #[.string s] w fun e w' => e = .returned (.tuple #[.int .u64 (rdR s.data.toList).1, .bool (rdR s.data.toList).2]) ∧ w' = w := by
  unfold maxLen at hs
  have HD := Lib.hid hd
  clear hd
  go_enter Tryz.func58, Tryz.ntmps58
  go_wp2
  go_loop [4, 5, 8] (fun n _ i => ∃ (k : Nat) (N : Int), k ≤ s.size ∧ i = .int .i64 k ∧ n = .int .u64 N ∧ 0 ≤ N ∧ N ≤ 9223372036854775809 ∧ Hid (rd s.data.toList 0 = rd (s.data.toList.drop k) N)) (fun _ _ i => s.size - (RowKit.intOf i).toNat)
  case atStart => exact ⟨0, 0, Nat.zero_le _, rfl, rfl, by omega, by omega, rfl⟩
  case round =>
    obtain ⟨k, N, hk, rfl, rfl, hN, hN', hr⟩ := hrel
    by_cases hlt : k < s.size
    · obtain ⟨b1, b2⟩ := dig_at HD.out k hlt
      by_cases h1 : 922337203685477580 < N
      · have hf : Hid (rdR s.data.toList = (0, false)) := by
          show _ = _
          unfold rdR
          rw [hr.out, drop_cons s k hlt, rd, if_pos h1]
        go_wp2
        rw [hf.out]
        go_ret2
        exact ⟨rfl, rfl⟩
      · have hn : Hid (rd s.data.toList 0 = rd (s.data.toList.drop (k + 1)) (N * 10 + ((s[k].toNat : Int) - 48))) := by
          show _ = _
          rw [hr.out, drop_cons s k hlt, rd, if_neg h1]
        go_wp2
        go_round
        case rel => exact ⟨k + 1, _, by omega, by go_num, rfl, by omega, by omega, hn⟩
        case measure => simp [RowKit.intOf]; omega
    · have hf : Hid (rdR s.data.toList = (N, decide (N ≤ 9223372036854775807))) := by
        show _ = _
        unfold rdR
        rw [hr.out, List.drop_eq_nil_of_le (by simp; omega)]
        rfl
      go_wp2
      rw [hf.out]
      go_ret2
      exact ⟨rfl, rfl⟩
end Go.Proofs.YtjbkjeabobccaabGreatDoor
