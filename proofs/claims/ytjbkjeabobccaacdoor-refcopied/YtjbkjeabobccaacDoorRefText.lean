import Derived.Test.YtjbkjeabobccaacDoorRows
import Derived.Test.YtjbkjeabobccaacDoorShelf
import Derived.WalkKit
import Derived.WalkSpells
import Derived.WalkLawsBesides
import Derived.Outline
import Derived.Lib.Walk
import Derived.Lib.Strings
namespace Go.Proofs.YtjbkjeabobccaacDoor
open Go.RowKit Go.Lib

theorem bdrew {B : Nat} {a w : World} (h : Below B a w) (n : Nat) : Below B a (w.drewN n) := ⟨h.os, h.tape, h.output, h.size, h.block⟩
def isLet (c : UInt8) : Bool := (decide (65 ≤ (c.toNat : Int)) && decide ((c.toNat : Int) ≤ 90)) || (decide (97 ≤ (c.toNat : Int)) && decide ((c.toNat : Int) ≤ 122))
def letNum (c : UInt8) : Int := if 97 ≤ (c.toNat : Int) then (c.toNat : Int) - 97 + 1 else (c.toNat : Int) - 65 + 1
theorem take_snoc (s : ByteArray) (k : Nat) (h : k < s.size) : s.data.toList.take (k + 1) = s.data.toList.take k ++ [s[k]] := by
  rw [List.take_succ_eq_append_getElem (by simpa using h)]; rfl
theorem drop_cons (s : ByteArray) (k : Nat) (h : k < s.size) : s.data.toList.drop k = s[k] :: s.data.toList.drop (k + 1) := by
  rw [List.drop_eq_getElem_cons (by simpa using h)]; rfl
theorem let_bd {c : UInt8} (h : isLet c = true) : 1 ≤ letNum c ∧ letNum c ≤ 26 ∧ 65 ≤ (c.toNat : Int) ∧ (c.toNat : Int) ≤ 122 := by
  unfold isLet at h
  unfold letNum
  simp at h
  split <;> omega
theorem let_at {s : ByteArray} (h : s.data.toList.all isLet = true) (k : Nat) (hk : k < s.size) : isLet s[k] = true := by
  have hm : s[k] ∈ s.data.toList := by
    have : s.data.toList[k]'(by simpa using hk) = s[k] := rfl
    rw [← this]; exact List.getElem_mem _
  exact List.all_eq_true.1 h _ hm

set_option maxHeartbeats 400000 in
theorem letterNumber_any (c : UInt8) (w : World) (h : isLet c = true) :
    Calls Tryd.prog 40 #[.int .u8 c.toNat] w fun e w' => e = .returned (.int .i64 (letNum c)) ∧ w' = w := by
  obtain ⟨_, _, h1, h2⟩ := let_bd h
  unfold letNum
  clear h
  obtain ⟨x, ex⟩ : ∃ x : Int, (c.toNat : Int) = x := ⟨_, rfl⟩
  rw [ex] at h1 h2 ⊢
  by_cases h97 : 97 ≤ x
  · rw [if_pos h97]
    go_enter Tryd.func40, Tryd.ntmps40
    go_wp2
    go_ret
    exact ⟨rfl, rfl⟩
  · rw [if_neg h97]
    go_enter Tryd.func40, Tryd.ntmps40
    go_wp2
    go_ret
    exact ⟨rfl, rfl⟩

set_option maxHeartbeats 400000 in
theorem isLetter_any (c : UInt8) (w : World) :
    Calls Tryd.prog 23 #[.int .u8 c.toNat] w fun e w' => e = .returned (.bool (isLet c)) ∧ w' = w := by
  unfold isLet
  obtain ⟨x, ex⟩ : ∃ x : Int, (c.toNat : Int) = x := ⟨_, rfl⟩
  rw [ex]
  by_cases h1 : 65 ≤ x
  · by_cases h2 : x ≤ 90
    · have e1 : decide (65 ≤ x) = true := by simpa using h1
      have e2 : decide (x ≤ 90) = true := by simpa using h2
      go_enter Tryd.func23, Tryd.ntmps23
      go_wp2
      go_ret
      exact ⟨by rw [e1, e2]; rfl, rfl⟩
    · by_cases h3 : 97 ≤ x
      · have e1 : decide (65 ≤ x) = true := by simpa using h1
        have e2 : decide (x ≤ 90) = false := by simpa using h2
        have e3 : decide (97 ≤ x) = true := by simpa using h3
        go_enter Tryd.func23, Tryd.ntmps23
        go_wp2
        go_ret
        exact ⟨rfl, rfl⟩
      · have e1 : decide (65 ≤ x) = true := by simpa using h1
        have e2 : decide (x ≤ 90) = false := by simpa using h2
        have e3 : decide (97 ≤ x) = false := by simpa using h3
        go_enter Tryd.func23, Tryd.ntmps23
        go_wp2
        go_ret
        exact ⟨rfl, rfl⟩
  · have e1 : decide (65 ≤ x) = false := by simpa using h1
    have e3 : decide (97 ≤ x) = false := by simp; omega
    go_enter Tryd.func23, Tryd.ntmps23
    go_wp2
    go_ret
    exact ⟨rfl, rfl⟩

/-- What a column's letters tell. -/
def cn : List UInt8 → Int → Int
  | [], n => n
  | c :: l, n => cn l (n * 26 + letNum c)
def colR (l : List UInt8) : Int × Bool := if l.length < 1 ∨ 2 < l.length then (0, false) else (cn l 0 - 1, decide (cn l 0 ≤ 64))

set_option maxHeartbeats 1000000 in
theorem readColumn_any (s : ByteArray) (w : World) (hs : s.size ≤ maxLen) (hd : s.data.toList.all isLet = true) :
    Calls Tryd.prog 24 #[.string s] w fun e w' => e = .returned (.tuple #[.int .i64 (colR s.data.toList).1, .bool (colR s.data.toList).2]) ∧ w' = w := by
  unfold maxLen at hs
  have HD := Lib.hid hd
  clear hd
  have hl : s.data.toList.length = s.size := by simp
  by_cases h1 : s.size < 1
  · rw [show colR s.data.toList = (0, false) from if_pos (.inl (by omega))]
    have h1' : (s.size : Int) < 1 := by omega
    clear hl
    go_enter Tryd.func24, Tryd.ntmps24
    go_wp2
    go_ret2
    exact ⟨rfl, rfl⟩
  · by_cases h2 : 2 < s.size
    · rw [show colR s.data.toList = (0, false) from if_pos (.inr (by omega))]
      have h1' : ¬ (s.size : Int) < 1 := by omega
      have h2' : (2 : Int) < s.size := by omega
      clear hl
      go_enter Tryd.func24, Tryd.ntmps24
      go_wp2
      go_ret2
      exact ⟨rfl, rfl⟩
    · rw [show colR s.data.toList = (cn s.data.toList 0 - 1, decide (cn s.data.toList 0 ≤ 64)) from if_neg (by omega)]
      have h1' : ¬ (s.size : Int) < 1 := by omega
      have h2' : ¬ (2 : Int) < s.size := by omega
      clear hl
      go_enter Tryd.func24, Tryd.ntmps24
      go_wp2
      go_loop [4, 5, 16] (fun n _ i => ∃ (k : Nat) (N : Int), k ≤ s.size ∧ i = .int .i64 k ∧ n = .int .i64 N ∧ 0 ≤ N ∧ N ≤ 702 ∧ (k = 0 → N = 0) ∧ (k ≤ 1 → N ≤ 26) ∧ Hid (cn s.data.toList 0 = cn (s.data.toList.drop k) N)) (fun _ _ i => s.size - (RowKit.intOf i).toNat)
      case atStart => exact ⟨0, 0, Nat.zero_le _, rfl, rfl, by omega, by omega, fun _ => rfl, fun _ => by omega, rfl⟩
      case round =>
        obtain ⟨k, N, hk, rfl, rfl, hN, hN', hk0, hk1, hr⟩ := hrel
        by_cases hlt : k < s.size
        · have hlet := let_at HD.out k hlt
          obtain ⟨b1, b2, _, _⟩ := let_bd hlet
          have cl : Hid (∀ w, _) := fun w => letterNumber_any s[k] w hlet
          have hn : Hid (cn s.data.toList 0 = cn (s.data.toList.drop (k + 1)) (N * 26 + letNum s[k])) := by
            show _ = _
            rw [hr.out, drop_cons s k hlt, cn]
          have hN26 : N ≤ 26 := hk1 (by omega)
          have hNk : 1 ≤ k ∨ N = 0 := by rcases Nat.eq_zero_or_pos k with h | h; exact .inr (hk0 h); exact .inl h
          have HK := Lib.hid hNk
          clear hk0 hk1 hlet hNk
          go_wp2_with (go_at_call 40; refine (cl.out _).mono ?_; rintro e w' ⟨rfl, rfl⟩)
          go_round
          case rel => exact ⟨k + 1, _, by omega, by go_num, rfl, by omega, by omega, fun h => by omega, fun h => by rcases HK.out with h' | h' <;> omega, hn⟩
          case measure => simp [RowKit.intOf]; omega
        · have hf : Hid (cn s.data.toList 0 = N) := by
            show _ = _
            rw [hr.out, List.drop_eq_nil_of_le (by simp; omega)]
            rfl
          clear hk0 hk1
          go_wp2
          rw [hf.out]
          go_ret2
          exact ⟨rfl, rfl⟩

/-- What a row's digits tell; none: no row. -/
def rr : List UInt8 → Int → Option Int
  | [], n => some n
  | c :: l, n => if (c.toNat : Int) < 48 ∨ 57 < (c.toNat : Int) then none else if 1024 < n * 10 + ((c.toNat : Int) - 48) then none else rr l (n * 10 + ((c.toNat : Int) - 48))
def rowR (l : List UInt8) : Int × Bool := if l = [] ∨ l.head? = some 48 then (0, false) else match rr l 0 with
  | none => (0, false)
  | some n => (n - 1, true)

theorem head_at {s : ByteArray} (h : 0 < s.size) : s.data.toList.head? = some s[0] := by
  have := drop_cons s 0 h
  rw [List.drop_zero] at this
  rw [this]; rfl
theorem u8_eq {c : UInt8} (n : Nat) (hn : n < 256) : c = UInt8.ofNat n ↔ (c.toNat : Int) = n := by
  constructor
  · intro h; rw [h]; simp; omega
  · intro h
    apply UInt8.toNat_inj.1
    simp
    omega

set_option maxHeartbeats 1000000 in
theorem readRow_any (s : ByteArray) (w : World) (hs : s.size ≤ maxLen) :
    Calls Tryd.prog 25 #[.string s] w fun e w' => e = .returned (.tuple #[.int .i64 (rowR s.data.toList).1, .bool (rowR s.data.toList).2]) ∧ w' = w := by
  unfold maxLen at hs
  by_cases h0 : s.size = 0
  · have hnil : s.data.toList = [] := by
      apply List.eq_nil_of_length_eq_zero
      simpa using h0
    rw [show rowR s.data.toList = (0, false) from if_pos (.inl hnil)]
    have e0 : s.toList.isEmpty = true := by rw [Lib.toList_data, hnil]; rfl
    clear hnil h0
    go_enter Tryd.func25, Tryd.ntmps25
    go_wp2
    go_ret2
    exact ⟨rfl, rfl⟩
  · have hpos : 0 < s.size := by omega
    have hhd := head_at hpos
    have e0 : s.toList.isEmpty = false := by
      rw [Lib.toList_data]
      cases hl : s.data.toList with
      | nil => rw [hl] at hhd; cases hhd
      | cons _ _ => rfl
    have hnn : s.data.toList ≠ [] := by intro h; rw [h] at hhd; cases hhd
    have hposI : (0 : Int) < s.size := by omega
    by_cases h48 : (s[0].toNat : Int) = 48
    · have : s[0] = 48 := (u8_eq 48 (by omega)).2 h48
      rw [show rowR s.data.toList = (0, false) from if_pos (.inr (by rw [hhd, this]))]
      have e48 : ((s[0].toNat : Int) == 48) = true := by simpa using h48
      clear this h48 hhd hnn h0
      go_enter Tryd.func25, Tryd.ntmps25
      go_wp2
      go_ret2
      exact ⟨rfl, rfl⟩
    · have hne : ¬ (s.data.toList = [] ∨ s.data.toList.head? = some 48) := by
        rintro (h | h)
        · exact hnn h
        · rw [hhd] at h
          exact h48 ((u8_eq 48 (by omega)).1 (Option.some.inj h))
      have hrow : rowR s.data.toList = match rr s.data.toList 0 with
        | none => (0, false)
        | some n => (n - 1, true) := if_neg hne
      have HR := Lib.hid hrow
      have e48 : ((s[0].toNat : Int) == 48) = false := by simpa using h48
      clear hrow hne h48 hhd hnn h0
      go_enter Tryd.func25, Tryd.ntmps25
      go_wp2
      go_loop [4, 5, 15] (fun n _ i => ∃ (k : Nat) (N : Int), k ≤ s.size ∧ i = .int .i64 k ∧ n = .int .i64 N ∧ 0 ≤ N ∧ N ≤ 1024 ∧ Hid (rr s.data.toList 0 = rr (s.data.toList.drop k) N)) (fun _ _ i => s.size - (RowKit.intOf i).toNat)
      case atStart => exact ⟨0, 0, Nat.zero_le _, rfl, rfl, by omega, by omega, rfl⟩
      case round =>
        obtain ⟨k, N, hk, rfl, rfl, hN, hN', hr⟩ := hrel
        by_cases hlt : k < s.size
        · by_cases d1 : (s[k].toNat : Int) < 48
          · have hf : Hid (rowR s.data.toList = (0, false)) := by
              show _ = _
              rw [HR.out, hr.out, drop_cons s k hlt, rr, if_pos (.inl d1)]
            go_wp2
            rw [hf.out]
            go_ret2
            exact ⟨rfl, rfl⟩
          · by_cases d2 : 57 < (s[k].toNat : Int)
            · have hf : Hid (rowR s.data.toList = (0, false)) := by
                show _ = _
                rw [HR.out, hr.out, drop_cons s k hlt, rr, if_pos (.inr d2)]
              go_wp2
              rw [hf.out]
              go_ret2
              exact ⟨rfl, rfl⟩
            · by_cases d3 : 1024 < N * 10 + ((s[k].toNat : Int) - 48)
              · have hf : Hid (rowR s.data.toList = (0, false)) := by
                  show _ = _
                  rw [HR.out, hr.out, drop_cons s k hlt, rr, if_neg (by omega), if_pos d3]
                go_wp2
                rw [hf.out]
                go_ret2
                exact ⟨rfl, rfl⟩
              · have hn : Hid (rr s.data.toList 0 = rr (s.data.toList.drop (k + 1)) (N * 10 + ((s[k].toNat : Int) - 48))) := by
                  show _ = _
                  rw [hr.out, drop_cons s k hlt, rr, if_neg (by omega), if_neg d3]
                go_wp2
                go_round
                case rel => exact ⟨k + 1, _, by omega, by go_num, rfl, by omega, by omega, hn⟩
                case measure => simp [RowKit.intOf]; omega
        · have hf : Hid (rowR s.data.toList = (N - 1, true)) := by
            show _ = _
            rw [HR.out, hr.out, List.drop_eq_nil_of_le (by simp; omega)]
            rfl
          go_wp2
          rw [hf.out]
          go_ret2
          exact ⟨rfl, rfl⟩
end Go.Proofs.YtjbkjeabobccaacDoor
