import Derived.Test.YtjbkjeabobccaabGreatDoorNumWorksA
import Derived.Test.YtjbkjeabobccaabGreatDoorValWork0
import Derived.Test.YtjbkjeabobccaabGreatDoorValWorksA
import Derived.Test.YtjbkjeabobccaabGreatDoorValRTell
import Derived.Deep.RegionHeld2
import Derived.Deep.CutRange
import Derived.Deep.CutBlock
import Derived.Lib.ItoaLen
import Derived.Test.YtjbkjeabobccaabGreatDoorValWork
namespace Go.Proofs.YtjbkjeabobccaabGreatDoor
open Go.RowKit Go.Lib
set_option linter.unusedVariables false

def nmb (n e : Int) : Int × Int := if e = 7 then (4, 1) else if e ≠ 0 then (4, 2) else (1, n)
theorem nmb_calc (R1 R2 : Int) (h : R1 ≠ -9223372036854775808) : nmb R1 R2 = calcD 0 0 R1 R2 := by
  unfold nmb calcD
  by_cases h7 : R2 = 7
  · subst h7; simp
  · by_cases h0 : R2 = 0
    · subst h0; simp [h]
    · simp [h7, h0]

set_option maxHeartbeats 2000000 in
theorem numbered_any (n e : Int) (w : World) : Calls Tryz.prog 54 #[.int .i64 n, .int .i64 e] w fun x w' => x = .returned (.agg #[.int .i64 (nmb n e).1, .int .i64 (nmb n e).2, .string ⟨#[]⟩]) ∧ Below w.heap.size w w' := by
  have cf := hidv fault_any
  have HB := hidv (oneB_new w 25 (.int .i64 0) (.int .i64 0) (.string ⟨#[]⟩))
  by_cases h7 : e = 7
  · subst h7
    rw [show nmb n 7 = (4, 1) from if_pos rfl]
    go_enter Tryz.func54, Tryz.ntmps54
    go_wp2_with fail
    refine (cf.out _ _).mono ?_
    rintro e w1 ⟨rfl, hb1⟩
    have HB1 := hidv (HB.out.step hb1)
    have HL := hidv (fun x y z => (HB1.out.seta x y z).low)
    obtain ⟨p0, p1, p2, f0, f1, f2⟩ := three HB1.out.a
    obtain ⟨s0, s1, s2⟩ := three_set p0 p1 p2
    clear hb1
    go_wp2_with fail
    refine bodyPost_ret (v := .agg #[.int .i64 4, .int .i64 1, .string ⟨#[]⟩]) (by simp [results, Tryz.results54, go_sem, *]) rfl ?_
    exact ⟨rfl, HL.out _ _ _⟩
  · by_cases h0 : e = 0
    · subst h0
      rw [show nmb n 0 = (1, n) by simp [nmb]]
      clear h7
      go_enter Tryz.func54, Tryz.ntmps54
      go_wp2_with fail
      refine bodyPost_ret (v := .agg #[.int .i64 1, .int .i64 n, .string ⟨#[]⟩]) (by simp [results, Tryz.results54, go_sem, *]) rfl ?_
      exact ⟨rfl, by go_grown⟩
    · rw [show nmb n e = (4, 2) by simp [nmb, h7, h0]]
      have q7 : (e == 7) = false := by simpa using h7
      have q0 : (e == 0) = false := by simpa using h0
      clear h7 h0
      go_enter Tryz.func54, Tryz.ntmps54
      go_wp2_with fail
      refine (cf.out _ _).mono ?_
      rintro e w1 ⟨rfl, hb1⟩
      have HB1 := hidv (HB.out.step hb1)
      have HL := hidv (fun x y z => (HB1.out.seta x y z).low)
      obtain ⟨p0, p1, p2, f0, f1, f2⟩ := three HB1.out.a
      obtain ⟨s0, s1, s2⟩ := three_set p0 p1 p2
      clear hb1
      go_wp2_with fail
      refine bodyPost_ret (v := .agg #[.int .i64 4, .int .i64 2, .string ⟨#[]⟩]) (by simp [results, Tryz.results54, go_sem, *]) rfl ?_
      exact ⟨rfl, HL.out _ _ _⟩

set_option maxHeartbeats 2000000 in
theorem rpower_bad (a b : Int) (w : World) (hb1 : -9223372036854775808 ≤ b) (hb2 : b ≤ 9223372036854775807) (h : b % 1000000 ≠ 0 ∨ b < -64000000 ∨ 64000000 < b) :
    Calls Tryz.prog 52 #[.int .i64 a, .int .i64 b] w fun e w' => e = .returned (.agg #[.int .i64 4, .int .i64 2, .string ⟨#[]⟩]) ∧ Below w.heap.size w w' := by
  have cf := hidv fault_any
  have HB := hidv (oneB_new w 25 (.int .i64 0) (.int .i64 0) (.string ⟨#[]⟩))
  have hh : (¬ b.tmod 1000000 = 0) ∨ (b.tmod 1000000 = 0 ∧ (b < -64000000)) ∨ (b.tmod 1000000 = 0 ∧ 64000000 < b) := by
    by_cases h0 : b % 1000000 = 0
    · right
      rcases h with h | h | h
      · exact absurd h0 h
      · exact .inl ⟨tmod_zero h0, h⟩
      · exact .inr ⟨tmod_zero h0, h⟩
    · exact .inl (tmod_nonzero h0)
  clear h
  rcases hh with h | ⟨h0, h⟩ | ⟨h0, h⟩
  all_goals
    go_enter Tryz.func52, Tryz.ntmps52
    go_wp2_with fail
    refine (cf.out _ _).mono ?_
    rintro e w1 ⟨rfl, hb1⟩
    have HB1 := hidv (HB.out.step hb1)
    have HL := hidv (fun x y z => (HB1.out.seta x y z).low)
    obtain ⟨p0, p1, p2, f0, f1, f2⟩ := three HB1.out.a
    obtain ⟨s0, s1, s2⟩ := three_set p0 p1 p2
    clear hb1
    go_wp2_with fail
    refine bodyPost_ret (v := .agg #[.int .i64 4, .int .i64 2, .string ⟨#[]⟩]) (by simp [results, Tryz.results52, go_sem, *]) rfl ?_
    exact ⟨rfl, HL.out _ _ _⟩
theorem tdivn {b : Int} (h0 : b < 0) : b.tdiv 1000000 = -((b.natAbs / 1000000 : Nat) : Int) := by
  rw [show b = -(-b) by omega, Int.neg_tdiv, tdiv_pos (by omega)]; simp

set_option maxHeartbeats 4000000 in
theorem rpower_pos (M V : Int → Int → Int × Int) (hM : Wk M) (a b : Int)
    (hm : ∀ x w, -9223372036854775807 ≤ x → x ≤ 9223372036854775807 → Calls Tryz.prog 53 #[.int .u8 42, .int .i64 x, .int .i64 a] w fun e w' => e = .returned (.tuple #[.int .i64 (M x a).1, .int .i64 (M x a).2]) ∧ Below w.heap.size w w')
    (w : World) (h0 : b % 1000000 = 0) (h1 : 0 ≤ b) (h2 : b ≤ 64000000) (D : Int × Int) (hD : nmb (powR M V a b).1 (powR M V a b).2 = D) :
    Calls Tryz.prog 52 #[.int .i64 a, .int .i64 b] w fun e w' => e = .returned (.agg #[.int .i64 D.1, .int .i64 D.2, .string ⟨#[]⟩]) ∧ Below w.heap.size w w' := by
  have e0 := tmod_zero h0
  have hq := tdiv_pos h1
  obtain ⟨k, ek⟩ : ∃ k, b.natAbs / 1000000 = k := ⟨_, rfl⟩
  rw [ek] at hq
  have hk : k ≤ 64 := by omega
  have HR : Hid (powR M V a b = if (powN M a k).2 ≠ 0 then (0, (powN M a k).2) else ((powN M a k).1, 0)) := by
    show _ = _
    unfold powR
    rw [if_neg (by omega), ek, if_neg (show ¬ b < 0 by omega)]
  obtain ⟨R, eR⟩ : ∃ R, powR M V a b = R := ⟨_, rfl⟩
  rw [eR] at HR hD
  have HD := hidv hD
  have cm := hidv hm
  have cn := hidv numbered_any
  have HB := hidv (powN_bd hM a)
  have HX := hidv (oneB_new w 25 (.int .i64 0) (.int .i64 0) (.string ⟨#[]⟩))
  clear hm hM h0 ek eR hD
  go_enter Tryz.func52, Tryz.ntmps52
  go_wp2_with fail
  go_loopw [5, 7] (fun p i wr => ∃ j : Nat, j ≤ k ∧ i = .int .i64 j ∧ p = .int .i64 (powN M a j).1 ∧ Hid ((powN M a j).2 = 0) ∧ Hid (OneB w wr 25 (.int .i64 0) (.int .i64 0) (.string ⟨#[]⟩))) (fun _ i _ => k - (RowKit.intOf i).toNat)
  case atStart => exact ⟨0, Nat.zero_le _, rfl, rfl, rfl, HX⟩
  case round =>
    obtain ⟨j, hj, rfl, rfl, HZ, HW⟩ := hrel
    by_cases hlt : j < k
    · have c1 := hidv (fun w => cm.out (powN M a j).1 w (HB.out j).1 (HB.out j).2)
      have e1 : Hid (powN M a (j + 1) = M (powN M a j).1 a) := by show _ = _; rw [powN, if_pos HZ.out]
      have e2 : Hid ((powN M a (j + 1)).2 ≠ 0 → (powN M a k).2 = (powN M a (j + 1)).2) := by show _ → _; exact fun h => powN_err a (j + 1) k h (by omega)
      generalize powN M a j = P at c1 e1 HZ
      obtain ⟨P1, P2⟩ := P
      generalize M P1 a = S at c1 e1
      obtain ⟨S1, S2⟩ := S
      go_wp2_with fail
      refine (c1.out _).mono ?_
      rintro e w5 ⟨rfl, hb5⟩
      have HW5 := hidv (HW.out.step hb5)
      clear hb5
      by_cases g : S2 = 0
      · subst g
        go_wp2_with fail
        go_roundw
        case rel => exact ⟨j + 1, by omega, by go_num, by rw [e1.out], by show _ = _; rw [e1.out], HW5⟩
        case measure => simp [RowKit.intOf]; omega
      · have q1 : (S2 == 0) = false := by simpa using g
        have VR : Hid (nmb 0 S2 = D) := by
          show _ = _
          have e3 := e2.out (by rw [e1.out]; exact g)
          rw [e1.out] at e3
          rw [← HD.out, HR.out, e3, if_pos g]
        clear g
        have c3 := hidv (fun w => cn.out 0 S2 w)
        rw [VR.out] at c3
        go_wp2_with fail
        refine (c3.out _).mono ?_
        rintro e w6 ⟨rfl, hb6⟩
        have HW6 := hidv (HW5.out.step hb6)
        have HL := hidv (fun x y z => (HW6.out.seta x y z).low)
        obtain ⟨p0, p1, p2, f0, f1, f2⟩ := three HW6.out.a
        obtain ⟨s0, s1, s2⟩ := three_set p0 p1 p2
        clear hb6
        go_wp2_with fail
        refine bodyPost_ret (v := .agg #[.int .i64 D.1, .int .i64 D.2, .string ⟨#[]⟩]) (by simp [results, Tryz.results52, go_sem, *]) rfl ?_
        exact ⟨rfl, HL.out _ _ _⟩
    · obtain rfl : j = k := by omega
      have VR : Hid (D = (1, (powN M a j).1)) := by show _ = _; rw [← HD.out, HR.out, if_neg (by rw [HZ.out]; simp)]; simp [nmb]
      generalize (powN M a j).1 = P1 at VR ⊢
      have HL := hidv (fun x y z => (HW.out.seta x y z).low)
      obtain ⟨p0, p1, p2, f0, f1, f2⟩ := three HW.out.a
      obtain ⟨s0, s1, s2⟩ := three_set p0 p1 p2
      go_wp2_with fail
      refine bodyPost_ret (v := .agg #[.int .i64 1, .int .i64 P1, .string ⟨#[]⟩]) (by simp [results, Tryz.results52, go_sem, *]) rfl ?_
      exact ⟨by rw [VR.out], HL.out _ _ _⟩

set_option maxHeartbeats 4000000 in
theorem rpower_neg (M V : Int → Int → Int × Int) (hM : Wk M) (a b : Int)
    (hm : ∀ x w, -9223372036854775807 ≤ x → x ≤ 9223372036854775807 → Calls Tryz.prog 53 #[.int .u8 42, .int .i64 x, .int .i64 a] w fun e w' => e = .returned (.tuple #[.int .i64 (M x a).1, .int .i64 (M x a).2]) ∧ Below w.heap.size w w')
    (hv : ∀ x w, -9223372036854775807 ≤ x → x ≤ 9223372036854775807 → Calls Tryz.prog 53 #[.int .u8 47, .int .i64 1000000, .int .i64 x] w fun e w' => e = .returned (.tuple #[.int .i64 (V 1000000 x).1, .int .i64 (V 1000000 x).2]) ∧ Below w.heap.size w w')
    (w : World) (h0 : b % 1000000 = 0) (h1 : -64000000 ≤ b) (h2 : b < 0) (D : Int × Int) (hD : nmb (powR M V a b).1 (powR M V a b).2 = D) :
    Calls Tryz.prog 52 #[.int .i64 a, .int .i64 b] w fun e w' => e = .returned (.agg #[.int .i64 D.1, .int .i64 D.2, .string ⟨#[]⟩]) ∧ Below w.heap.size w w' := by
  have e0 := tmod_zero h0
  have hq := tdivn h2
  obtain ⟨k, ek⟩ : ∃ k, b.natAbs / 1000000 = k := ⟨_, rfl⟩
  rw [ek] at hq
  have hk : k ≤ 64 ∧ 0 < k := by omega
  have HR : Hid (powR M V a b = if (powN M a k).2 ≠ 0 then (0, (powN M a k).2) else V 1000000 (powN M a k).1) := by
    show _ = _
    unfold powR
    rw [if_neg (by omega), ek, if_pos h2]
  obtain ⟨R, eR⟩ : ∃ R, powR M V a b = R := ⟨_, rfl⟩
  rw [eR] at HR hD
  have HD := hidv hD
  have cm := hidv hm
  have cv := hidv hv
  have cn := hidv numbered_any
  have HB := hidv (powN_bd hM a)
  have HX := hidv (oneB_new w 25 (.int .i64 0) (.int .i64 0) (.string ⟨#[]⟩))
  clear hm hM h0 ek eR hD hv
  go_enter Tryz.func52, Tryz.ntmps52
  go_wp2_with fail
  go_loopw [5, 7] (fun p i wr => ∃ j : Nat, j ≤ k ∧ i = .int .i64 j ∧ p = .int .i64 (powN M a j).1 ∧ Hid ((powN M a j).2 = 0) ∧ Hid (OneB w wr 25 (.int .i64 0) (.int .i64 0) (.string ⟨#[]⟩))) (fun _ i _ => k - (RowKit.intOf i).toNat)
  case atStart => exact ⟨0, Nat.zero_le _, rfl, rfl, rfl, HX⟩
  case round =>
    obtain ⟨j, hj, rfl, rfl, HZ, HW⟩ := hrel
    by_cases hlt : j < k
    · have c1 := hidv (fun w => cm.out (powN M a j).1 w (HB.out j).1 (HB.out j).2)
      have e1 : Hid (powN M a (j + 1) = M (powN M a j).1 a) := by show _ = _; rw [powN, if_pos HZ.out]
      have e2 : Hid ((powN M a (j + 1)).2 ≠ 0 → (powN M a k).2 = (powN M a (j + 1)).2) := by show _ → _; exact fun h => powN_err a (j + 1) k h (by omega)
      generalize powN M a j = P at c1 e1 HZ
      obtain ⟨P1, P2⟩ := P
      generalize M P1 a = S at c1 e1
      obtain ⟨S1, S2⟩ := S
      go_wp2_with fail
      refine (c1.out _).mono ?_
      rintro e w5 ⟨rfl, hb5⟩
      have HW5 := hidv (HW.out.step hb5)
      clear hb5
      by_cases g : S2 = 0
      · subst g
        go_wp2_with fail
        go_roundw
        case rel => exact ⟨j + 1, by omega, by go_num, by rw [e1.out], by show _ = _; rw [e1.out], HW5⟩
        case measure => simp [RowKit.intOf]; omega
      · have q1 : (S2 == 0) = false := by simpa using g
        have VR : Hid (nmb 0 S2 = D) := by
          show _ = _
          have e3 := e2.out (by rw [e1.out]; exact g)
          rw [e1.out] at e3
          rw [← HD.out, HR.out, e3, if_pos g]
        clear g
        have c3 := hidv (fun w => cn.out 0 S2 w)
        rw [VR.out] at c3
        go_wp2_with fail
        refine (c3.out _).mono ?_
        rintro e w6 ⟨rfl, hb6⟩
        have HW6 := hidv (HW5.out.step hb6)
        have HL := hidv (fun x y z => (HW6.out.seta x y z).low)
        obtain ⟨p0, p1, p2, f0, f1, f2⟩ := three HW6.out.a
        obtain ⟨s0, s1, s2⟩ := three_set p0 p1 p2
        clear hb6
        go_wp2_with fail
        refine bodyPost_ret (v := .agg #[.int .i64 D.1, .int .i64 D.2, .string ⟨#[]⟩]) (by simp [results, Tryz.results52, go_sem, *]) rfl ?_
        exact ⟨rfl, HL.out _ _ _⟩
    · obtain rfl : j = k := by omega
      have c2 := hidv (fun w => cv.out (powN M a j).1 w (HB.out j).1 (HB.out j).2)
      have VR : Hid (R = V 1000000 (powN M a j).1) := by show _ = _; rw [HR.out, if_neg (by rw [HZ.out]; simp)]
      generalize (powN M a j).1 = P1 at c2 VR ⊢
      generalize V 1000000 P1 = S at c2 VR
      obtain ⟨S1, S2⟩ := S
      have c3 := hidv (fun w => cn.out S1 S2 w)
      have VD : Hid (nmb S1 S2 = D) := by show _ = _; rw [← HD.out, VR.out]
      rw [VD.out] at c3
      go_wp2_with fail
      refine (c2.out _).mono ?_
      rintro e w5 ⟨rfl, hb5⟩
      have HW5 := hidv (HW.out.step hb5)
      clear hb5
      go_wp2_with fail
      refine (c3.out _).mono ?_
      rintro e w6 ⟨rfl, hb6⟩
      have HW6 := hidv (HW5.out.step hb6)
      have HL := hidv (fun x y z => (HW6.out.seta x y z).low)
      obtain ⟨p0, p1, p2, f0, f1, f2⟩ := three HW6.out.a
      obtain ⟨s0, s1, s2⟩ := three_set p0 p1 p2
      clear hb6
      go_wp2_with fail
      refine bodyPost_ret (v := .agg #[.int .i64 D.1, .int .i64 D.2, .string ⟨#[]⟩]) (by simp [results, Tryz.results52, go_sem, *]) rfl ?_
      exact ⟨rfl, HL.out _ _ _⟩

theorem rpower_any (M V : Int → Int → Int × Int) (hM : Wk M) (a b : Int) (hb1 : -9223372036854775808 ≤ b) (hb2 : b ≤ 9223372036854775807)
    (hm : ∀ x w, -9223372036854775807 ≤ x → x ≤ 9223372036854775807 → Calls Tryz.prog 53 #[.int .u8 42, .int .i64 x, .int .i64 a] w fun e w' => e = .returned (.tuple #[.int .i64 (M x a).1, .int .i64 (M x a).2]) ∧ Below w.heap.size w w')
    (hv : ∀ x w, -9223372036854775807 ≤ x → x ≤ 9223372036854775807 → Calls Tryz.prog 53 #[.int .u8 47, .int .i64 1000000, .int .i64 x] w fun e w' => e = .returned (.tuple #[.int .i64 (V 1000000 x).1, .int .i64 (V 1000000 x).2]) ∧ Below w.heap.size w w')
    (w : World) :
    Calls Tryz.prog 52 #[.int .i64 a, .int .i64 b] w fun e w' => e = .returned (.agg #[.int .i64 (nmb (powR M V a b).1 (powR M V a b).2).1, .int .i64 (nmb (powR M V a b).1 (powR M V a b).2).2, .string ⟨#[]⟩]) ∧ Below w.heap.size w w' := by
  by_cases h : b % 1000000 ≠ 0 ∨ b < -64000000 ∨ 64000000 < b
  · rw [show powR M V a b = (0, 6) from if_pos h]
    exact rpower_bad a b w hb1 hb2 h
  · by_cases h3 : 0 ≤ b
    · exact rpower_pos M V hM a b hm w (by omega) h3 (by omega) _ rfl
    · exact rpower_neg M V hM a b hm hv w (by omega) (by omega) (by omega) _ rfl
end Go.Proofs.YtjbkjeabobccaabGreatDoor
namespace Go.Proofs.YtjbkjeabobccaabGreatDoor
open Go.RowKit Go.Lib
set_option linter.unusedVariables false

def tstB (i : Nat) (R : Int) : Bool := match i with | 1 => decide (R = 0) | 2 => R != 0 | 3 => decide (R < 0) | 4 => decide (R ≤ 0) | 5 => decide (0 < R) | _ => decide (0 ≤ R)
theorem tst_B (i : Nat) (R : Int) : tst i R = if tstB i R then 1 else 0 := by
  unfold tst tstB
  split <;> simp
set_option maxHeartbeats 2000000 in
theorem compared_1 (c : Int) (w : World) : Calls Tryz.prog 51 #[.string ⟨#[61]⟩, .int .i64 c] w fun e w' => e = .returned (.tuple #[.bool (tstB 1 c), .bool true]) ∧ w' = w := by
  go_enter Tryz.func51, Tryz.ntmps51
  go_wp2_with fail
  go_ret2
  exact ⟨rfl, rfl⟩
set_option maxHeartbeats 2000000 in
theorem compared_2 (c : Int) (w : World) : Calls Tryz.prog 51 #[.string ⟨#[60, 62]⟩, .int .i64 c] w fun e w' => e = .returned (.tuple #[.bool (tstB 2 c), .bool true]) ∧ w' = w := by
  go_enter Tryz.func51, Tryz.ntmps51
  go_wp2_with fail
  go_ret2
  exact ⟨rfl, rfl⟩
set_option maxHeartbeats 2000000 in
theorem compared_3 (c : Int) (w : World) : Calls Tryz.prog 51 #[.string ⟨#[60]⟩, .int .i64 c] w fun e w' => e = .returned (.tuple #[.bool (tstB 3 c), .bool true]) ∧ w' = w := by
  go_enter Tryz.func51, Tryz.ntmps51
  go_wp2_with fail
  go_ret2
  exact ⟨rfl, rfl⟩
set_option maxHeartbeats 2000000 in
theorem compared_4 (c : Int) (w : World) : Calls Tryz.prog 51 #[.string ⟨#[60, 61]⟩, .int .i64 c] w fun e w' => e = .returned (.tuple #[.bool (tstB 4 c), .bool true]) ∧ w' = w := by
  go_enter Tryz.func51, Tryz.ntmps51
  go_wp2_with fail
  go_ret2
  exact ⟨rfl, rfl⟩
set_option maxHeartbeats 2000000 in
theorem compared_5 (c : Int) (w : World) : Calls Tryz.prog 51 #[.string ⟨#[62]⟩, .int .i64 c] w fun e w' => e = .returned (.tuple #[.bool (tstB 5 c), .bool true]) ∧ w' = w := by
  go_enter Tryz.func51, Tryz.ntmps51
  go_wp2_with fail
  go_ret2
  exact ⟨rfl, rfl⟩
set_option maxHeartbeats 2000000 in
theorem compared_6 (c : Int) (w : World) : Calls Tryz.prog 51 #[.string ⟨#[62, 61]⟩, .int .i64 c] w fun e w' => e = .returned (.tuple #[.bool (tstB 6 c), .bool true]) ∧ w' = w := by
  go_enter Tryz.func51, Tryz.ntmps51
  go_wp2_with fail
  go_ret2
  exact ⟨rfl, rfl⟩
set_option maxHeartbeats 2000000 in
theorem compared_none (op : ByteArray) (c : Int) (w : World) (h : NoCmp op) : Calls Tryz.prog 51 #[.string op, .int .i64 c] w fun e w' => e = .returned (.tuple #[.bool false, .bool false]) ∧ w' = w := by
  obtain ⟨c1, c2, c3, c4, c5, c6⟩ := h
  go_enter Tryz.func51, Tryz.ntmps51
  go_wp2_with fail
  go_ret2
  exact ⟨rfl, rfl⟩
theorem noCmp_lit (x : UInt8) (h : x = 43 ∨ x = 45 ∨ x = 42 ∨ x = 47 ∨ x = 94) : NoCmp ⟨#[x]⟩ := by
  rcases h with h | h | h | h | h <;> subst h <;> constructor <;> (rw [Lib.toList_data]; rfl)
end Go.Proofs.YtjbkjeabobccaabGreatDoor
namespace Go.Proofs.YtjbkjeabobccaabGreatDoor
open Go.RowKit Go.Lib
set_option linter.unusedVariables false

set_option maxHeartbeats 8000000 in
set_option maxRecDepth 100000 in
theorem rwork_Add (k1 n1 : Int) (t1 : ByteArray) (k2 n2 : Int) (t2 : ByteArray) (K1 N1 : Int) (T1 : ByteArray) (K2 N2 : Int) (T2 : ByteArray) (h1 : Cn k1 n1 t1 K1 N1 T1) (h2 : Cn k2 n2 t2 K2 N2 T2) (X E1 Y E2 R1 R2 : Int) (hx : numI K1 N1 T1 = (X, E1)) (hy : numI K2 N2 T2 = (Y, E2)) (he1 : K1 ≠ 4 → E1 = 0 ∨ E1 = 3) (he2 : K2 ≠ 4 → E2 = 0 ∨ E2 = 3) (hR : R1 ≠ -9223372036854775808)
    (hg : E1 = 0 → E2 = 0 → ∀ w, Calls Tryz.prog 53 #[.int .u8 43, .int .i64 X, .int .i64 Y] w fun e w' => e = .returned (.tuple #[.int .i64 R1, .int .i64 R2]) ∧ Below w.heap.size w w') (w : World) (D : Int × Int × ByteArray)
    (hD : pick3 K1 N1 T1 K2 N2 T2 ((calcD E1 E2 R1 R2).1, (calcD E1 E2 R1 R2).2, ⟨#[]⟩) = D) :
    Calls Tryz.prog 24 #[.string ⟨#[43]⟩, .agg #[.int .i64 k1, .int .i64 n1, .string t1], .agg #[.int .i64 k2, .int .i64 n2, .string t2]] w fun e w' => e = .returned (.agg #[.int .i64 D.1, .int .i64 D.2.1, .string D.2.2]) ∧ Below w.heap.size w w' := by
  have n10 := fun w => rNumber_cn K1 N1 T1 K1 N1 T1 (cn_self h1) w
  have n20 := fun w => rNumber_cn K2 N2 T2 K2 N2 T2 (cn_self h2) w
  simp only [hx] at n10
  simp only [hy] at n20
  have cx1 := hidv n10
  have cx2 := hidv n20
  have co := hidv (fun w => rOrder_cn K1 N1 T1 K2 N2 T2 K1 N1 T1 K2 N2 T2 (cn_self h1) (cn_self h2) w)
  generalize ordI K1 N1 T1 K2 N2 T2 = R at co
  have cp := hidv (fun w => compared_none ⟨#[43]⟩ R w (noCmp_lit 43 (by decide)))
  have cf := hidv fault_any
  have cm := hidv numbered_any
  have HG := hidv hg
  have HR := hidv hR
  have HE1 := hidv he1
  have HE2 := hidv he2
  clear n10 n20 hx hy hg hR he1 he2
  have HD := hidv hD
  clear hD
  have cc := hidv as_cn
  have H1 := hidv h1
  have H2 := hidv h2
  clear h1 h2
  have HX := hidv (triB_new w 25 (.int .i64 k1) (.int .i64 n1) (.string t1) (.int .i64 k2) (.int .i64 n2) (.string t2) (.int .i64 0) (.int .i64 0) (.string ⟨#[]⟩) (((w.alloc (.cells #[.int .i64 k1, .int .i64 n1, .string t1] 25)).alloc (.cells #[.int .i64 k2, .int .i64 n2, .string t2] 25)).alloc (.cells #[.int .i64 0, .int .i64 0, .string ⟨#[]⟩] 25)) rfl (by go_grown))
  go_enter Tryz.func24, Tryz.ntmps24
  go_wp2_with fail
  refine (cc.out _ _ _ _ _ _ (by exact H1.out) _).mono ?_
  rintro e w1 ⟨rfl, hb1⟩
  have HT1 := hidv (HX.out.step hb1)
  obtain ⟨⟨c0, c1, c2⟩, ⟨c3, c4, c5⟩, ⟨c6, c7, c8⟩, c9, cx, cy⟩ := HT1.out.cells
  obtain ⟨⟨cu0, cu1, cu2⟩, cu3, cu4, cu5⟩ := HT1.out.free
  clear hb1
  have HT3 := hidv (HT1.out.seta (.int .i64 K1) (.int .i64 N1) (.string T1))
  obtain ⟨⟨g0, g1, g2⟩, ⟨g3, g4, g5⟩, ⟨g6, g7, g8⟩, g9, gx, gy⟩ := HT3.out.cells
  go_wp2_with fail
  refine (cc.out _ _ _ _ _ _ (by exact H2.out) _).mono ?_
  rintro e w2 ⟨rfl, hb2⟩
  have HT2 := hidv (HT3.out.step hb2)
  obtain ⟨⟨d0, d1, d2⟩, ⟨d3, d4, d5⟩, ⟨d6, d7, d8⟩, d9, dx, dy⟩ := HT2.out.cells
  obtain ⟨⟨du0, du1, du2⟩, du3, du4, du5⟩ := HT2.out.free
  clear hb2
  have hcut := hidv (HT2.out.setb (.int .i64 K2) (.int .i64 N2) (.string T2))
  clear HT1 HT2 HT3 HX c0 c1 c2 c3 c4 c5 c6 c7 c8 c9 cx cy cu0 cu1 cu2 cu3 cu4 cu5 g0 g1 g2 g3 g4 g5 g6 g7 g8 g9 gx gy
  go_upto_region 3 with fail
  clear d0 d1 d2 d3 d4 d5 d6 d7 d8 d9 dx dy du0 du1 du2 du3 du4 du5
  generalize (((w2.setCell ⟨w.heap.size + 1, 0, none⟩ (.int .i64 K2)).setCell ⟨w.heap.size + 1, 1, none⟩ (.int .i64 N2)).setCell ⟨w.heap.size + 1, 2, none⟩ (.string T2)) = wc at hcut ⊢
  have HC := hcut
  clear hcut cc H1 H2
  obtain ⟨⟨p0, p1, p2⟩, ⟨p3, p4, p5⟩, ⟨p6, p7, p8⟩, p9, px, py⟩ := HC.out.cells
  obtain ⟨s0, s1, s2⟩ := HC.out.sets
  by_cases g1 : K1 = 4
  · subst g1
    have VD : Hid (D = (4, N1, T1)) := by show _ = _; rw [← HD.out]; simp [pick3]
    clear cx1 cx2 co cp cf cm HG HR HE1 HE2
    go_wp2_with fail
    refine bodyPost_ret (v := .agg #[.int .i64 4, .int .i64 N1, .string T1]) (by simp [results, Tryz.results24, go_sem, *]) rfl ?_
    exact ⟨by rw [VD.out], HC.out.out _ _ _⟩
  have q1 : (K1 == 4) = false := by simpa using g1
  by_cases g2 : K2 = 4
  · subst g2
    have VD : Hid (D = (4, N2, T2)) := by show _ = _; rw [← HD.out]; simp [pick3, g1]
    clear g1
    clear cx1 cx2 co cp cf cm HG HR HE1 HE2
    go_wp2_with fail
    refine bodyPost_ret (v := .agg #[.int .i64 4, .int .i64 N2, .string T2]) (by simp [results, Tryz.results24, go_sem, *]) rfl ?_
    exact ⟨by rw [VD.out], HC.out.out _ _ _⟩
  have q2 : (K2 == 4) = false := by simpa using g2
  have VD : Hid (D = ((calcD E1 E2 R1 R2).1, (calcD E1 E2 R1 R2).2, ⟨#[]⟩)) := by show _ = _; rw [← HD.out]; simp [pick3, g1, g2]
  have e1 := hidv (HE1.out g1)
  have e2 := hidv (HE2.out g2)
  clear g1 g2 HE1 HE2 HD s0 s1 s2
  go_wp2_with fail
  refine (co.out _).mono ?_
  rintro e w3 ⟨rfl, hb⟩
  have HC3 := hidv (HC.out.step hb)
  clear hb
  clear p0 p1 p2 p3 p4 p5 p6 p7 p8 p9 px py
  obtain ⟨⟨p0, p1, p2⟩, ⟨p3, p4, p5⟩, ⟨p6, p7, p8⟩, p9, px, py⟩ := HC3.out.cells
  go_wp2_with fail
  refine (cp.out _).mono ?_
  rintro e w4 ⟨rfl, rfl⟩
  go_wp2_with fail
  refine (cx1.out _).mono ?_
  rintro e w5 ⟨rfl, hb⟩
  have HC5 := hidv (HC3.out.step hb)
  clear hb
  clear p0 p1 p2 p3 p4 p5 p6 p7 p8 p9 px py
  obtain ⟨⟨p0, p1, p2⟩, ⟨p3, p4, p5⟩, ⟨p6, p7, p8⟩, p9, px, py⟩ := HC5.out.cells
  go_wp2_with fail
  refine (cx2.out _).mono ?_
  rintro e w6 ⟨rfl, hb⟩
  have HC6 := hidv (HC5.out.step hb)
  clear hb
  clear p0 p1 p2 p3 p4 p5 p6 p7 p8 p9 px py
  obtain ⟨⟨p0, p1, p2⟩, ⟨p3, p4, p5⟩, ⟨p6, p7, p8⟩, p9, px, py⟩ := HC6.out.cells
  rcases e1.out with rfl | rfl
  rotate_left
  · have VE : Hid (D = (4, 3, ⟨#[]⟩)) := by show _ = _; rw [VD.out]; simp [calcD, clampE]
    go_wp2_with fail
    refine (cf.out _ _).mono ?_
    rintro e w7 ⟨rfl, hb⟩
    have HC7 := hidv (HC6.out.step hb)
    clear hb
    clear p0 p1 p2 p3 p4 p5 p6 p7 p8 p9 px py
    obtain ⟨⟨p0, p1, p2⟩, ⟨p3, p4, p5⟩, ⟨p6, p7, p8⟩, p9, px, py⟩ := HC7.out.cells
    obtain ⟨s0, s1, s2⟩ := HC7.out.sets
    go_wp2_with fail
    refine bodyPost_ret (v := .agg #[.int .i64 4, .int .i64 3, .string ⟨#[]⟩]) (by simp [results, Tryz.results24, go_sem, *]) rfl ?_
    exact ⟨by rw [VE.out], HC7.out.out _ _ _⟩
  rcases e2.out with rfl | rfl
  rotate_left
  · have VE : Hid (D = (4, 3, ⟨#[]⟩)) := by show _ = _; rw [VD.out]; simp [calcD, clampE]
    go_wp2_with fail
    refine (cf.out _ _).mono ?_
    rintro e w7 ⟨rfl, hb⟩
    have HC7 := hidv (HC6.out.step hb)
    clear hb
    clear p0 p1 p2 p3 p4 p5 p6 p7 p8 p9 px py
    obtain ⟨⟨p0, p1, p2⟩, ⟨p3, p4, p5⟩, ⟨p6, p7, p8⟩, p9, px, py⟩ := HC7.out.cells
    obtain ⟨s0, s1, s2⟩ := HC7.out.sets
    go_wp2_with fail
    refine bodyPost_ret (v := .agg #[.int .i64 4, .int .i64 3, .string ⟨#[]⟩]) (by simp [results, Tryz.results24, go_sem, *]) rfl ?_
    exact ⟨by rw [VE.out], HC7.out.out _ _ _⟩
  have cg := hidv (HG.out (by first | rfl | trivial) (by first | rfl | trivial))
  have VE : Hid (D = ((nmb R1 R2).1, (nmb R1 R2).2, ⟨#[]⟩)) := by show _ = _; rw [VD.out, nmb_calc R1 R2 HR.out]
  have cm2 := hidv (fun w => cm.out R1 R2 w)
  generalize nmb R1 R2 = S at cm2 VE
  obtain ⟨S1, S2⟩ := S
  go_wp2_with fail
  refine (cg.out _).mono ?_
  rintro e w7 ⟨rfl, hb⟩
  have HC7 := hidv (HC6.out.step hb)
  clear hb
  clear p0 p1 p2 p3 p4 p5 p6 p7 p8 p9 px py
  obtain ⟨⟨p0, p1, p2⟩, ⟨p3, p4, p5⟩, ⟨p6, p7, p8⟩, p9, px, py⟩ := HC7.out.cells
  go_wp2_with fail
  refine (cm2.out _).mono ?_
  rintro e w8 ⟨rfl, hb⟩
  have HC8 := hidv (HC7.out.step hb)
  clear hb
  clear p0 p1 p2 p3 p4 p5 p6 p7 p8 p9 px py
  obtain ⟨⟨p0, p1, p2⟩, ⟨p3, p4, p5⟩, ⟨p6, p7, p8⟩, p9, px, py⟩ := HC8.out.cells
  obtain ⟨s0, s1, s2⟩ := HC8.out.sets
  go_wp2_with fail
  refine bodyPost_ret (v := .agg #[.int .i64 S1, .int .i64 S2, .string ⟨#[]⟩]) (by simp [results, Tryz.results24, go_sem, *]) rfl ?_
  exact ⟨by rw [VE.out], HC8.out.out _ _ _⟩

set_option maxHeartbeats 8000000 in
set_option maxRecDepth 100000 in
theorem rwork_Sub (k1 n1 : Int) (t1 : ByteArray) (k2 n2 : Int) (t2 : ByteArray) (K1 N1 : Int) (T1 : ByteArray) (K2 N2 : Int) (T2 : ByteArray) (h1 : Cn k1 n1 t1 K1 N1 T1) (h2 : Cn k2 n2 t2 K2 N2 T2) (X E1 Y E2 R1 R2 : Int) (hx : numI K1 N1 T1 = (X, E1)) (hy : numI K2 N2 T2 = (Y, E2)) (he1 : K1 ≠ 4 → E1 = 0 ∨ E1 = 3) (he2 : K2 ≠ 4 → E2 = 0 ∨ E2 = 3) (hR : R1 ≠ -9223372036854775808)
    (hg : E1 = 0 → E2 = 0 → ∀ w, Calls Tryz.prog 53 #[.int .u8 45, .int .i64 X, .int .i64 Y] w fun e w' => e = .returned (.tuple #[.int .i64 R1, .int .i64 R2]) ∧ Below w.heap.size w w') (w : World) (D : Int × Int × ByteArray)
    (hD : pick3 K1 N1 T1 K2 N2 T2 ((calcD E1 E2 R1 R2).1, (calcD E1 E2 R1 R2).2, ⟨#[]⟩) = D) :
    Calls Tryz.prog 24 #[.string ⟨#[45]⟩, .agg #[.int .i64 k1, .int .i64 n1, .string t1], .agg #[.int .i64 k2, .int .i64 n2, .string t2]] w fun e w' => e = .returned (.agg #[.int .i64 D.1, .int .i64 D.2.1, .string D.2.2]) ∧ Below w.heap.size w w' := by
  have n10 := fun w => rNumber_cn K1 N1 T1 K1 N1 T1 (cn_self h1) w
  have n20 := fun w => rNumber_cn K2 N2 T2 K2 N2 T2 (cn_self h2) w
  simp only [hx] at n10
  simp only [hy] at n20
  have cx1 := hidv n10
  have cx2 := hidv n20
  have co := hidv (fun w => rOrder_cn K1 N1 T1 K2 N2 T2 K1 N1 T1 K2 N2 T2 (cn_self h1) (cn_self h2) w)
  generalize ordI K1 N1 T1 K2 N2 T2 = R at co
  have cp := hidv (fun w => compared_none ⟨#[45]⟩ R w (noCmp_lit 45 (by decide)))
  have cf := hidv fault_any
  have cm := hidv numbered_any
  have HG := hidv hg
  have HR := hidv hR
  have HE1 := hidv he1
  have HE2 := hidv he2
  clear n10 n20 hx hy hg hR he1 he2
  have HD := hidv hD
  clear hD
  have cc := hidv as_cn
  have H1 := hidv h1
  have H2 := hidv h2
  clear h1 h2
  have HX := hidv (triB_new w 25 (.int .i64 k1) (.int .i64 n1) (.string t1) (.int .i64 k2) (.int .i64 n2) (.string t2) (.int .i64 0) (.int .i64 0) (.string ⟨#[]⟩) (((w.alloc (.cells #[.int .i64 k1, .int .i64 n1, .string t1] 25)).alloc (.cells #[.int .i64 k2, .int .i64 n2, .string t2] 25)).alloc (.cells #[.int .i64 0, .int .i64 0, .string ⟨#[]⟩] 25)) rfl (by go_grown))
  go_enter Tryz.func24, Tryz.ntmps24
  go_wp2_with fail
  refine (cc.out _ _ _ _ _ _ (by exact H1.out) _).mono ?_
  rintro e w1 ⟨rfl, hb1⟩
  have HT1 := hidv (HX.out.step hb1)
  obtain ⟨⟨c0, c1, c2⟩, ⟨c3, c4, c5⟩, ⟨c6, c7, c8⟩, c9, cx, cy⟩ := HT1.out.cells
  obtain ⟨⟨cu0, cu1, cu2⟩, cu3, cu4, cu5⟩ := HT1.out.free
  clear hb1
  have HT3 := hidv (HT1.out.seta (.int .i64 K1) (.int .i64 N1) (.string T1))
  obtain ⟨⟨g0, g1, g2⟩, ⟨g3, g4, g5⟩, ⟨g6, g7, g8⟩, g9, gx, gy⟩ := HT3.out.cells
  go_wp2_with fail
  refine (cc.out _ _ _ _ _ _ (by exact H2.out) _).mono ?_
  rintro e w2 ⟨rfl, hb2⟩
  have HT2 := hidv (HT3.out.step hb2)
  obtain ⟨⟨d0, d1, d2⟩, ⟨d3, d4, d5⟩, ⟨d6, d7, d8⟩, d9, dx, dy⟩ := HT2.out.cells
  obtain ⟨⟨du0, du1, du2⟩, du3, du4, du5⟩ := HT2.out.free
  clear hb2
  have hcut := hidv (HT2.out.setb (.int .i64 K2) (.int .i64 N2) (.string T2))
  clear HT1 HT2 HT3 HX c0 c1 c2 c3 c4 c5 c6 c7 c8 c9 cx cy cu0 cu1 cu2 cu3 cu4 cu5 g0 g1 g2 g3 g4 g5 g6 g7 g8 g9 gx gy
  go_upto_region 3 with fail
  clear d0 d1 d2 d3 d4 d5 d6 d7 d8 d9 dx dy du0 du1 du2 du3 du4 du5
  generalize (((w2.setCell ⟨w.heap.size + 1, 0, none⟩ (.int .i64 K2)).setCell ⟨w.heap.size + 1, 1, none⟩ (.int .i64 N2)).setCell ⟨w.heap.size + 1, 2, none⟩ (.string T2)) = wc at hcut ⊢
  have HC := hcut
  clear hcut cc H1 H2
  obtain ⟨⟨p0, p1, p2⟩, ⟨p3, p4, p5⟩, ⟨p6, p7, p8⟩, p9, px, py⟩ := HC.out.cells
  obtain ⟨s0, s1, s2⟩ := HC.out.sets
  by_cases g1 : K1 = 4
  · subst g1
    have VD : Hid (D = (4, N1, T1)) := by show _ = _; rw [← HD.out]; simp [pick3]
    clear cx1 cx2 co cp cf cm HG HR HE1 HE2
    go_wp2_with fail
    refine bodyPost_ret (v := .agg #[.int .i64 4, .int .i64 N1, .string T1]) (by simp [results, Tryz.results24, go_sem, *]) rfl ?_
    exact ⟨by rw [VD.out], HC.out.out _ _ _⟩
  have q1 : (K1 == 4) = false := by simpa using g1
  by_cases g2 : K2 = 4
  · subst g2
    have VD : Hid (D = (4, N2, T2)) := by show _ = _; rw [← HD.out]; simp [pick3, g1]
    clear g1
    clear cx1 cx2 co cp cf cm HG HR HE1 HE2
    go_wp2_with fail
    refine bodyPost_ret (v := .agg #[.int .i64 4, .int .i64 N2, .string T2]) (by simp [results, Tryz.results24, go_sem, *]) rfl ?_
    exact ⟨by rw [VD.out], HC.out.out _ _ _⟩
  have q2 : (K2 == 4) = false := by simpa using g2
  have VD : Hid (D = ((calcD E1 E2 R1 R2).1, (calcD E1 E2 R1 R2).2, ⟨#[]⟩)) := by show _ = _; rw [← HD.out]; simp [pick3, g1, g2]
  have e1 := hidv (HE1.out g1)
  have e2 := hidv (HE2.out g2)
  clear g1 g2 HE1 HE2 HD s0 s1 s2
  go_wp2_with fail
  refine (co.out _).mono ?_
  rintro e w3 ⟨rfl, hb⟩
  have HC3 := hidv (HC.out.step hb)
  clear hb
  clear p0 p1 p2 p3 p4 p5 p6 p7 p8 p9 px py
  obtain ⟨⟨p0, p1, p2⟩, ⟨p3, p4, p5⟩, ⟨p6, p7, p8⟩, p9, px, py⟩ := HC3.out.cells
  go_wp2_with fail
  refine (cp.out _).mono ?_
  rintro e w4 ⟨rfl, rfl⟩
  go_wp2_with fail
  refine (cx1.out _).mono ?_
  rintro e w5 ⟨rfl, hb⟩
  have HC5 := hidv (HC3.out.step hb)
  clear hb
  clear p0 p1 p2 p3 p4 p5 p6 p7 p8 p9 px py
  obtain ⟨⟨p0, p1, p2⟩, ⟨p3, p4, p5⟩, ⟨p6, p7, p8⟩, p9, px, py⟩ := HC5.out.cells
  go_wp2_with fail
  refine (cx2.out _).mono ?_
  rintro e w6 ⟨rfl, hb⟩
  have HC6 := hidv (HC5.out.step hb)
  clear hb
  clear p0 p1 p2 p3 p4 p5 p6 p7 p8 p9 px py
  obtain ⟨⟨p0, p1, p2⟩, ⟨p3, p4, p5⟩, ⟨p6, p7, p8⟩, p9, px, py⟩ := HC6.out.cells
  rcases e1.out with rfl | rfl
  rotate_left
  · have VE : Hid (D = (4, 3, ⟨#[]⟩)) := by show _ = _; rw [VD.out]; simp [calcD, clampE]
    go_wp2_with fail
    refine (cf.out _ _).mono ?_
    rintro e w7 ⟨rfl, hb⟩
    have HC7 := hidv (HC6.out.step hb)
    clear hb
    clear p0 p1 p2 p3 p4 p5 p6 p7 p8 p9 px py
    obtain ⟨⟨p0, p1, p2⟩, ⟨p3, p4, p5⟩, ⟨p6, p7, p8⟩, p9, px, py⟩ := HC7.out.cells
    obtain ⟨s0, s1, s2⟩ := HC7.out.sets
    go_wp2_with fail
    refine bodyPost_ret (v := .agg #[.int .i64 4, .int .i64 3, .string ⟨#[]⟩]) (by simp [results, Tryz.results24, go_sem, *]) rfl ?_
    exact ⟨by rw [VE.out], HC7.out.out _ _ _⟩
  rcases e2.out with rfl | rfl
  rotate_left
  · have VE : Hid (D = (4, 3, ⟨#[]⟩)) := by show _ = _; rw [VD.out]; simp [calcD, clampE]
    go_wp2_with fail
    refine (cf.out _ _).mono ?_
    rintro e w7 ⟨rfl, hb⟩
    have HC7 := hidv (HC6.out.step hb)
    clear hb
    clear p0 p1 p2 p3 p4 p5 p6 p7 p8 p9 px py
    obtain ⟨⟨p0, p1, p2⟩, ⟨p3, p4, p5⟩, ⟨p6, p7, p8⟩, p9, px, py⟩ := HC7.out.cells
    obtain ⟨s0, s1, s2⟩ := HC7.out.sets
    go_wp2_with fail
    refine bodyPost_ret (v := .agg #[.int .i64 4, .int .i64 3, .string ⟨#[]⟩]) (by simp [results, Tryz.results24, go_sem, *]) rfl ?_
    exact ⟨by rw [VE.out], HC7.out.out _ _ _⟩
  have cg := hidv (HG.out (by first | rfl | trivial) (by first | rfl | trivial))
  have VE : Hid (D = ((nmb R1 R2).1, (nmb R1 R2).2, ⟨#[]⟩)) := by show _ = _; rw [VD.out, nmb_calc R1 R2 HR.out]
  have cm2 := hidv (fun w => cm.out R1 R2 w)
  generalize nmb R1 R2 = S at cm2 VE
  obtain ⟨S1, S2⟩ := S
  go_wp2_with fail
  refine (cg.out _).mono ?_
  rintro e w7 ⟨rfl, hb⟩
  have HC7 := hidv (HC6.out.step hb)
  clear hb
  clear p0 p1 p2 p3 p4 p5 p6 p7 p8 p9 px py
  obtain ⟨⟨p0, p1, p2⟩, ⟨p3, p4, p5⟩, ⟨p6, p7, p8⟩, p9, px, py⟩ := HC7.out.cells
  go_wp2_with fail
  refine (cm2.out _).mono ?_
  rintro e w8 ⟨rfl, hb⟩
  have HC8 := hidv (HC7.out.step hb)
  clear hb
  clear p0 p1 p2 p3 p4 p5 p6 p7 p8 p9 px py
  obtain ⟨⟨p0, p1, p2⟩, ⟨p3, p4, p5⟩, ⟨p6, p7, p8⟩, p9, px, py⟩ := HC8.out.cells
  obtain ⟨s0, s1, s2⟩ := HC8.out.sets
  go_wp2_with fail
  refine bodyPost_ret (v := .agg #[.int .i64 S1, .int .i64 S2, .string ⟨#[]⟩]) (by simp [results, Tryz.results24, go_sem, *]) rfl ?_
  exact ⟨by rw [VE.out], HC8.out.out _ _ _⟩

set_option maxHeartbeats 8000000 in
set_option maxRecDepth 100000 in
theorem rwork_Mul (k1 n1 : Int) (t1 : ByteArray) (k2 n2 : Int) (t2 : ByteArray) (K1 N1 : Int) (T1 : ByteArray) (K2 N2 : Int) (T2 : ByteArray) (h1 : Cn k1 n1 t1 K1 N1 T1) (h2 : Cn k2 n2 t2 K2 N2 T2) (X E1 Y E2 R1 R2 : Int) (hx : numI K1 N1 T1 = (X, E1)) (hy : numI K2 N2 T2 = (Y, E2)) (he1 : K1 ≠ 4 → E1 = 0 ∨ E1 = 3) (he2 : K2 ≠ 4 → E2 = 0 ∨ E2 = 3) (hR : R1 ≠ -9223372036854775808)
    (hg : E1 = 0 → E2 = 0 → ∀ w, Calls Tryz.prog 53 #[.int .u8 42, .int .i64 X, .int .i64 Y] w fun e w' => e = .returned (.tuple #[.int .i64 R1, .int .i64 R2]) ∧ Below w.heap.size w w') (w : World) (D : Int × Int × ByteArray)
    (hD : pick3 K1 N1 T1 K2 N2 T2 ((calcD E1 E2 R1 R2).1, (calcD E1 E2 R1 R2).2, ⟨#[]⟩) = D) :
    Calls Tryz.prog 24 #[.string ⟨#[42]⟩, .agg #[.int .i64 k1, .int .i64 n1, .string t1], .agg #[.int .i64 k2, .int .i64 n2, .string t2]] w fun e w' => e = .returned (.agg #[.int .i64 D.1, .int .i64 D.2.1, .string D.2.2]) ∧ Below w.heap.size w w' := by
  have n10 := fun w => rNumber_cn K1 N1 T1 K1 N1 T1 (cn_self h1) w
  have n20 := fun w => rNumber_cn K2 N2 T2 K2 N2 T2 (cn_self h2) w
  simp only [hx] at n10
  simp only [hy] at n20
  have cx1 := hidv n10
  have cx2 := hidv n20
  have co := hidv (fun w => rOrder_cn K1 N1 T1 K2 N2 T2 K1 N1 T1 K2 N2 T2 (cn_self h1) (cn_self h2) w)
  generalize ordI K1 N1 T1 K2 N2 T2 = R at co
  have cp := hidv (fun w => compared_none ⟨#[42]⟩ R w (noCmp_lit 42 (by decide)))
  have cf := hidv fault_any
  have cm := hidv numbered_any
  have HG := hidv hg
  have HR := hidv hR
  have HE1 := hidv he1
  have HE2 := hidv he2
  clear n10 n20 hx hy hg hR he1 he2
  have HD := hidv hD
  clear hD
  have cc := hidv as_cn
  have H1 := hidv h1
  have H2 := hidv h2
  clear h1 h2
  have HX := hidv (triB_new w 25 (.int .i64 k1) (.int .i64 n1) (.string t1) (.int .i64 k2) (.int .i64 n2) (.string t2) (.int .i64 0) (.int .i64 0) (.string ⟨#[]⟩) (((w.alloc (.cells #[.int .i64 k1, .int .i64 n1, .string t1] 25)).alloc (.cells #[.int .i64 k2, .int .i64 n2, .string t2] 25)).alloc (.cells #[.int .i64 0, .int .i64 0, .string ⟨#[]⟩] 25)) rfl (by go_grown))
  go_enter Tryz.func24, Tryz.ntmps24
  go_wp2_with fail
  refine (cc.out _ _ _ _ _ _ (by exact H1.out) _).mono ?_
  rintro e w1 ⟨rfl, hb1⟩
  have HT1 := hidv (HX.out.step hb1)
  obtain ⟨⟨c0, c1, c2⟩, ⟨c3, c4, c5⟩, ⟨c6, c7, c8⟩, c9, cx, cy⟩ := HT1.out.cells
  obtain ⟨⟨cu0, cu1, cu2⟩, cu3, cu4, cu5⟩ := HT1.out.free
  clear hb1
  have HT3 := hidv (HT1.out.seta (.int .i64 K1) (.int .i64 N1) (.string T1))
  obtain ⟨⟨g0, g1, g2⟩, ⟨g3, g4, g5⟩, ⟨g6, g7, g8⟩, g9, gx, gy⟩ := HT3.out.cells
  go_wp2_with fail
  refine (cc.out _ _ _ _ _ _ (by exact H2.out) _).mono ?_
  rintro e w2 ⟨rfl, hb2⟩
  have HT2 := hidv (HT3.out.step hb2)
  obtain ⟨⟨d0, d1, d2⟩, ⟨d3, d4, d5⟩, ⟨d6, d7, d8⟩, d9, dx, dy⟩ := HT2.out.cells
  obtain ⟨⟨du0, du1, du2⟩, du3, du4, du5⟩ := HT2.out.free
  clear hb2
  have hcut := hidv (HT2.out.setb (.int .i64 K2) (.int .i64 N2) (.string T2))
  clear HT1 HT2 HT3 HX c0 c1 c2 c3 c4 c5 c6 c7 c8 c9 cx cy cu0 cu1 cu2 cu3 cu4 cu5 g0 g1 g2 g3 g4 g5 g6 g7 g8 g9 gx gy
  go_upto_region 3 with fail
  clear d0 d1 d2 d3 d4 d5 d6 d7 d8 d9 dx dy du0 du1 du2 du3 du4 du5
  generalize (((w2.setCell ⟨w.heap.size + 1, 0, none⟩ (.int .i64 K2)).setCell ⟨w.heap.size + 1, 1, none⟩ (.int .i64 N2)).setCell ⟨w.heap.size + 1, 2, none⟩ (.string T2)) = wc at hcut ⊢
  have HC := hcut
  clear hcut cc H1 H2
  obtain ⟨⟨p0, p1, p2⟩, ⟨p3, p4, p5⟩, ⟨p6, p7, p8⟩, p9, px, py⟩ := HC.out.cells
  obtain ⟨s0, s1, s2⟩ := HC.out.sets
  by_cases g1 : K1 = 4
  · subst g1
    have VD : Hid (D = (4, N1, T1)) := by show _ = _; rw [← HD.out]; simp [pick3]
    clear cx1 cx2 co cp cf cm HG HR HE1 HE2
    go_wp2_with fail
    refine bodyPost_ret (v := .agg #[.int .i64 4, .int .i64 N1, .string T1]) (by simp [results, Tryz.results24, go_sem, *]) rfl ?_
    exact ⟨by rw [VD.out], HC.out.out _ _ _⟩
  have q1 : (K1 == 4) = false := by simpa using g1
  by_cases g2 : K2 = 4
  · subst g2
    have VD : Hid (D = (4, N2, T2)) := by show _ = _; rw [← HD.out]; simp [pick3, g1]
    clear g1
    clear cx1 cx2 co cp cf cm HG HR HE1 HE2
    go_wp2_with fail
    refine bodyPost_ret (v := .agg #[.int .i64 4, .int .i64 N2, .string T2]) (by simp [results, Tryz.results24, go_sem, *]) rfl ?_
    exact ⟨by rw [VD.out], HC.out.out _ _ _⟩
  have q2 : (K2 == 4) = false := by simpa using g2
  have VD : Hid (D = ((calcD E1 E2 R1 R2).1, (calcD E1 E2 R1 R2).2, ⟨#[]⟩)) := by show _ = _; rw [← HD.out]; simp [pick3, g1, g2]
  have e1 := hidv (HE1.out g1)
  have e2 := hidv (HE2.out g2)
  clear g1 g2 HE1 HE2 HD s0 s1 s2
  go_wp2_with fail
  refine (co.out _).mono ?_
  rintro e w3 ⟨rfl, hb⟩
  have HC3 := hidv (HC.out.step hb)
  clear hb
  clear p0 p1 p2 p3 p4 p5 p6 p7 p8 p9 px py
  obtain ⟨⟨p0, p1, p2⟩, ⟨p3, p4, p5⟩, ⟨p6, p7, p8⟩, p9, px, py⟩ := HC3.out.cells
  go_wp2_with fail
  refine (cp.out _).mono ?_
  rintro e w4 ⟨rfl, rfl⟩
  go_wp2_with fail
  refine (cx1.out _).mono ?_
  rintro e w5 ⟨rfl, hb⟩
  have HC5 := hidv (HC3.out.step hb)
  clear hb
  clear p0 p1 p2 p3 p4 p5 p6 p7 p8 p9 px py
  obtain ⟨⟨p0, p1, p2⟩, ⟨p3, p4, p5⟩, ⟨p6, p7, p8⟩, p9, px, py⟩ := HC5.out.cells
  go_wp2_with fail
  refine (cx2.out _).mono ?_
  rintro e w6 ⟨rfl, hb⟩
  have HC6 := hidv (HC5.out.step hb)
  clear hb
  clear p0 p1 p2 p3 p4 p5 p6 p7 p8 p9 px py
  obtain ⟨⟨p0, p1, p2⟩, ⟨p3, p4, p5⟩, ⟨p6, p7, p8⟩, p9, px, py⟩ := HC6.out.cells
  rcases e1.out with rfl | rfl
  rotate_left
  · have VE : Hid (D = (4, 3, ⟨#[]⟩)) := by show _ = _; rw [VD.out]; simp [calcD, clampE]
    go_wp2_with fail
    refine (cf.out _ _).mono ?_
    rintro e w7 ⟨rfl, hb⟩
    have HC7 := hidv (HC6.out.step hb)
    clear hb
    clear p0 p1 p2 p3 p4 p5 p6 p7 p8 p9 px py
    obtain ⟨⟨p0, p1, p2⟩, ⟨p3, p4, p5⟩, ⟨p6, p7, p8⟩, p9, px, py⟩ := HC7.out.cells
    obtain ⟨s0, s1, s2⟩ := HC7.out.sets
    go_wp2_with fail
    refine bodyPost_ret (v := .agg #[.int .i64 4, .int .i64 3, .string ⟨#[]⟩]) (by simp [results, Tryz.results24, go_sem, *]) rfl ?_
    exact ⟨by rw [VE.out], HC7.out.out _ _ _⟩
  rcases e2.out with rfl | rfl
  rotate_left
  · have VE : Hid (D = (4, 3, ⟨#[]⟩)) := by show _ = _; rw [VD.out]; simp [calcD, clampE]
    go_wp2_with fail
    refine (cf.out _ _).mono ?_
    rintro e w7 ⟨rfl, hb⟩
    have HC7 := hidv (HC6.out.step hb)
    clear hb
    clear p0 p1 p2 p3 p4 p5 p6 p7 p8 p9 px py
    obtain ⟨⟨p0, p1, p2⟩, ⟨p3, p4, p5⟩, ⟨p6, p7, p8⟩, p9, px, py⟩ := HC7.out.cells
    obtain ⟨s0, s1, s2⟩ := HC7.out.sets
    go_wp2_with fail
    refine bodyPost_ret (v := .agg #[.int .i64 4, .int .i64 3, .string ⟨#[]⟩]) (by simp [results, Tryz.results24, go_sem, *]) rfl ?_
    exact ⟨by rw [VE.out], HC7.out.out _ _ _⟩
  have cg := hidv (HG.out (by first | rfl | trivial) (by first | rfl | trivial))
  have VE : Hid (D = ((nmb R1 R2).1, (nmb R1 R2).2, ⟨#[]⟩)) := by show _ = _; rw [VD.out, nmb_calc R1 R2 HR.out]
  have cm2 := hidv (fun w => cm.out R1 R2 w)
  generalize nmb R1 R2 = S at cm2 VE
  obtain ⟨S1, S2⟩ := S
  go_wp2_with fail
  refine (cg.out _).mono ?_
  rintro e w7 ⟨rfl, hb⟩
  have HC7 := hidv (HC6.out.step hb)
  clear hb
  clear p0 p1 p2 p3 p4 p5 p6 p7 p8 p9 px py
  obtain ⟨⟨p0, p1, p2⟩, ⟨p3, p4, p5⟩, ⟨p6, p7, p8⟩, p9, px, py⟩ := HC7.out.cells
  go_wp2_with fail
  refine (cm2.out _).mono ?_
  rintro e w8 ⟨rfl, hb⟩
  have HC8 := hidv (HC7.out.step hb)
  clear hb
  clear p0 p1 p2 p3 p4 p5 p6 p7 p8 p9 px py
  obtain ⟨⟨p0, p1, p2⟩, ⟨p3, p4, p5⟩, ⟨p6, p7, p8⟩, p9, px, py⟩ := HC8.out.cells
  obtain ⟨s0, s1, s2⟩ := HC8.out.sets
  go_wp2_with fail
  refine bodyPost_ret (v := .agg #[.int .i64 S1, .int .i64 S2, .string ⟨#[]⟩]) (by simp [results, Tryz.results24, go_sem, *]) rfl ?_
  exact ⟨by rw [VE.out], HC8.out.out _ _ _⟩

set_option maxHeartbeats 8000000 in
set_option maxRecDepth 100000 in
theorem rwork_Div (k1 n1 : Int) (t1 : ByteArray) (k2 n2 : Int) (t2 : ByteArray) (K1 N1 : Int) (T1 : ByteArray) (K2 N2 : Int) (T2 : ByteArray) (h1 : Cn k1 n1 t1 K1 N1 T1) (h2 : Cn k2 n2 t2 K2 N2 T2) (X E1 Y E2 R1 R2 : Int) (hx : numI K1 N1 T1 = (X, E1)) (hy : numI K2 N2 T2 = (Y, E2)) (he1 : K1 ≠ 4 → E1 = 0 ∨ E1 = 3) (he2 : K2 ≠ 4 → E2 = 0 ∨ E2 = 3) (hR : R1 ≠ -9223372036854775808)
    (hg : E1 = 0 → E2 = 0 → ∀ w, Calls Tryz.prog 53 #[.int .u8 47, .int .i64 X, .int .i64 Y] w fun e w' => e = .returned (.tuple #[.int .i64 R1, .int .i64 R2]) ∧ Below w.heap.size w w') (w : World) (D : Int × Int × ByteArray)
    (hD : pick3 K1 N1 T1 K2 N2 T2 ((calcD E1 E2 R1 R2).1, (calcD E1 E2 R1 R2).2, ⟨#[]⟩) = D) :
    Calls Tryz.prog 24 #[.string ⟨#[47]⟩, .agg #[.int .i64 k1, .int .i64 n1, .string t1], .agg #[.int .i64 k2, .int .i64 n2, .string t2]] w fun e w' => e = .returned (.agg #[.int .i64 D.1, .int .i64 D.2.1, .string D.2.2]) ∧ Below w.heap.size w w' := by
  have n10 := fun w => rNumber_cn K1 N1 T1 K1 N1 T1 (cn_self h1) w
  have n20 := fun w => rNumber_cn K2 N2 T2 K2 N2 T2 (cn_self h2) w
  simp only [hx] at n10
  simp only [hy] at n20
  have cx1 := hidv n10
  have cx2 := hidv n20
  have co := hidv (fun w => rOrder_cn K1 N1 T1 K2 N2 T2 K1 N1 T1 K2 N2 T2 (cn_self h1) (cn_self h2) w)
  generalize ordI K1 N1 T1 K2 N2 T2 = R at co
  have cp := hidv (fun w => compared_none ⟨#[47]⟩ R w (noCmp_lit 47 (by decide)))
  have cf := hidv fault_any
  have cm := hidv numbered_any
  have HG := hidv hg
  have HR := hidv hR
  have HE1 := hidv he1
  have HE2 := hidv he2
  clear n10 n20 hx hy hg hR he1 he2
  have HD := hidv hD
  clear hD
  have cc := hidv as_cn
  have H1 := hidv h1
  have H2 := hidv h2
  clear h1 h2
  have HX := hidv (triB_new w 25 (.int .i64 k1) (.int .i64 n1) (.string t1) (.int .i64 k2) (.int .i64 n2) (.string t2) (.int .i64 0) (.int .i64 0) (.string ⟨#[]⟩) (((w.alloc (.cells #[.int .i64 k1, .int .i64 n1, .string t1] 25)).alloc (.cells #[.int .i64 k2, .int .i64 n2, .string t2] 25)).alloc (.cells #[.int .i64 0, .int .i64 0, .string ⟨#[]⟩] 25)) rfl (by go_grown))
  go_enter Tryz.func24, Tryz.ntmps24
  go_wp2_with fail
  refine (cc.out _ _ _ _ _ _ (by exact H1.out) _).mono ?_
  rintro e w1 ⟨rfl, hb1⟩
  have HT1 := hidv (HX.out.step hb1)
  obtain ⟨⟨c0, c1, c2⟩, ⟨c3, c4, c5⟩, ⟨c6, c7, c8⟩, c9, cx, cy⟩ := HT1.out.cells
  obtain ⟨⟨cu0, cu1, cu2⟩, cu3, cu4, cu5⟩ := HT1.out.free
  clear hb1
  have HT3 := hidv (HT1.out.seta (.int .i64 K1) (.int .i64 N1) (.string T1))
  obtain ⟨⟨g0, g1, g2⟩, ⟨g3, g4, g5⟩, ⟨g6, g7, g8⟩, g9, gx, gy⟩ := HT3.out.cells
  go_wp2_with fail
  refine (cc.out _ _ _ _ _ _ (by exact H2.out) _).mono ?_
  rintro e w2 ⟨rfl, hb2⟩
  have HT2 := hidv (HT3.out.step hb2)
  obtain ⟨⟨d0, d1, d2⟩, ⟨d3, d4, d5⟩, ⟨d6, d7, d8⟩, d9, dx, dy⟩ := HT2.out.cells
  obtain ⟨⟨du0, du1, du2⟩, du3, du4, du5⟩ := HT2.out.free
  clear hb2
  have hcut := hidv (HT2.out.setb (.int .i64 K2) (.int .i64 N2) (.string T2))
  clear HT1 HT2 HT3 HX c0 c1 c2 c3 c4 c5 c6 c7 c8 c9 cx cy cu0 cu1 cu2 cu3 cu4 cu5 g0 g1 g2 g3 g4 g5 g6 g7 g8 g9 gx gy
  go_upto_region 3 with fail
  clear d0 d1 d2 d3 d4 d5 d6 d7 d8 d9 dx dy du0 du1 du2 du3 du4 du5
  generalize (((w2.setCell ⟨w.heap.size + 1, 0, none⟩ (.int .i64 K2)).setCell ⟨w.heap.size + 1, 1, none⟩ (.int .i64 N2)).setCell ⟨w.heap.size + 1, 2, none⟩ (.string T2)) = wc at hcut ⊢
  have HC := hcut
  clear hcut cc H1 H2
  obtain ⟨⟨p0, p1, p2⟩, ⟨p3, p4, p5⟩, ⟨p6, p7, p8⟩, p9, px, py⟩ := HC.out.cells
  obtain ⟨s0, s1, s2⟩ := HC.out.sets
  by_cases g1 : K1 = 4
  · subst g1
    have VD : Hid (D = (4, N1, T1)) := by show _ = _; rw [← HD.out]; simp [pick3]
    clear cx1 cx2 co cp cf cm HG HR HE1 HE2
    go_wp2_with fail
    refine bodyPost_ret (v := .agg #[.int .i64 4, .int .i64 N1, .string T1]) (by simp [results, Tryz.results24, go_sem, *]) rfl ?_
    exact ⟨by rw [VD.out], HC.out.out _ _ _⟩
  have q1 : (K1 == 4) = false := by simpa using g1
  by_cases g2 : K2 = 4
  · subst g2
    have VD : Hid (D = (4, N2, T2)) := by show _ = _; rw [← HD.out]; simp [pick3, g1]
    clear g1
    clear cx1 cx2 co cp cf cm HG HR HE1 HE2
    go_wp2_with fail
    refine bodyPost_ret (v := .agg #[.int .i64 4, .int .i64 N2, .string T2]) (by simp [results, Tryz.results24, go_sem, *]) rfl ?_
    exact ⟨by rw [VD.out], HC.out.out _ _ _⟩
  have q2 : (K2 == 4) = false := by simpa using g2
  have VD : Hid (D = ((calcD E1 E2 R1 R2).1, (calcD E1 E2 R1 R2).2, ⟨#[]⟩)) := by show _ = _; rw [← HD.out]; simp [pick3, g1, g2]
  have e1 := hidv (HE1.out g1)
  have e2 := hidv (HE2.out g2)
  clear g1 g2 HE1 HE2 HD s0 s1 s2
  go_wp2_with fail
  refine (co.out _).mono ?_
  rintro e w3 ⟨rfl, hb⟩
  have HC3 := hidv (HC.out.step hb)
  clear hb
  clear p0 p1 p2 p3 p4 p5 p6 p7 p8 p9 px py
  obtain ⟨⟨p0, p1, p2⟩, ⟨p3, p4, p5⟩, ⟨p6, p7, p8⟩, p9, px, py⟩ := HC3.out.cells
  go_wp2_with fail
  refine (cp.out _).mono ?_
  rintro e w4 ⟨rfl, rfl⟩
  go_wp2_with fail
  refine (cx1.out _).mono ?_
  rintro e w5 ⟨rfl, hb⟩
  have HC5 := hidv (HC3.out.step hb)
  clear hb
  clear p0 p1 p2 p3 p4 p5 p6 p7 p8 p9 px py
  obtain ⟨⟨p0, p1, p2⟩, ⟨p3, p4, p5⟩, ⟨p6, p7, p8⟩, p9, px, py⟩ := HC5.out.cells
  go_wp2_with fail
  refine (cx2.out _).mono ?_
  rintro e w6 ⟨rfl, hb⟩
  have HC6 := hidv (HC5.out.step hb)
  clear hb
  clear p0 p1 p2 p3 p4 p5 p6 p7 p8 p9 px py
  obtain ⟨⟨p0, p1, p2⟩, ⟨p3, p4, p5⟩, ⟨p6, p7, p8⟩, p9, px, py⟩ := HC6.out.cells
  rcases e1.out with rfl | rfl
  rotate_left
  · have VE : Hid (D = (4, 3, ⟨#[]⟩)) := by show _ = _; rw [VD.out]; simp [calcD, clampE]
    go_wp2_with fail
    refine (cf.out _ _).mono ?_
    rintro e w7 ⟨rfl, hb⟩
    have HC7 := hidv (HC6.out.step hb)
    clear hb
    clear p0 p1 p2 p3 p4 p5 p6 p7 p8 p9 px py
    obtain ⟨⟨p0, p1, p2⟩, ⟨p3, p4, p5⟩, ⟨p6, p7, p8⟩, p9, px, py⟩ := HC7.out.cells
    obtain ⟨s0, s1, s2⟩ := HC7.out.sets
    go_wp2_with fail
    refine bodyPost_ret (v := .agg #[.int .i64 4, .int .i64 3, .string ⟨#[]⟩]) (by simp [results, Tryz.results24, go_sem, *]) rfl ?_
    exact ⟨by rw [VE.out], HC7.out.out _ _ _⟩
  rcases e2.out with rfl | rfl
  rotate_left
  · have VE : Hid (D = (4, 3, ⟨#[]⟩)) := by show _ = _; rw [VD.out]; simp [calcD, clampE]
    go_wp2_with fail
    refine (cf.out _ _).mono ?_
    rintro e w7 ⟨rfl, hb⟩
    have HC7 := hidv (HC6.out.step hb)
    clear hb
    clear p0 p1 p2 p3 p4 p5 p6 p7 p8 p9 px py
    obtain ⟨⟨p0, p1, p2⟩, ⟨p3, p4, p5⟩, ⟨p6, p7, p8⟩, p9, px, py⟩ := HC7.out.cells
    obtain ⟨s0, s1, s2⟩ := HC7.out.sets
    go_wp2_with fail
    refine bodyPost_ret (v := .agg #[.int .i64 4, .int .i64 3, .string ⟨#[]⟩]) (by simp [results, Tryz.results24, go_sem, *]) rfl ?_
    exact ⟨by rw [VE.out], HC7.out.out _ _ _⟩
  have cg := hidv (HG.out (by first | rfl | trivial) (by first | rfl | trivial))
  have VE : Hid (D = ((nmb R1 R2).1, (nmb R1 R2).2, ⟨#[]⟩)) := by show _ = _; rw [VD.out, nmb_calc R1 R2 HR.out]
  have cm2 := hidv (fun w => cm.out R1 R2 w)
  generalize nmb R1 R2 = S at cm2 VE
  obtain ⟨S1, S2⟩ := S
  go_wp2_with fail
  refine (cg.out _).mono ?_
  rintro e w7 ⟨rfl, hb⟩
  have HC7 := hidv (HC6.out.step hb)
  clear hb
  clear p0 p1 p2 p3 p4 p5 p6 p7 p8 p9 px py
  obtain ⟨⟨p0, p1, p2⟩, ⟨p3, p4, p5⟩, ⟨p6, p7, p8⟩, p9, px, py⟩ := HC7.out.cells
  go_wp2_with fail
  refine (cm2.out _).mono ?_
  rintro e w8 ⟨rfl, hb⟩
  have HC8 := hidv (HC7.out.step hb)
  clear hb
  clear p0 p1 p2 p3 p4 p5 p6 p7 p8 p9 px py
  obtain ⟨⟨p0, p1, p2⟩, ⟨p3, p4, p5⟩, ⟨p6, p7, p8⟩, p9, px, py⟩ := HC8.out.cells
  obtain ⟨s0, s1, s2⟩ := HC8.out.sets
  go_wp2_with fail
  refine bodyPost_ret (v := .agg #[.int .i64 S1, .int .i64 S2, .string ⟨#[]⟩]) (by simp [results, Tryz.results24, go_sem, *]) rfl ?_
  exact ⟨by rw [VE.out], HC8.out.out _ _ _⟩

set_option maxHeartbeats 8000000 in
set_option maxRecDepth 100000 in
theorem rwork_Pow (k1 n1 : Int) (t1 : ByteArray) (k2 n2 : Int) (t2 : ByteArray) (K1 N1 : Int) (T1 : ByteArray) (K2 N2 : Int) (T2 : ByteArray) (h1 : Cn k1 n1 t1 K1 N1 T1) (h2 : Cn k2 n2 t2 K2 N2 T2) (X E1 Y E2 R1 R2 : Int) (hx : numI K1 N1 T1 = (X, E1)) (hy : numI K2 N2 T2 = (Y, E2)) (he1 : K1 ≠ 4 → E1 = 0 ∨ E1 = 3) (he2 : K2 ≠ 4 → E2 = 0 ∨ E2 = 3) (hR : R1 ≠ -9223372036854775808)
    (hg : E1 = 0 → E2 = 0 → ∀ w, Calls Tryz.prog 52 #[.int .i64 X, .int .i64 Y] w fun e w' => e = .returned (.agg #[.int .i64 (nmb R1 R2).1, .int .i64 (nmb R1 R2).2, .string ⟨#[]⟩]) ∧ Below w.heap.size w w') (w : World) (D : Int × Int × ByteArray)
    (hD : pick3 K1 N1 T1 K2 N2 T2 ((calcD E1 E2 R1 R2).1, (calcD E1 E2 R1 R2).2, ⟨#[]⟩) = D) :
    Calls Tryz.prog 24 #[.string ⟨#[94]⟩, .agg #[.int .i64 k1, .int .i64 n1, .string t1], .agg #[.int .i64 k2, .int .i64 n2, .string t2]] w fun e w' => e = .returned (.agg #[.int .i64 D.1, .int .i64 D.2.1, .string D.2.2]) ∧ Below w.heap.size w w' := by
  have n10 := fun w => rNumber_cn K1 N1 T1 K1 N1 T1 (cn_self h1) w
  have n20 := fun w => rNumber_cn K2 N2 T2 K2 N2 T2 (cn_self h2) w
  simp only [hx] at n10
  simp only [hy] at n20
  have cx1 := hidv n10
  have cx2 := hidv n20
  have co := hidv (fun w => rOrder_cn K1 N1 T1 K2 N2 T2 K1 N1 T1 K2 N2 T2 (cn_self h1) (cn_self h2) w)
  generalize ordI K1 N1 T1 K2 N2 T2 = R at co
  have cp := hidv (fun w => compared_none ⟨#[94]⟩ R w (noCmp_lit 94 (by decide)))
  have cf := hidv fault_any
  have cm := hidv numbered_any
  have HG := hidv hg
  have HR := hidv hR
  have HE1 := hidv he1
  have HE2 := hidv he2
  clear n10 n20 hx hy hg hR he1 he2
  have HD := hidv hD
  clear hD
  have cc := hidv as_cn
  have H1 := hidv h1
  have H2 := hidv h2
  clear h1 h2
  have HX := hidv (triB_new w 25 (.int .i64 k1) (.int .i64 n1) (.string t1) (.int .i64 k2) (.int .i64 n2) (.string t2) (.int .i64 0) (.int .i64 0) (.string ⟨#[]⟩) (((w.alloc (.cells #[.int .i64 k1, .int .i64 n1, .string t1] 25)).alloc (.cells #[.int .i64 k2, .int .i64 n2, .string t2] 25)).alloc (.cells #[.int .i64 0, .int .i64 0, .string ⟨#[]⟩] 25)) rfl (by go_grown))
  go_enter Tryz.func24, Tryz.ntmps24
  go_wp2_with fail
  refine (cc.out _ _ _ _ _ _ (by exact H1.out) _).mono ?_
  rintro e w1 ⟨rfl, hb1⟩
  have HT1 := hidv (HX.out.step hb1)
  obtain ⟨⟨c0, c1, c2⟩, ⟨c3, c4, c5⟩, ⟨c6, c7, c8⟩, c9, cx, cy⟩ := HT1.out.cells
  obtain ⟨⟨cu0, cu1, cu2⟩, cu3, cu4, cu5⟩ := HT1.out.free
  clear hb1
  have HT3 := hidv (HT1.out.seta (.int .i64 K1) (.int .i64 N1) (.string T1))
  obtain ⟨⟨g0, g1, g2⟩, ⟨g3, g4, g5⟩, ⟨g6, g7, g8⟩, g9, gx, gy⟩ := HT3.out.cells
  go_wp2_with fail
  refine (cc.out _ _ _ _ _ _ (by exact H2.out) _).mono ?_
  rintro e w2 ⟨rfl, hb2⟩
  have HT2 := hidv (HT3.out.step hb2)
  obtain ⟨⟨d0, d1, d2⟩, ⟨d3, d4, d5⟩, ⟨d6, d7, d8⟩, d9, dx, dy⟩ := HT2.out.cells
  obtain ⟨⟨du0, du1, du2⟩, du3, du4, du5⟩ := HT2.out.free
  clear hb2
  have hcut := hidv (HT2.out.setb (.int .i64 K2) (.int .i64 N2) (.string T2))
  clear HT1 HT2 HT3 HX c0 c1 c2 c3 c4 c5 c6 c7 c8 c9 cx cy cu0 cu1 cu2 cu3 cu4 cu5 g0 g1 g2 g3 g4 g5 g6 g7 g8 g9 gx gy
  go_upto_region 3 with fail
  clear d0 d1 d2 d3 d4 d5 d6 d7 d8 d9 dx dy du0 du1 du2 du3 du4 du5
  generalize (((w2.setCell ⟨w.heap.size + 1, 0, none⟩ (.int .i64 K2)).setCell ⟨w.heap.size + 1, 1, none⟩ (.int .i64 N2)).setCell ⟨w.heap.size + 1, 2, none⟩ (.string T2)) = wc at hcut ⊢
  have HC := hcut
  clear hcut cc H1 H2
  obtain ⟨⟨p0, p1, p2⟩, ⟨p3, p4, p5⟩, ⟨p6, p7, p8⟩, p9, px, py⟩ := HC.out.cells
  obtain ⟨s0, s1, s2⟩ := HC.out.sets
  by_cases g1 : K1 = 4
  · subst g1
    have VD : Hid (D = (4, N1, T1)) := by show _ = _; rw [← HD.out]; simp [pick3]
    clear cx1 cx2 co cp cf cm HG HR HE1 HE2
    go_wp2_with fail
    refine bodyPost_ret (v := .agg #[.int .i64 4, .int .i64 N1, .string T1]) (by simp [results, Tryz.results24, go_sem, *]) rfl ?_
    exact ⟨by rw [VD.out], HC.out.out _ _ _⟩
  have q1 : (K1 == 4) = false := by simpa using g1
  by_cases g2 : K2 = 4
  · subst g2
    have VD : Hid (D = (4, N2, T2)) := by show _ = _; rw [← HD.out]; simp [pick3, g1]
    clear g1
    clear cx1 cx2 co cp cf cm HG HR HE1 HE2
    go_wp2_with fail
    refine bodyPost_ret (v := .agg #[.int .i64 4, .int .i64 N2, .string T2]) (by simp [results, Tryz.results24, go_sem, *]) rfl ?_
    exact ⟨by rw [VD.out], HC.out.out _ _ _⟩
  have q2 : (K2 == 4) = false := by simpa using g2
  have VD : Hid (D = ((calcD E1 E2 R1 R2).1, (calcD E1 E2 R1 R2).2, ⟨#[]⟩)) := by show _ = _; rw [← HD.out]; simp [pick3, g1, g2]
  have e1 := hidv (HE1.out g1)
  have e2 := hidv (HE2.out g2)
  clear g1 g2 HE1 HE2 HD s0 s1 s2
  go_wp2_with fail
  refine (co.out _).mono ?_
  rintro e w3 ⟨rfl, hb⟩
  have HC3 := hidv (HC.out.step hb)
  clear hb
  clear p0 p1 p2 p3 p4 p5 p6 p7 p8 p9 px py
  obtain ⟨⟨p0, p1, p2⟩, ⟨p3, p4, p5⟩, ⟨p6, p7, p8⟩, p9, px, py⟩ := HC3.out.cells
  go_wp2_with fail
  refine (cp.out _).mono ?_
  rintro e w4 ⟨rfl, rfl⟩
  go_wp2_with fail
  refine (cx1.out _).mono ?_
  rintro e w5 ⟨rfl, hb⟩
  have HC5 := hidv (HC3.out.step hb)
  clear hb
  clear p0 p1 p2 p3 p4 p5 p6 p7 p8 p9 px py
  obtain ⟨⟨p0, p1, p2⟩, ⟨p3, p4, p5⟩, ⟨p6, p7, p8⟩, p9, px, py⟩ := HC5.out.cells
  go_wp2_with fail
  refine (cx2.out _).mono ?_
  rintro e w6 ⟨rfl, hb⟩
  have HC6 := hidv (HC5.out.step hb)
  clear hb
  clear p0 p1 p2 p3 p4 p5 p6 p7 p8 p9 px py
  obtain ⟨⟨p0, p1, p2⟩, ⟨p3, p4, p5⟩, ⟨p6, p7, p8⟩, p9, px, py⟩ := HC6.out.cells
  rcases e1.out with rfl | rfl
  rotate_left
  · have VE : Hid (D = (4, 3, ⟨#[]⟩)) := by show _ = _; rw [VD.out]; simp [calcD, clampE]
    go_wp2_with fail
    refine (cf.out _ _).mono ?_
    rintro e w7 ⟨rfl, hb⟩
    have HC7 := hidv (HC6.out.step hb)
    clear hb
    clear p0 p1 p2 p3 p4 p5 p6 p7 p8 p9 px py
    obtain ⟨⟨p0, p1, p2⟩, ⟨p3, p4, p5⟩, ⟨p6, p7, p8⟩, p9, px, py⟩ := HC7.out.cells
    obtain ⟨s0, s1, s2⟩ := HC7.out.sets
    go_wp2_with fail
    refine bodyPost_ret (v := .agg #[.int .i64 4, .int .i64 3, .string ⟨#[]⟩]) (by simp [results, Tryz.results24, go_sem, *]) rfl ?_
    exact ⟨by rw [VE.out], HC7.out.out _ _ _⟩
  rcases e2.out with rfl | rfl
  rotate_left
  · have VE : Hid (D = (4, 3, ⟨#[]⟩)) := by show _ = _; rw [VD.out]; simp [calcD, clampE]
    go_wp2_with fail
    refine (cf.out _ _).mono ?_
    rintro e w7 ⟨rfl, hb⟩
    have HC7 := hidv (HC6.out.step hb)
    clear hb
    clear p0 p1 p2 p3 p4 p5 p6 p7 p8 p9 px py
    obtain ⟨⟨p0, p1, p2⟩, ⟨p3, p4, p5⟩, ⟨p6, p7, p8⟩, p9, px, py⟩ := HC7.out.cells
    obtain ⟨s0, s1, s2⟩ := HC7.out.sets
    go_wp2_with fail
    refine bodyPost_ret (v := .agg #[.int .i64 4, .int .i64 3, .string ⟨#[]⟩]) (by simp [results, Tryz.results24, go_sem, *]) rfl ?_
    exact ⟨by rw [VE.out], HC7.out.out _ _ _⟩
  have cg := hidv (HG.out (by first | rfl | trivial) (by first | rfl | trivial))
  have VE : Hid (D = ((nmb R1 R2).1, (nmb R1 R2).2, ⟨#[]⟩)) := by show _ = _; rw [VD.out, nmb_calc R1 R2 HR.out]
  generalize nmb R1 R2 = S at cg VE
  obtain ⟨S1, S2⟩ := S
  go_wp2_with fail
  refine (cg.out _).mono ?_
  rintro e w7 ⟨rfl, hb⟩
  have HC7 := hidv (HC6.out.step hb)
  clear hb
  clear p0 p1 p2 p3 p4 p5 p6 p7 p8 p9 px py
  obtain ⟨⟨p0, p1, p2⟩, ⟨p3, p4, p5⟩, ⟨p6, p7, p8⟩, p9, px, py⟩ := HC7.out.cells
  obtain ⟨s0, s1, s2⟩ := HC7.out.sets
  go_wp2_with fail
  refine bodyPost_ret (v := .agg #[.int .i64 S1, .int .i64 S2, .string ⟨#[]⟩]) (by simp [results, Tryz.results24, go_sem, *]) rfl ?_
  exact ⟨by rw [VE.out], HC7.out.out _ _ _⟩
end Go.Proofs.YtjbkjeabobccaabGreatDoor
namespace Go.Proofs.YtjbkjeabobccaabGreatDoor
open Go.RowKit Go.Lib
set_option linter.unusedVariables false

set_option maxHeartbeats 8000000 in
set_option maxRecDepth 100000 in
theorem rwork_cmp1 (k1 n1 : Int) (t1 : ByteArray) (k2 n2 : Int) (t2 : ByteArray) (K1 N1 : Int) (T1 : ByteArray) (K2 N2 : Int) (T2 : ByteArray) (h1 : Cn k1 n1 t1 K1 N1 T1) (h2 : Cn k2 n2 t2 K2 N2 T2)  (w : World) (D : Int × Int × ByteArray)
    (hD : pick3 K1 N1 T1 K2 N2 T2 (3, tst 1 (ordI K1 N1 T1 K2 N2 T2), ⟨#[]⟩) = D) :
    Calls Tryz.prog 24 #[.string ⟨#[61]⟩, .agg #[.int .i64 k1, .int .i64 n1, .string t1], .agg #[.int .i64 k2, .int .i64 n2, .string t2]] w fun e w' => e = .returned (.agg #[.int .i64 D.1, .int .i64 D.2.1, .string D.2.2]) ∧ Below w.heap.size w w' := by
  have co := hidv (fun w => rOrder_cn K1 N1 T1 K2 N2 T2 K1 N1 T1 K2 N2 T2 (cn_self h1) (cn_self h2) w)
  generalize ordI K1 N1 T1 K2 N2 T2 = R at co hD
  rw [tst_B] at hD
  have cp := hidv (fun w => compared_1 R w)
  generalize tstB 1 R = B at cp hD
  have cq := hidv (fun w => ofb_any B w)
  have HD := hidv hD
  clear hD
  have cc := hidv as_cn
  have H1 := hidv h1
  have H2 := hidv h2
  clear h1 h2
  have HX := hidv (triB_new w 25 (.int .i64 k1) (.int .i64 n1) (.string t1) (.int .i64 k2) (.int .i64 n2) (.string t2) (.int .i64 0) (.int .i64 0) (.string ⟨#[]⟩) (((w.alloc (.cells #[.int .i64 k1, .int .i64 n1, .string t1] 25)).alloc (.cells #[.int .i64 k2, .int .i64 n2, .string t2] 25)).alloc (.cells #[.int .i64 0, .int .i64 0, .string ⟨#[]⟩] 25)) rfl (by go_grown))
  go_enter Tryz.func24, Tryz.ntmps24
  go_wp2_with fail
  refine (cc.out _ _ _ _ _ _ (by exact H1.out) _).mono ?_
  rintro e w1 ⟨rfl, hb1⟩
  have HT1 := hidv (HX.out.step hb1)
  obtain ⟨⟨c0, c1, c2⟩, ⟨c3, c4, c5⟩, ⟨c6, c7, c8⟩, c9, cx, cy⟩ := HT1.out.cells
  obtain ⟨⟨cu0, cu1, cu2⟩, cu3, cu4, cu5⟩ := HT1.out.free
  clear hb1
  have HT3 := hidv (HT1.out.seta (.int .i64 K1) (.int .i64 N1) (.string T1))
  obtain ⟨⟨g0, g1, g2⟩, ⟨g3, g4, g5⟩, ⟨g6, g7, g8⟩, g9, gx, gy⟩ := HT3.out.cells
  go_wp2_with fail
  refine (cc.out _ _ _ _ _ _ (by exact H2.out) _).mono ?_
  rintro e w2 ⟨rfl, hb2⟩
  have HT2 := hidv (HT3.out.step hb2)
  obtain ⟨⟨d0, d1, d2⟩, ⟨d3, d4, d5⟩, ⟨d6, d7, d8⟩, d9, dx, dy⟩ := HT2.out.cells
  obtain ⟨⟨du0, du1, du2⟩, du3, du4, du5⟩ := HT2.out.free
  clear hb2
  have hcut := hidv (HT2.out.setb (.int .i64 K2) (.int .i64 N2) (.string T2))
  clear HT1 HT2 HT3 HX c0 c1 c2 c3 c4 c5 c6 c7 c8 c9 cx cy cu0 cu1 cu2 cu3 cu4 cu5 g0 g1 g2 g3 g4 g5 g6 g7 g8 g9 gx gy
  go_upto_region 3 with fail
  clear d0 d1 d2 d3 d4 d5 d6 d7 d8 d9 dx dy du0 du1 du2 du3 du4 du5
  generalize (((w2.setCell ⟨w.heap.size + 1, 0, none⟩ (.int .i64 K2)).setCell ⟨w.heap.size + 1, 1, none⟩ (.int .i64 N2)).setCell ⟨w.heap.size + 1, 2, none⟩ (.string T2)) = wc at hcut ⊢
  have HC := hcut
  clear hcut cc H1 H2
  obtain ⟨⟨p0, p1, p2⟩, ⟨p3, p4, p5⟩, ⟨p6, p7, p8⟩, p9, px, py⟩ := HC.out.cells
  obtain ⟨s0, s1, s2⟩ := HC.out.sets
  by_cases g1 : K1 = 4
  · subst g1
    have VD : Hid (D = (4, N1, T1)) := by show _ = _; rw [← HD.out]; simp [pick3]
    clear co cp cq
    go_wp2_with fail
    refine bodyPost_ret (v := .agg #[.int .i64 4, .int .i64 N1, .string T1]) (by simp [results, Tryz.results24, go_sem, *]) rfl ?_
    exact ⟨by rw [VD.out], HC.out.out _ _ _⟩
  have q1 : (K1 == 4) = false := by simpa using g1
  by_cases g2 : K2 = 4
  · subst g2
    have VD : Hid (D = (4, N2, T2)) := by show _ = _; rw [← HD.out]; simp [pick3, g1]
    clear g1
    clear co cp cq
    go_wp2_with fail
    refine bodyPost_ret (v := .agg #[.int .i64 4, .int .i64 N2, .string T2]) (by simp [results, Tryz.results24, go_sem, *]) rfl ?_
    exact ⟨by rw [VD.out], HC.out.out _ _ _⟩
  have q2 : (K2 == 4) = false := by simpa using g2
  have VD : Hid (D = (3, (if B then 1 else 0), ⟨#[]⟩)) := by show _ = _; rw [← HD.out]; simp [pick3, g1, g2]
  clear g1 g2 HD s0 s1 s2
  generalize (if B then 1 else 0 : Int) = Z at cq VD
  go_wp2_with fail
  refine (co.out _).mono ?_
  rintro e w3 ⟨rfl, hb⟩
  have HC3 := hidv (HC.out.step hb)
  clear hb
  clear p0 p1 p2 p3 p4 p5 p6 p7 p8 p9 px py
  obtain ⟨⟨p0, p1, p2⟩, ⟨p3, p4, p5⟩, ⟨p6, p7, p8⟩, p9, px, py⟩ := HC3.out.cells
  go_wp2_with fail
  refine (cp.out _).mono ?_
  rintro e w4 ⟨rfl, rfl⟩
  go_wp2_with fail
  refine (cq.out _).mono ?_
  rintro e w5 ⟨rfl, hb⟩
  have HC5 := hidv (HC3.out.step hb)
  clear hb
  clear p0 p1 p2 p3 p4 p5 p6 p7 p8 p9 px py
  obtain ⟨⟨p0, p1, p2⟩, ⟨p3, p4, p5⟩, ⟨p6, p7, p8⟩, p9, px, py⟩ := HC5.out.cells
  obtain ⟨s0, s1, s2⟩ := HC5.out.sets
  go_wp2_with fail
  refine bodyPost_ret (v := .agg #[.int .i64 3, .int .i64 Z, .string ⟨#[]⟩]) (by simp [results, Tryz.results24, go_sem, *]) rfl ?_
  exact ⟨by rw [VD.out], HC5.out.out _ _ _⟩

set_option maxHeartbeats 8000000 in
set_option maxRecDepth 100000 in
theorem rwork_cmp2 (k1 n1 : Int) (t1 : ByteArray) (k2 n2 : Int) (t2 : ByteArray) (K1 N1 : Int) (T1 : ByteArray) (K2 N2 : Int) (T2 : ByteArray) (h1 : Cn k1 n1 t1 K1 N1 T1) (h2 : Cn k2 n2 t2 K2 N2 T2)  (w : World) (D : Int × Int × ByteArray)
    (hD : pick3 K1 N1 T1 K2 N2 T2 (3, tst 2 (ordI K1 N1 T1 K2 N2 T2), ⟨#[]⟩) = D) :
    Calls Tryz.prog 24 #[.string ⟨#[60, 62]⟩, .agg #[.int .i64 k1, .int .i64 n1, .string t1], .agg #[.int .i64 k2, .int .i64 n2, .string t2]] w fun e w' => e = .returned (.agg #[.int .i64 D.1, .int .i64 D.2.1, .string D.2.2]) ∧ Below w.heap.size w w' := by
  have co := hidv (fun w => rOrder_cn K1 N1 T1 K2 N2 T2 K1 N1 T1 K2 N2 T2 (cn_self h1) (cn_self h2) w)
  generalize ordI K1 N1 T1 K2 N2 T2 = R at co hD
  rw [tst_B] at hD
  have cp := hidv (fun w => compared_2 R w)
  generalize tstB 2 R = B at cp hD
  have cq := hidv (fun w => ofb_any B w)
  have HD := hidv hD
  clear hD
  have cc := hidv as_cn
  have H1 := hidv h1
  have H2 := hidv h2
  clear h1 h2
  have HX := hidv (triB_new w 25 (.int .i64 k1) (.int .i64 n1) (.string t1) (.int .i64 k2) (.int .i64 n2) (.string t2) (.int .i64 0) (.int .i64 0) (.string ⟨#[]⟩) (((w.alloc (.cells #[.int .i64 k1, .int .i64 n1, .string t1] 25)).alloc (.cells #[.int .i64 k2, .int .i64 n2, .string t2] 25)).alloc (.cells #[.int .i64 0, .int .i64 0, .string ⟨#[]⟩] 25)) rfl (by go_grown))
  go_enter Tryz.func24, Tryz.ntmps24
  go_wp2_with fail
  refine (cc.out _ _ _ _ _ _ (by exact H1.out) _).mono ?_
  rintro e w1 ⟨rfl, hb1⟩
  have HT1 := hidv (HX.out.step hb1)
  obtain ⟨⟨c0, c1, c2⟩, ⟨c3, c4, c5⟩, ⟨c6, c7, c8⟩, c9, cx, cy⟩ := HT1.out.cells
  obtain ⟨⟨cu0, cu1, cu2⟩, cu3, cu4, cu5⟩ := HT1.out.free
  clear hb1
  have HT3 := hidv (HT1.out.seta (.int .i64 K1) (.int .i64 N1) (.string T1))
  obtain ⟨⟨g0, g1, g2⟩, ⟨g3, g4, g5⟩, ⟨g6, g7, g8⟩, g9, gx, gy⟩ := HT3.out.cells
  go_wp2_with fail
  refine (cc.out _ _ _ _ _ _ (by exact H2.out) _).mono ?_
  rintro e w2 ⟨rfl, hb2⟩
  have HT2 := hidv (HT3.out.step hb2)
  obtain ⟨⟨d0, d1, d2⟩, ⟨d3, d4, d5⟩, ⟨d6, d7, d8⟩, d9, dx, dy⟩ := HT2.out.cells
  obtain ⟨⟨du0, du1, du2⟩, du3, du4, du5⟩ := HT2.out.free
  clear hb2
  have hcut := hidv (HT2.out.setb (.int .i64 K2) (.int .i64 N2) (.string T2))
  clear HT1 HT2 HT3 HX c0 c1 c2 c3 c4 c5 c6 c7 c8 c9 cx cy cu0 cu1 cu2 cu3 cu4 cu5 g0 g1 g2 g3 g4 g5 g6 g7 g8 g9 gx gy
  go_upto_region 3 with fail
  clear d0 d1 d2 d3 d4 d5 d6 d7 d8 d9 dx dy du0 du1 du2 du3 du4 du5
  generalize (((w2.setCell ⟨w.heap.size + 1, 0, none⟩ (.int .i64 K2)).setCell ⟨w.heap.size + 1, 1, none⟩ (.int .i64 N2)).setCell ⟨w.heap.size + 1, 2, none⟩ (.string T2)) = wc at hcut ⊢
  have HC := hcut
  clear hcut cc H1 H2
  obtain ⟨⟨p0, p1, p2⟩, ⟨p3, p4, p5⟩, ⟨p6, p7, p8⟩, p9, px, py⟩ := HC.out.cells
  obtain ⟨s0, s1, s2⟩ := HC.out.sets
  by_cases g1 : K1 = 4
  · subst g1
    have VD : Hid (D = (4, N1, T1)) := by show _ = _; rw [← HD.out]; simp [pick3]
    clear co cp cq
    go_wp2_with fail
    refine bodyPost_ret (v := .agg #[.int .i64 4, .int .i64 N1, .string T1]) (by simp [results, Tryz.results24, go_sem, *]) rfl ?_
    exact ⟨by rw [VD.out], HC.out.out _ _ _⟩
  have q1 : (K1 == 4) = false := by simpa using g1
  by_cases g2 : K2 = 4
  · subst g2
    have VD : Hid (D = (4, N2, T2)) := by show _ = _; rw [← HD.out]; simp [pick3, g1]
    clear g1
    clear co cp cq
    go_wp2_with fail
    refine bodyPost_ret (v := .agg #[.int .i64 4, .int .i64 N2, .string T2]) (by simp [results, Tryz.results24, go_sem, *]) rfl ?_
    exact ⟨by rw [VD.out], HC.out.out _ _ _⟩
  have q2 : (K2 == 4) = false := by simpa using g2
  have VD : Hid (D = (3, (if B then 1 else 0), ⟨#[]⟩)) := by show _ = _; rw [← HD.out]; simp [pick3, g1, g2]
  clear g1 g2 HD s0 s1 s2
  generalize (if B then 1 else 0 : Int) = Z at cq VD
  go_wp2_with fail
  refine (co.out _).mono ?_
  rintro e w3 ⟨rfl, hb⟩
  have HC3 := hidv (HC.out.step hb)
  clear hb
  clear p0 p1 p2 p3 p4 p5 p6 p7 p8 p9 px py
  obtain ⟨⟨p0, p1, p2⟩, ⟨p3, p4, p5⟩, ⟨p6, p7, p8⟩, p9, px, py⟩ := HC3.out.cells
  go_wp2_with fail
  refine (cp.out _).mono ?_
  rintro e w4 ⟨rfl, rfl⟩
  go_wp2_with fail
  refine (cq.out _).mono ?_
  rintro e w5 ⟨rfl, hb⟩
  have HC5 := hidv (HC3.out.step hb)
  clear hb
  clear p0 p1 p2 p3 p4 p5 p6 p7 p8 p9 px py
  obtain ⟨⟨p0, p1, p2⟩, ⟨p3, p4, p5⟩, ⟨p6, p7, p8⟩, p9, px, py⟩ := HC5.out.cells
  obtain ⟨s0, s1, s2⟩ := HC5.out.sets
  go_wp2_with fail
  refine bodyPost_ret (v := .agg #[.int .i64 3, .int .i64 Z, .string ⟨#[]⟩]) (by simp [results, Tryz.results24, go_sem, *]) rfl ?_
  exact ⟨by rw [VD.out], HC5.out.out _ _ _⟩

set_option maxHeartbeats 8000000 in
set_option maxRecDepth 100000 in
theorem rwork_cmp3 (k1 n1 : Int) (t1 : ByteArray) (k2 n2 : Int) (t2 : ByteArray) (K1 N1 : Int) (T1 : ByteArray) (K2 N2 : Int) (T2 : ByteArray) (h1 : Cn k1 n1 t1 K1 N1 T1) (h2 : Cn k2 n2 t2 K2 N2 T2)  (w : World) (D : Int × Int × ByteArray)
    (hD : pick3 K1 N1 T1 K2 N2 T2 (3, tst 3 (ordI K1 N1 T1 K2 N2 T2), ⟨#[]⟩) = D) :
    Calls Tryz.prog 24 #[.string ⟨#[60]⟩, .agg #[.int .i64 k1, .int .i64 n1, .string t1], .agg #[.int .i64 k2, .int .i64 n2, .string t2]] w fun e w' => e = .returned (.agg #[.int .i64 D.1, .int .i64 D.2.1, .string D.2.2]) ∧ Below w.heap.size w w' := by
  have co := hidv (fun w => rOrder_cn K1 N1 T1 K2 N2 T2 K1 N1 T1 K2 N2 T2 (cn_self h1) (cn_self h2) w)
  generalize ordI K1 N1 T1 K2 N2 T2 = R at co hD
  rw [tst_B] at hD
  have cp := hidv (fun w => compared_3 R w)
  generalize tstB 3 R = B at cp hD
  have cq := hidv (fun w => ofb_any B w)
  have HD := hidv hD
  clear hD
  have cc := hidv as_cn
  have H1 := hidv h1
  have H2 := hidv h2
  clear h1 h2
  have HX := hidv (triB_new w 25 (.int .i64 k1) (.int .i64 n1) (.string t1) (.int .i64 k2) (.int .i64 n2) (.string t2) (.int .i64 0) (.int .i64 0) (.string ⟨#[]⟩) (((w.alloc (.cells #[.int .i64 k1, .int .i64 n1, .string t1] 25)).alloc (.cells #[.int .i64 k2, .int .i64 n2, .string t2] 25)).alloc (.cells #[.int .i64 0, .int .i64 0, .string ⟨#[]⟩] 25)) rfl (by go_grown))
  go_enter Tryz.func24, Tryz.ntmps24
  go_wp2_with fail
  refine (cc.out _ _ _ _ _ _ (by exact H1.out) _).mono ?_
  rintro e w1 ⟨rfl, hb1⟩
  have HT1 := hidv (HX.out.step hb1)
  obtain ⟨⟨c0, c1, c2⟩, ⟨c3, c4, c5⟩, ⟨c6, c7, c8⟩, c9, cx, cy⟩ := HT1.out.cells
  obtain ⟨⟨cu0, cu1, cu2⟩, cu3, cu4, cu5⟩ := HT1.out.free
  clear hb1
  have HT3 := hidv (HT1.out.seta (.int .i64 K1) (.int .i64 N1) (.string T1))
  obtain ⟨⟨g0, g1, g2⟩, ⟨g3, g4, g5⟩, ⟨g6, g7, g8⟩, g9, gx, gy⟩ := HT3.out.cells
  go_wp2_with fail
  refine (cc.out _ _ _ _ _ _ (by exact H2.out) _).mono ?_
  rintro e w2 ⟨rfl, hb2⟩
  have HT2 := hidv (HT3.out.step hb2)
  obtain ⟨⟨d0, d1, d2⟩, ⟨d3, d4, d5⟩, ⟨d6, d7, d8⟩, d9, dx, dy⟩ := HT2.out.cells
  obtain ⟨⟨du0, du1, du2⟩, du3, du4, du5⟩ := HT2.out.free
  clear hb2
  have hcut := hidv (HT2.out.setb (.int .i64 K2) (.int .i64 N2) (.string T2))
  clear HT1 HT2 HT3 HX c0 c1 c2 c3 c4 c5 c6 c7 c8 c9 cx cy cu0 cu1 cu2 cu3 cu4 cu5 g0 g1 g2 g3 g4 g5 g6 g7 g8 g9 gx gy
  go_upto_region 3 with fail
  clear d0 d1 d2 d3 d4 d5 d6 d7 d8 d9 dx dy du0 du1 du2 du3 du4 du5
  generalize (((w2.setCell ⟨w.heap.size + 1, 0, none⟩ (.int .i64 K2)).setCell ⟨w.heap.size + 1, 1, none⟩ (.int .i64 N2)).setCell ⟨w.heap.size + 1, 2, none⟩ (.string T2)) = wc at hcut ⊢
  have HC := hcut
  clear hcut cc H1 H2
  obtain ⟨⟨p0, p1, p2⟩, ⟨p3, p4, p5⟩, ⟨p6, p7, p8⟩, p9, px, py⟩ := HC.out.cells
  obtain ⟨s0, s1, s2⟩ := HC.out.sets
  by_cases g1 : K1 = 4
  · subst g1
    have VD : Hid (D = (4, N1, T1)) := by show _ = _; rw [← HD.out]; simp [pick3]
    clear co cp cq
    go_wp2_with fail
    refine bodyPost_ret (v := .agg #[.int .i64 4, .int .i64 N1, .string T1]) (by simp [results, Tryz.results24, go_sem, *]) rfl ?_
    exact ⟨by rw [VD.out], HC.out.out _ _ _⟩
  have q1 : (K1 == 4) = false := by simpa using g1
  by_cases g2 : K2 = 4
  · subst g2
    have VD : Hid (D = (4, N2, T2)) := by show _ = _; rw [← HD.out]; simp [pick3, g1]
    clear g1
    clear co cp cq
    go_wp2_with fail
    refine bodyPost_ret (v := .agg #[.int .i64 4, .int .i64 N2, .string T2]) (by simp [results, Tryz.results24, go_sem, *]) rfl ?_
    exact ⟨by rw [VD.out], HC.out.out _ _ _⟩
  have q2 : (K2 == 4) = false := by simpa using g2
  have VD : Hid (D = (3, (if B then 1 else 0), ⟨#[]⟩)) := by show _ = _; rw [← HD.out]; simp [pick3, g1, g2]
  clear g1 g2 HD s0 s1 s2
  generalize (if B then 1 else 0 : Int) = Z at cq VD
  go_wp2_with fail
  refine (co.out _).mono ?_
  rintro e w3 ⟨rfl, hb⟩
  have HC3 := hidv (HC.out.step hb)
  clear hb
  clear p0 p1 p2 p3 p4 p5 p6 p7 p8 p9 px py
  obtain ⟨⟨p0, p1, p2⟩, ⟨p3, p4, p5⟩, ⟨p6, p7, p8⟩, p9, px, py⟩ := HC3.out.cells
  go_wp2_with fail
  refine (cp.out _).mono ?_
  rintro e w4 ⟨rfl, rfl⟩
  go_wp2_with fail
  refine (cq.out _).mono ?_
  rintro e w5 ⟨rfl, hb⟩
  have HC5 := hidv (HC3.out.step hb)
  clear hb
  clear p0 p1 p2 p3 p4 p5 p6 p7 p8 p9 px py
  obtain ⟨⟨p0, p1, p2⟩, ⟨p3, p4, p5⟩, ⟨p6, p7, p8⟩, p9, px, py⟩ := HC5.out.cells
  obtain ⟨s0, s1, s2⟩ := HC5.out.sets
  go_wp2_with fail
  refine bodyPost_ret (v := .agg #[.int .i64 3, .int .i64 Z, .string ⟨#[]⟩]) (by simp [results, Tryz.results24, go_sem, *]) rfl ?_
  exact ⟨by rw [VD.out], HC5.out.out _ _ _⟩

set_option maxHeartbeats 8000000 in
set_option maxRecDepth 100000 in
theorem rwork_cmp4 (k1 n1 : Int) (t1 : ByteArray) (k2 n2 : Int) (t2 : ByteArray) (K1 N1 : Int) (T1 : ByteArray) (K2 N2 : Int) (T2 : ByteArray) (h1 : Cn k1 n1 t1 K1 N1 T1) (h2 : Cn k2 n2 t2 K2 N2 T2)  (w : World) (D : Int × Int × ByteArray)
    (hD : pick3 K1 N1 T1 K2 N2 T2 (3, tst 4 (ordI K1 N1 T1 K2 N2 T2), ⟨#[]⟩) = D) :
    Calls Tryz.prog 24 #[.string ⟨#[60, 61]⟩, .agg #[.int .i64 k1, .int .i64 n1, .string t1], .agg #[.int .i64 k2, .int .i64 n2, .string t2]] w fun e w' => e = .returned (.agg #[.int .i64 D.1, .int .i64 D.2.1, .string D.2.2]) ∧ Below w.heap.size w w' := by
  have co := hidv (fun w => rOrder_cn K1 N1 T1 K2 N2 T2 K1 N1 T1 K2 N2 T2 (cn_self h1) (cn_self h2) w)
  generalize ordI K1 N1 T1 K2 N2 T2 = R at co hD
  rw [tst_B] at hD
  have cp := hidv (fun w => compared_4 R w)
  generalize tstB 4 R = B at cp hD
  have cq := hidv (fun w => ofb_any B w)
  have HD := hidv hD
  clear hD
  have cc := hidv as_cn
  have H1 := hidv h1
  have H2 := hidv h2
  clear h1 h2
  have HX := hidv (triB_new w 25 (.int .i64 k1) (.int .i64 n1) (.string t1) (.int .i64 k2) (.int .i64 n2) (.string t2) (.int .i64 0) (.int .i64 0) (.string ⟨#[]⟩) (((w.alloc (.cells #[.int .i64 k1, .int .i64 n1, .string t1] 25)).alloc (.cells #[.int .i64 k2, .int .i64 n2, .string t2] 25)).alloc (.cells #[.int .i64 0, .int .i64 0, .string ⟨#[]⟩] 25)) rfl (by go_grown))
  go_enter Tryz.func24, Tryz.ntmps24
  go_wp2_with fail
  refine (cc.out _ _ _ _ _ _ (by exact H1.out) _).mono ?_
  rintro e w1 ⟨rfl, hb1⟩
  have HT1 := hidv (HX.out.step hb1)
  obtain ⟨⟨c0, c1, c2⟩, ⟨c3, c4, c5⟩, ⟨c6, c7, c8⟩, c9, cx, cy⟩ := HT1.out.cells
  obtain ⟨⟨cu0, cu1, cu2⟩, cu3, cu4, cu5⟩ := HT1.out.free
  clear hb1
  have HT3 := hidv (HT1.out.seta (.int .i64 K1) (.int .i64 N1) (.string T1))
  obtain ⟨⟨g0, g1, g2⟩, ⟨g3, g4, g5⟩, ⟨g6, g7, g8⟩, g9, gx, gy⟩ := HT3.out.cells
  go_wp2_with fail
  refine (cc.out _ _ _ _ _ _ (by exact H2.out) _).mono ?_
  rintro e w2 ⟨rfl, hb2⟩
  have HT2 := hidv (HT3.out.step hb2)
  obtain ⟨⟨d0, d1, d2⟩, ⟨d3, d4, d5⟩, ⟨d6, d7, d8⟩, d9, dx, dy⟩ := HT2.out.cells
  obtain ⟨⟨du0, du1, du2⟩, du3, du4, du5⟩ := HT2.out.free
  clear hb2
  have hcut := hidv (HT2.out.setb (.int .i64 K2) (.int .i64 N2) (.string T2))
  clear HT1 HT2 HT3 HX c0 c1 c2 c3 c4 c5 c6 c7 c8 c9 cx cy cu0 cu1 cu2 cu3 cu4 cu5 g0 g1 g2 g3 g4 g5 g6 g7 g8 g9 gx gy
  go_upto_region 3 with fail
  clear d0 d1 d2 d3 d4 d5 d6 d7 d8 d9 dx dy du0 du1 du2 du3 du4 du5
  generalize (((w2.setCell ⟨w.heap.size + 1, 0, none⟩ (.int .i64 K2)).setCell ⟨w.heap.size + 1, 1, none⟩ (.int .i64 N2)).setCell ⟨w.heap.size + 1, 2, none⟩ (.string T2)) = wc at hcut ⊢
  have HC := hcut
  clear hcut cc H1 H2
  obtain ⟨⟨p0, p1, p2⟩, ⟨p3, p4, p5⟩, ⟨p6, p7, p8⟩, p9, px, py⟩ := HC.out.cells
  obtain ⟨s0, s1, s2⟩ := HC.out.sets
  by_cases g1 : K1 = 4
  · subst g1
    have VD : Hid (D = (4, N1, T1)) := by show _ = _; rw [← HD.out]; simp [pick3]
    clear co cp cq
    go_wp2_with fail
    refine bodyPost_ret (v := .agg #[.int .i64 4, .int .i64 N1, .string T1]) (by simp [results, Tryz.results24, go_sem, *]) rfl ?_
    exact ⟨by rw [VD.out], HC.out.out _ _ _⟩
  have q1 : (K1 == 4) = false := by simpa using g1
  by_cases g2 : K2 = 4
  · subst g2
    have VD : Hid (D = (4, N2, T2)) := by show _ = _; rw [← HD.out]; simp [pick3, g1]
    clear g1
    clear co cp cq
    go_wp2_with fail
    refine bodyPost_ret (v := .agg #[.int .i64 4, .int .i64 N2, .string T2]) (by simp [results, Tryz.results24, go_sem, *]) rfl ?_
    exact ⟨by rw [VD.out], HC.out.out _ _ _⟩
  have q2 : (K2 == 4) = false := by simpa using g2
  have VD : Hid (D = (3, (if B then 1 else 0), ⟨#[]⟩)) := by show _ = _; rw [← HD.out]; simp [pick3, g1, g2]
  clear g1 g2 HD s0 s1 s2
  generalize (if B then 1 else 0 : Int) = Z at cq VD
  go_wp2_with fail
  refine (co.out _).mono ?_
  rintro e w3 ⟨rfl, hb⟩
  have HC3 := hidv (HC.out.step hb)
  clear hb
  clear p0 p1 p2 p3 p4 p5 p6 p7 p8 p9 px py
  obtain ⟨⟨p0, p1, p2⟩, ⟨p3, p4, p5⟩, ⟨p6, p7, p8⟩, p9, px, py⟩ := HC3.out.cells
  go_wp2_with fail
  refine (cp.out _).mono ?_
  rintro e w4 ⟨rfl, rfl⟩
  go_wp2_with fail
  refine (cq.out _).mono ?_
  rintro e w5 ⟨rfl, hb⟩
  have HC5 := hidv (HC3.out.step hb)
  clear hb
  clear p0 p1 p2 p3 p4 p5 p6 p7 p8 p9 px py
  obtain ⟨⟨p0, p1, p2⟩, ⟨p3, p4, p5⟩, ⟨p6, p7, p8⟩, p9, px, py⟩ := HC5.out.cells
  obtain ⟨s0, s1, s2⟩ := HC5.out.sets
  go_wp2_with fail
  refine bodyPost_ret (v := .agg #[.int .i64 3, .int .i64 Z, .string ⟨#[]⟩]) (by simp [results, Tryz.results24, go_sem, *]) rfl ?_
  exact ⟨by rw [VD.out], HC5.out.out _ _ _⟩

set_option maxHeartbeats 8000000 in
set_option maxRecDepth 100000 in
theorem rwork_cmp5 (k1 n1 : Int) (t1 : ByteArray) (k2 n2 : Int) (t2 : ByteArray) (K1 N1 : Int) (T1 : ByteArray) (K2 N2 : Int) (T2 : ByteArray) (h1 : Cn k1 n1 t1 K1 N1 T1) (h2 : Cn k2 n2 t2 K2 N2 T2)  (w : World) (D : Int × Int × ByteArray)
    (hD : pick3 K1 N1 T1 K2 N2 T2 (3, tst 5 (ordI K1 N1 T1 K2 N2 T2), ⟨#[]⟩) = D) :
    Calls Tryz.prog 24 #[.string ⟨#[62]⟩, .agg #[.int .i64 k1, .int .i64 n1, .string t1], .agg #[.int .i64 k2, .int .i64 n2, .string t2]] w fun e w' => e = .returned (.agg #[.int .i64 D.1, .int .i64 D.2.1, .string D.2.2]) ∧ Below w.heap.size w w' := by
  have co := hidv (fun w => rOrder_cn K1 N1 T1 K2 N2 T2 K1 N1 T1 K2 N2 T2 (cn_self h1) (cn_self h2) w)
  generalize ordI K1 N1 T1 K2 N2 T2 = R at co hD
  rw [tst_B] at hD
  have cp := hidv (fun w => compared_5 R w)
  generalize tstB 5 R = B at cp hD
  have cq := hidv (fun w => ofb_any B w)
  have HD := hidv hD
  clear hD
  have cc := hidv as_cn
  have H1 := hidv h1
  have H2 := hidv h2
  clear h1 h2
  have HX := hidv (triB_new w 25 (.int .i64 k1) (.int .i64 n1) (.string t1) (.int .i64 k2) (.int .i64 n2) (.string t2) (.int .i64 0) (.int .i64 0) (.string ⟨#[]⟩) (((w.alloc (.cells #[.int .i64 k1, .int .i64 n1, .string t1] 25)).alloc (.cells #[.int .i64 k2, .int .i64 n2, .string t2] 25)).alloc (.cells #[.int .i64 0, .int .i64 0, .string ⟨#[]⟩] 25)) rfl (by go_grown))
  go_enter Tryz.func24, Tryz.ntmps24
  go_wp2_with fail
  refine (cc.out _ _ _ _ _ _ (by exact H1.out) _).mono ?_
  rintro e w1 ⟨rfl, hb1⟩
  have HT1 := hidv (HX.out.step hb1)
  obtain ⟨⟨c0, c1, c2⟩, ⟨c3, c4, c5⟩, ⟨c6, c7, c8⟩, c9, cx, cy⟩ := HT1.out.cells
  obtain ⟨⟨cu0, cu1, cu2⟩, cu3, cu4, cu5⟩ := HT1.out.free
  clear hb1
  have HT3 := hidv (HT1.out.seta (.int .i64 K1) (.int .i64 N1) (.string T1))
  obtain ⟨⟨g0, g1, g2⟩, ⟨g3, g4, g5⟩, ⟨g6, g7, g8⟩, g9, gx, gy⟩ := HT3.out.cells
  go_wp2_with fail
  refine (cc.out _ _ _ _ _ _ (by exact H2.out) _).mono ?_
  rintro e w2 ⟨rfl, hb2⟩
  have HT2 := hidv (HT3.out.step hb2)
  obtain ⟨⟨d0, d1, d2⟩, ⟨d3, d4, d5⟩, ⟨d6, d7, d8⟩, d9, dx, dy⟩ := HT2.out.cells
  obtain ⟨⟨du0, du1, du2⟩, du3, du4, du5⟩ := HT2.out.free
  clear hb2
  have hcut := hidv (HT2.out.setb (.int .i64 K2) (.int .i64 N2) (.string T2))
  clear HT1 HT2 HT3 HX c0 c1 c2 c3 c4 c5 c6 c7 c8 c9 cx cy cu0 cu1 cu2 cu3 cu4 cu5 g0 g1 g2 g3 g4 g5 g6 g7 g8 g9 gx gy
  go_upto_region 3 with fail
  clear d0 d1 d2 d3 d4 d5 d6 d7 d8 d9 dx dy du0 du1 du2 du3 du4 du5
  generalize (((w2.setCell ⟨w.heap.size + 1, 0, none⟩ (.int .i64 K2)).setCell ⟨w.heap.size + 1, 1, none⟩ (.int .i64 N2)).setCell ⟨w.heap.size + 1, 2, none⟩ (.string T2)) = wc at hcut ⊢
  have HC := hcut
  clear hcut cc H1 H2
  obtain ⟨⟨p0, p1, p2⟩, ⟨p3, p4, p5⟩, ⟨p6, p7, p8⟩, p9, px, py⟩ := HC.out.cells
  obtain ⟨s0, s1, s2⟩ := HC.out.sets
  by_cases g1 : K1 = 4
  · subst g1
    have VD : Hid (D = (4, N1, T1)) := by show _ = _; rw [← HD.out]; simp [pick3]
    clear co cp cq
    go_wp2_with fail
    refine bodyPost_ret (v := .agg #[.int .i64 4, .int .i64 N1, .string T1]) (by simp [results, Tryz.results24, go_sem, *]) rfl ?_
    exact ⟨by rw [VD.out], HC.out.out _ _ _⟩
  have q1 : (K1 == 4) = false := by simpa using g1
  by_cases g2 : K2 = 4
  · subst g2
    have VD : Hid (D = (4, N2, T2)) := by show _ = _; rw [← HD.out]; simp [pick3, g1]
    clear g1
    clear co cp cq
    go_wp2_with fail
    refine bodyPost_ret (v := .agg #[.int .i64 4, .int .i64 N2, .string T2]) (by simp [results, Tryz.results24, go_sem, *]) rfl ?_
    exact ⟨by rw [VD.out], HC.out.out _ _ _⟩
  have q2 : (K2 == 4) = false := by simpa using g2
  have VD : Hid (D = (3, (if B then 1 else 0), ⟨#[]⟩)) := by show _ = _; rw [← HD.out]; simp [pick3, g1, g2]
  clear g1 g2 HD s0 s1 s2
  generalize (if B then 1 else 0 : Int) = Z at cq VD
  go_wp2_with fail
  refine (co.out _).mono ?_
  rintro e w3 ⟨rfl, hb⟩
  have HC3 := hidv (HC.out.step hb)
  clear hb
  clear p0 p1 p2 p3 p4 p5 p6 p7 p8 p9 px py
  obtain ⟨⟨p0, p1, p2⟩, ⟨p3, p4, p5⟩, ⟨p6, p7, p8⟩, p9, px, py⟩ := HC3.out.cells
  go_wp2_with fail
  refine (cp.out _).mono ?_
  rintro e w4 ⟨rfl, rfl⟩
  go_wp2_with fail
  refine (cq.out _).mono ?_
  rintro e w5 ⟨rfl, hb⟩
  have HC5 := hidv (HC3.out.step hb)
  clear hb
  clear p0 p1 p2 p3 p4 p5 p6 p7 p8 p9 px py
  obtain ⟨⟨p0, p1, p2⟩, ⟨p3, p4, p5⟩, ⟨p6, p7, p8⟩, p9, px, py⟩ := HC5.out.cells
  obtain ⟨s0, s1, s2⟩ := HC5.out.sets
  go_wp2_with fail
  refine bodyPost_ret (v := .agg #[.int .i64 3, .int .i64 Z, .string ⟨#[]⟩]) (by simp [results, Tryz.results24, go_sem, *]) rfl ?_
  exact ⟨by rw [VD.out], HC5.out.out _ _ _⟩

set_option maxHeartbeats 8000000 in
set_option maxRecDepth 100000 in
theorem rwork_cmp6 (k1 n1 : Int) (t1 : ByteArray) (k2 n2 : Int) (t2 : ByteArray) (K1 N1 : Int) (T1 : ByteArray) (K2 N2 : Int) (T2 : ByteArray) (h1 : Cn k1 n1 t1 K1 N1 T1) (h2 : Cn k2 n2 t2 K2 N2 T2)  (w : World) (D : Int × Int × ByteArray)
    (hD : pick3 K1 N1 T1 K2 N2 T2 (3, tst 6 (ordI K1 N1 T1 K2 N2 T2), ⟨#[]⟩) = D) :
    Calls Tryz.prog 24 #[.string ⟨#[62, 61]⟩, .agg #[.int .i64 k1, .int .i64 n1, .string t1], .agg #[.int .i64 k2, .int .i64 n2, .string t2]] w fun e w' => e = .returned (.agg #[.int .i64 D.1, .int .i64 D.2.1, .string D.2.2]) ∧ Below w.heap.size w w' := by
  have co := hidv (fun w => rOrder_cn K1 N1 T1 K2 N2 T2 K1 N1 T1 K2 N2 T2 (cn_self h1) (cn_self h2) w)
  generalize ordI K1 N1 T1 K2 N2 T2 = R at co hD
  rw [tst_B] at hD
  have cp := hidv (fun w => compared_6 R w)
  generalize tstB 6 R = B at cp hD
  have cq := hidv (fun w => ofb_any B w)
  have HD := hidv hD
  clear hD
  have cc := hidv as_cn
  have H1 := hidv h1
  have H2 := hidv h2
  clear h1 h2
  have HX := hidv (triB_new w 25 (.int .i64 k1) (.int .i64 n1) (.string t1) (.int .i64 k2) (.int .i64 n2) (.string t2) (.int .i64 0) (.int .i64 0) (.string ⟨#[]⟩) (((w.alloc (.cells #[.int .i64 k1, .int .i64 n1, .string t1] 25)).alloc (.cells #[.int .i64 k2, .int .i64 n2, .string t2] 25)).alloc (.cells #[.int .i64 0, .int .i64 0, .string ⟨#[]⟩] 25)) rfl (by go_grown))
  go_enter Tryz.func24, Tryz.ntmps24
  go_wp2_with fail
  refine (cc.out _ _ _ _ _ _ (by exact H1.out) _).mono ?_
  rintro e w1 ⟨rfl, hb1⟩
  have HT1 := hidv (HX.out.step hb1)
  obtain ⟨⟨c0, c1, c2⟩, ⟨c3, c4, c5⟩, ⟨c6, c7, c8⟩, c9, cx, cy⟩ := HT1.out.cells
  obtain ⟨⟨cu0, cu1, cu2⟩, cu3, cu4, cu5⟩ := HT1.out.free
  clear hb1
  have HT3 := hidv (HT1.out.seta (.int .i64 K1) (.int .i64 N1) (.string T1))
  obtain ⟨⟨g0, g1, g2⟩, ⟨g3, g4, g5⟩, ⟨g6, g7, g8⟩, g9, gx, gy⟩ := HT3.out.cells
  go_wp2_with fail
  refine (cc.out _ _ _ _ _ _ (by exact H2.out) _).mono ?_
  rintro e w2 ⟨rfl, hb2⟩
  have HT2 := hidv (HT3.out.step hb2)
  obtain ⟨⟨d0, d1, d2⟩, ⟨d3, d4, d5⟩, ⟨d6, d7, d8⟩, d9, dx, dy⟩ := HT2.out.cells
  obtain ⟨⟨du0, du1, du2⟩, du3, du4, du5⟩ := HT2.out.free
  clear hb2
  have hcut := hidv (HT2.out.setb (.int .i64 K2) (.int .i64 N2) (.string T2))
  clear HT1 HT2 HT3 HX c0 c1 c2 c3 c4 c5 c6 c7 c8 c9 cx cy cu0 cu1 cu2 cu3 cu4 cu5 g0 g1 g2 g3 g4 g5 g6 g7 g8 g9 gx gy
  go_upto_region 3 with fail
  clear d0 d1 d2 d3 d4 d5 d6 d7 d8 d9 dx dy du0 du1 du2 du3 du4 du5
  generalize (((w2.setCell ⟨w.heap.size + 1, 0, none⟩ (.int .i64 K2)).setCell ⟨w.heap.size + 1, 1, none⟩ (.int .i64 N2)).setCell ⟨w.heap.size + 1, 2, none⟩ (.string T2)) = wc at hcut ⊢
  have HC := hcut
  clear hcut cc H1 H2
  obtain ⟨⟨p0, p1, p2⟩, ⟨p3, p4, p5⟩, ⟨p6, p7, p8⟩, p9, px, py⟩ := HC.out.cells
  obtain ⟨s0, s1, s2⟩ := HC.out.sets
  by_cases g1 : K1 = 4
  · subst g1
    have VD : Hid (D = (4, N1, T1)) := by show _ = _; rw [← HD.out]; simp [pick3]
    clear co cp cq
    go_wp2_with fail
    refine bodyPost_ret (v := .agg #[.int .i64 4, .int .i64 N1, .string T1]) (by simp [results, Tryz.results24, go_sem, *]) rfl ?_
    exact ⟨by rw [VD.out], HC.out.out _ _ _⟩
  have q1 : (K1 == 4) = false := by simpa using g1
  by_cases g2 : K2 = 4
  · subst g2
    have VD : Hid (D = (4, N2, T2)) := by show _ = _; rw [← HD.out]; simp [pick3, g1]
    clear g1
    clear co cp cq
    go_wp2_with fail
    refine bodyPost_ret (v := .agg #[.int .i64 4, .int .i64 N2, .string T2]) (by simp [results, Tryz.results24, go_sem, *]) rfl ?_
    exact ⟨by rw [VD.out], HC.out.out _ _ _⟩
  have q2 : (K2 == 4) = false := by simpa using g2
  have VD : Hid (D = (3, (if B then 1 else 0), ⟨#[]⟩)) := by show _ = _; rw [← HD.out]; simp [pick3, g1, g2]
  clear g1 g2 HD s0 s1 s2
  generalize (if B then 1 else 0 : Int) = Z at cq VD
  go_wp2_with fail
  refine (co.out _).mono ?_
  rintro e w3 ⟨rfl, hb⟩
  have HC3 := hidv (HC.out.step hb)
  clear hb
  clear p0 p1 p2 p3 p4 p5 p6 p7 p8 p9 px py
  obtain ⟨⟨p0, p1, p2⟩, ⟨p3, p4, p5⟩, ⟨p6, p7, p8⟩, p9, px, py⟩ := HC3.out.cells
  go_wp2_with fail
  refine (cp.out _).mono ?_
  rintro e w4 ⟨rfl, rfl⟩
  go_wp2_with fail
  refine (cq.out _).mono ?_
  rintro e w5 ⟨rfl, hb⟩
  have HC5 := hidv (HC3.out.step hb)
  clear hb
  clear p0 p1 p2 p3 p4 p5 p6 p7 p8 p9 px py
  obtain ⟨⟨p0, p1, p2⟩, ⟨p3, p4, p5⟩, ⟨p6, p7, p8⟩, p9, px, py⟩ := HC5.out.cells
  obtain ⟨s0, s1, s2⟩ := HC5.out.sets
  go_wp2_with fail
  refine bodyPost_ret (v := .agg #[.int .i64 3, .int .i64 Z, .string ⟨#[]⟩]) (by simp [results, Tryz.results24, go_sem, *]) rfl ?_
  exact ⟨by rw [VD.out], HC5.out.out _ _ _⟩
end Go.Proofs.YtjbkjeabobccaabGreatDoor
namespace Go.Proofs.YtjbkjeabobccaabGreatDoor
open Go.RowKit Go.Lib
set_option linter.unusedVariables false

set_option maxHeartbeats 8000000 in
set_option maxRecDepth 100000 in
theorem rwork_none (op : ByteArray) (k1 n1 : Int) (t1 : ByteArray) (k2 n2 : Int) (t2 : ByteArray) (K1 N1 : Int) (T1 : ByteArray) (K2 N2 : Int) (T2 : ByteArray) (h1 : Cn k1 n1 t1 K1 N1 T1) (h2 : Cn k2 n2 t2 K2 N2 T2) (h : NoCmp op) (hn : NoCalc op) (w : World) (D : Int × Int × ByteArray)
    (hD : pick3 K1 N1 T1 K2 N2 T2 (4, 3, ⟨#[]⟩) = D) :
    Calls Tryz.prog 24 #[.string op, .agg #[.int .i64 k1, .int .i64 n1, .string t1], .agg #[.int .i64 k2, .int .i64 n2, .string t2]] w fun e w' => e = .returned (.agg #[.int .i64 D.1, .int .i64 D.2.1, .string D.2.2]) ∧ Below w.heap.size w w' := by
  have co := hidv (fun w => rOrder_cn K1 N1 T1 K2 N2 T2 K1 N1 T1 K2 N2 T2 (cn_self h1) (cn_self h2) w)
  generalize ordI K1 N1 T1 K2 N2 T2 = R at co
  have cp := hidv (fun w => compared_none op R w h)
  have cf := hidv fault_any
  obtain ⟨b1, b2, b3, b4, b5, b6⟩ := hn
  clear h
  have HD := hidv hD
  clear hD
  have cc := hidv as_cn
  have H1 := hidv h1
  have H2 := hidv h2
  clear h1 h2
  have HX := hidv (triB_new w 25 (.int .i64 k1) (.int .i64 n1) (.string t1) (.int .i64 k2) (.int .i64 n2) (.string t2) (.int .i64 0) (.int .i64 0) (.string ⟨#[]⟩) (((w.alloc (.cells #[.int .i64 k1, .int .i64 n1, .string t1] 25)).alloc (.cells #[.int .i64 k2, .int .i64 n2, .string t2] 25)).alloc (.cells #[.int .i64 0, .int .i64 0, .string ⟨#[]⟩] 25)) rfl (by go_grown))
  go_enter Tryz.func24, Tryz.ntmps24
  go_wp2_with fail
  refine (cc.out _ _ _ _ _ _ (by exact H1.out) _).mono ?_
  rintro e w1 ⟨rfl, hb1⟩
  have HT1 := hidv (HX.out.step hb1)
  obtain ⟨⟨c0, c1, c2⟩, ⟨c3, c4, c5⟩, ⟨c6, c7, c8⟩, c9, cx, cy⟩ := HT1.out.cells
  obtain ⟨⟨cu0, cu1, cu2⟩, cu3, cu4, cu5⟩ := HT1.out.free
  clear hb1
  have HT3 := hidv (HT1.out.seta (.int .i64 K1) (.int .i64 N1) (.string T1))
  obtain ⟨⟨g0, g1, g2⟩, ⟨g3, g4, g5⟩, ⟨g6, g7, g8⟩, g9, gx, gy⟩ := HT3.out.cells
  go_wp2_with fail
  refine (cc.out _ _ _ _ _ _ (by exact H2.out) _).mono ?_
  rintro e w2 ⟨rfl, hb2⟩
  have HT2 := hidv (HT3.out.step hb2)
  obtain ⟨⟨d0, d1, d2⟩, ⟨d3, d4, d5⟩, ⟨d6, d7, d8⟩, d9, dx, dy⟩ := HT2.out.cells
  obtain ⟨⟨du0, du1, du2⟩, du3, du4, du5⟩ := HT2.out.free
  clear hb2
  have hcut := hidv (HT2.out.setb (.int .i64 K2) (.int .i64 N2) (.string T2))
  clear HT1 HT2 HT3 HX c0 c1 c2 c3 c4 c5 c6 c7 c8 c9 cx cy cu0 cu1 cu2 cu3 cu4 cu5 g0 g1 g2 g3 g4 g5 g6 g7 g8 g9 gx gy
  go_upto_region 3 with fail
  clear d0 d1 d2 d3 d4 d5 d6 d7 d8 d9 dx dy du0 du1 du2 du3 du4 du5
  generalize (((w2.setCell ⟨w.heap.size + 1, 0, none⟩ (.int .i64 K2)).setCell ⟨w.heap.size + 1, 1, none⟩ (.int .i64 N2)).setCell ⟨w.heap.size + 1, 2, none⟩ (.string T2)) = wc at hcut ⊢
  have HC := hcut
  clear hcut cc H1 H2
  obtain ⟨⟨p0, p1, p2⟩, ⟨p3, p4, p5⟩, ⟨p6, p7, p8⟩, p9, px, py⟩ := HC.out.cells
  obtain ⟨s0, s1, s2⟩ := HC.out.sets
  by_cases g1 : K1 = 4
  · subst g1
    have VD : Hid (D = (4, N1, T1)) := by show _ = _; rw [← HD.out]; simp [pick3]
    clear co cp cf
    go_wp2_with fail
    refine bodyPost_ret (v := .agg #[.int .i64 4, .int .i64 N1, .string T1]) (by simp [results, Tryz.results24, go_sem, *]) rfl ?_
    exact ⟨by rw [VD.out], HC.out.out _ _ _⟩
  have q1 : (K1 == 4) = false := by simpa using g1
  by_cases g2 : K2 = 4
  · subst g2
    have VD : Hid (D = (4, N2, T2)) := by show _ = _; rw [← HD.out]; simp [pick3, g1]
    clear g1
    clear co cp cf
    go_wp2_with fail
    refine bodyPost_ret (v := .agg #[.int .i64 4, .int .i64 N2, .string T2]) (by simp [results, Tryz.results24, go_sem, *]) rfl ?_
    exact ⟨by rw [VD.out], HC.out.out _ _ _⟩
  have q2 : (K2 == 4) = false := by simpa using g2
  have VD : Hid (D = (4, 3, ⟨#[]⟩)) := by show _ = _; rw [← HD.out]; simp [pick3, g1, g2]
  clear g1 g2 HD s0 s1 s2
  go_wp2_with fail
  refine (co.out _).mono ?_
  rintro e w3 ⟨rfl, hb⟩
  have HC3 := hidv (HC.out.step hb)
  clear hb
  clear p0 p1 p2 p3 p4 p5 p6 p7 p8 p9 px py
  obtain ⟨⟨p0, p1, p2⟩, ⟨p3, p4, p5⟩, ⟨p6, p7, p8⟩, p9, px, py⟩ := HC3.out.cells
  go_wp2_with fail
  refine (cp.out _).mono ?_
  rintro e w4 ⟨rfl, rfl⟩
  go_wp2_with fail
  refine (cf.out _ _).mono ?_
  rintro e w5 ⟨rfl, hb⟩
  have HC5 := hidv (HC3.out.step hb)
  clear hb
  clear p0 p1 p2 p3 p4 p5 p6 p7 p8 p9 px py
  obtain ⟨⟨p0, p1, p2⟩, ⟨p3, p4, p5⟩, ⟨p6, p7, p8⟩, p9, px, py⟩ := HC5.out.cells
  obtain ⟨s0, s1, s2⟩ := HC5.out.sets
  go_wp2_with fail
  refine bodyPost_ret (v := .agg #[.int .i64 4, .int .i64 3, .string ⟨#[]⟩]) (by simp [results, Tryz.results24, go_sem, *]) rfl ?_
  exact ⟨by rw [VD.out], HC5.out.out _ _ _⟩

set_option maxHeartbeats 8000000 in
set_option maxRecDepth 100000 in
theorem rwork_join (k1 n1 : Int) (t1 : ByteArray) (k2 n2 : Int) (t2 : ByteArray) (K1 N1 : Int) (T1 : ByteArray) (K2 N2 : Int) (T2 : ByteArray) (h1 : Cn k1 n1 t1 K1 N1 T1) (h2 : Cn k2 n2 t2 K2 N2 T2) (g1 : Ci K1 N1 T1 K1 N1 T1) (g2 : Ci K2 N2 T2 K2 N2 T2) (hz : (txtI K1 N1 T1).1.size ≤ 1000 ∧ (txtI K2 N2 T2).1.size ≤ 1000) (w : World) (D : Int × Int × ByteArray)
    (hD : pick3 K1 N1 T1 K2 N2 T2 (joinV (txtI K1 N1 T1).1 (txtI K2 N2 T2).1) = D) :
    Calls Tryz.prog 24 #[.string ⟨#[38]⟩, .agg #[.int .i64 k1, .int .i64 n1, .string t1], .agg #[.int .i64 k2, .int .i64 n2, .string t2]] w fun e w' => e = .returned (.agg #[.int .i64 D.1, .int .i64 D.2.1, .string D.2.2]) ∧ Below w.heap.size w w' := by
  have ct1 := hidv (fun w => rText_cn K1 N1 T1 K1 N1 T1 g1 w)
  have ct2 := hidv (fun w => rText_cn K2 N2 T2 K2 N2 T2 g2 w)
  obtain ⟨hz1, hz2⟩ := hz
  generalize (txtI K1 N1 T1).1 = x1 at ct1 hD hz1
  generalize (txtI K1 N1 T1).2 = y1 at ct1
  generalize (txtI K2 N2 T2).1 = x2 at ct2 hD hz2
  generalize (txtI K2 N2 T2).2 = y2 at ct2
  have ca := hidv (fun w => as_cn 2 0 (x1 ++ x2) (joinV x1 x2).1 (joinV x1 x2).2.1 (joinV x1 x2).2.2 ⟨by unfold joinV cnt; simp⟩ w)
  generalize joinV x1 x2 = J at ca hD
  obtain ⟨J1, J2, J3⟩ := J
  clear g1 g2
  have HD := hidv hD
  clear hD
  have cc := hidv as_cn
  have H1 := hidv h1
  have H2 := hidv h2
  clear h1 h2
  have HX := hidv (triB_new w 25 (.int .i64 k1) (.int .i64 n1) (.string t1) (.int .i64 k2) (.int .i64 n2) (.string t2) (.int .i64 0) (.int .i64 0) (.string ⟨#[]⟩) (((w.alloc (.cells #[.int .i64 k1, .int .i64 n1, .string t1] 25)).alloc (.cells #[.int .i64 k2, .int .i64 n2, .string t2] 25)).alloc (.cells #[.int .i64 0, .int .i64 0, .string ⟨#[]⟩] 25)) rfl (by go_grown))
  go_enter Tryz.func24, Tryz.ntmps24
  go_wp2_with fail
  refine (cc.out _ _ _ _ _ _ (by exact H1.out) _).mono ?_
  rintro e w1 ⟨rfl, hb1⟩
  have HT1 := hidv (HX.out.step hb1)
  obtain ⟨⟨c0, c1, c2⟩, ⟨c3, c4, c5⟩, ⟨c6, c7, c8⟩, c9, cx, cy⟩ := HT1.out.cells
  obtain ⟨⟨cu0, cu1, cu2⟩, cu3, cu4, cu5⟩ := HT1.out.free
  clear hb1
  have HT3 := hidv (HT1.out.seta (.int .i64 K1) (.int .i64 N1) (.string T1))
  obtain ⟨⟨g0, g1, g2⟩, ⟨g3, g4, g5⟩, ⟨g6, g7, g8⟩, g9, gx, gy⟩ := HT3.out.cells
  go_wp2_with fail
  refine (cc.out _ _ _ _ _ _ (by exact H2.out) _).mono ?_
  rintro e w2 ⟨rfl, hb2⟩
  have HT2 := hidv (HT3.out.step hb2)
  obtain ⟨⟨d0, d1, d2⟩, ⟨d3, d4, d5⟩, ⟨d6, d7, d8⟩, d9, dx, dy⟩ := HT2.out.cells
  obtain ⟨⟨du0, du1, du2⟩, du3, du4, du5⟩ := HT2.out.free
  clear hb2
  have hcut := hidv (HT2.out.setb (.int .i64 K2) (.int .i64 N2) (.string T2))
  clear HT1 HT2 HT3 HX c0 c1 c2 c3 c4 c5 c6 c7 c8 c9 cx cy cu0 cu1 cu2 cu3 cu4 cu5 g0 g1 g2 g3 g4 g5 g6 g7 g8 g9 gx gy
  go_upto_region 3 with fail
  clear d0 d1 d2 d3 d4 d5 d6 d7 d8 d9 dx dy du0 du1 du2 du3 du4 du5
  generalize (((w2.setCell ⟨w.heap.size + 1, 0, none⟩ (.int .i64 K2)).setCell ⟨w.heap.size + 1, 1, none⟩ (.int .i64 N2)).setCell ⟨w.heap.size + 1, 2, none⟩ (.string T2)) = wc at hcut ⊢
  have HC := hcut
  clear hcut cc H1 H2
  obtain ⟨⟨p0, p1, p2⟩, ⟨p3, p4, p5⟩, ⟨p6, p7, p8⟩, p9, px, py⟩ := HC.out.cells
  obtain ⟨s0, s1, s2⟩ := HC.out.sets
  by_cases g1 : K1 = 4
  · subst g1
    have VD : Hid (D = (4, N1, T1)) := by show _ = _; rw [← HD.out]; simp [pick3]
    clear ct1 ct2 ca
    go_wp2_with fail
    refine bodyPost_ret (v := .agg #[.int .i64 4, .int .i64 N1, .string T1]) (by simp [results, Tryz.results24, go_sem, *]) rfl ?_
    exact ⟨by rw [VD.out], HC.out.out _ _ _⟩
  have q1 : (K1 == 4) = false := by simpa using g1
  by_cases g2 : K2 = 4
  · subst g2
    have VD : Hid (D = (4, N2, T2)) := by show _ = _; rw [← HD.out]; simp [pick3, g1]
    clear g1
    clear ct1 ct2 ca
    go_wp2_with fail
    refine bodyPost_ret (v := .agg #[.int .i64 4, .int .i64 N2, .string T2]) (by simp [results, Tryz.results24, go_sem, *]) rfl ?_
    exact ⟨by rw [VD.out], HC.out.out _ _ _⟩
  have q2 : (K2 == 4) = false := by simpa using g2
  have VD : Hid (D = (J1, J2, J3)) := by show _ = _; rw [← HD.out]; simp [pick3, g1, g2]
  clear g1 g2 HD s0 s1 s2
  go_wp2_with fail
  refine (ct1.out _).mono ?_
  rintro e w3 ⟨rfl, hb⟩
  have HC3 := hidv (HC.out.step hb)
  clear hb
  clear p0 p1 p2 p3 p4 p5 p6 p7 p8 p9 px py
  obtain ⟨⟨p0, p1, p2⟩, ⟨p3, p4, p5⟩, ⟨p6, p7, p8⟩, p9, px, py⟩ := HC3.out.cells
  go_wp2_with fail
  refine (ct2.out _).mono ?_
  rintro e w4 ⟨rfl, hb⟩
  have HC4 := hidv (HC3.out.step hb)
  clear hb
  clear p0 p1 p2 p3 p4 p5 p6 p7 p8 p9 px py
  obtain ⟨⟨p0, p1, p2⟩, ⟨p3, p4, p5⟩, ⟨p6, p7, p8⟩, p9, px, py⟩ := HC4.out.cells
  go_wp2_with fail
  refine (ca.out _).mono ?_
  rintro e w5 ⟨rfl, hb⟩
  have HC5 := hidv (HC4.out.step hb)
  clear hb
  clear p0 p1 p2 p3 p4 p5 p6 p7 p8 p9 px py
  obtain ⟨⟨p0, p1, p2⟩, ⟨p3, p4, p5⟩, ⟨p6, p7, p8⟩, p9, px, py⟩ := HC5.out.cells
  obtain ⟨s0, s1, s2⟩ := HC5.out.sets
  go_wp2_with fail
  refine bodyPost_ret (v := .agg #[.int .i64 J1, .int .i64 J2, .string J3]) (by simp [results, Tryz.results24, go_sem, *]) rfl ?_
  exact ⟨by rw [VD.out], HC5.out.out _ _ _⟩
end Go.Proofs.YtjbkjeabobccaabGreatDoor
namespace Go.Proofs.YtjbkjeabobccaabGreatDoor
open Go.RowKit Go.Sort Go.Lib
set_option linter.unusedVariables false

theorem signed_bd (p : Int) (s : Bool) (hp : 0 ≤ p) : -9223372036854775807 ≤ (signed p s).1 ∧ (signed p s).1 ≤ 9223372036854775807 := by
  unfold signed
  split
  · cases s <;> simp <;> omega
  · simp
theorem near_pos (x y : Int) (hx : 0 ≤ x) (hy : 0 < y) : 0 ≤ near x y := by
  have := Int.ediv_nonneg hx (Int.le_of_lt hy)
  unfold near
  split <;> omega
theorem mulR_bd (a b : Int) : -9223372036854775807 ≤ (mulR a b).1 ∧ (mulR a b).1 ≤ 9223372036854775807 := by
  unfold mulR
  split
  · simp
  · exact signed_bd _ _ (near_pos _ _ (Int.mul_nonneg (by omega) (by omega)) (by omega))
theorem divR_bd (a b : Int) : -9223372036854775807 ≤ (divR a b).1 ∧ (divR a b).1 ≤ 9223372036854775807 := by
  unfold divR
  split
  · simp
  · split
    · simp
    · exact signed_bd _ _ (near_pos _ _ (by omega) (by omega))
theorem addR_bd (a b : Int) : -9223372036854775807 ≤ (addR a b).1 ∧ (addR a b).1 ≤ 9223372036854775807 := by
  unfold addR
  split
  · simp
  · simp; omega
theorem subR_bd (a b : Int) : -9223372036854775807 ≤ (subR a b).1 ∧ (subR a b).1 ≤ 9223372036854775807 := by
  unfold subR
  split
  · simp
  · simp; omega
theorem wk_mul : Wk mulR := ⟨fun x y => (mulR_bd x y).1, fun x y => (mulR_bd x y).2⟩
theorem wk_div : Wk divR := ⟨fun x y => (divR_bd x y).1, fun x y => (divR_bd x y).2⟩
theorem numI_bd2 (k n : Int) (t : ByteArray) (K N : Int) (T : ByteArray) (h : Ci k n t K N T) : -9223372036854775807 ≤ (numI K N T).1 ∧ (numI K N T).1 ≤ 9223372036854775807 := by
  unfold numI
  split
  · rename_i e
    have := cnt_num k n t h.cn.e e
    have := h.hi
    have := h.lo
    simp; omega
  · split
    · split
      · rename_i hp
        exact parseR_bd _ hp
      · simp
    · split
      · rename_i e
        have := cnt_truth k n t h.cn.e e
        simp; omega
      · split <;> simp
theorem numI_err (K N : Int) (T : ByteArray) (h : K ≠ 4) : (numI K N T).2 = 0 ∨ (numI K N T).2 = 3 := by
  unfold numI
  repeat' split
  all_goals first | (simp; done) | (exact absurd ‹_› h)
theorem ci_self {k n : Int} {t : ByteArray} {K N : Int} {T : ByteArray} (h : Ci k n t K N T) : Ci K N T K N T := by
  refine ⟨cn_self h.cn, ?_, ?_⟩
  · have h1 := h.cn.e
    unfold cnt at h1
    have := h.lo
    repeat' split at h1
    all_goals (simp at h1; omega)
  · have h1 := h.cn.e
    unfold cnt at h1
    have := h.hi
    repeat' split at h1
    all_goals (simp at h1; omega)

theorem printL_len2 (n : Int) (h1 : -9223372036854775807 ≤ n) (h2 : n ≤ 9223372036854775807) : (printL n).length ≤ 100 := by
  have a1 : (decDigits (n.natAbs / 1000000)).length ≤ 20 := by rw [decDigits_length]; exact nDigits_le20 _ (by omega)
  have a2 : (decDigits (1000000 + n.natAbs % 1000000)).length ≤ 20 := by rw [decDigits_length]; exact nDigits_le20 _ (by omega)
  have a3 : (fracL n.natAbs).length ≤ 20 := by
    unfold fracL
    refine Nat.le_trans (trimRightB_le _ _) ?_
    rw [List.length_drop]
    omega
  unfold printL
  rw [List.length_append, List.length_append]
  split <;> split <;> simp <;> omega
theorem txt_size {k n : Int} {t : ByteArray} {K N : Int} {T : ByteArray} (h : Ci k n t K N T) : (txtI K N T).1.size ≤ 1000 := by
  unfold txtI
  split
  · rename_i e
    have hn := cnt_num k n t h.cn.e e
    have h1 := printL_len2 N (by have := h.lo; omega) (by have := h.hi; omega)
    rw [Lib.size_eq]
    simp
    omega
  · split
    · exact cnt_size k n t h.cn.e
    · split
      · cases (N != 0) <;> decide
      · split <;> (show (⟨#[]⟩ : ByteArray).size ≤ 1000) <;> decide
theorem ne_list {op : ByteArray} {a : Array UInt8} {l : List UInt8} (h : op ≠ ⟨a⟩) (hl : a.toList = l) : (op.toList == l) = false := by
  cases e : (op.toList == l)
  · rfl
  · exfalso
    apply h
    have e2 : op.toList = l := by simpa using e
    rw [Lib.toList_data, ← hl] at e2
    cases op
    exact congrArg ByteArray.mk (Array.toList_inj.1 e2)
theorem both_Add {k1 n1 : Int} {t1 : ByteArray} {k2 n2 : Int} {t2 : ByteArray} {K1 N1 : Int} {T1 : ByteArray} {K2 N2 : Int} {T2 : ByteArray} (c1 : Ci k1 n1 t1 K1 N1 T1) (c2 : Ci k2 n2 t2 K2 N2 T2) :
    ∃ D : Int × Int × ByteArray,
      (∀ w, Env w → Calls Tryz.prog 23 #[.string ⟨#[43]⟩, .agg #[.int .i64 k1, .int .i64 n1, .string t1], .agg #[.int .i64 k2, .int .i64 n2, .string t2]] w fun e w' => e = .returned (.agg #[.int .i64 D.1, .int .i64 D.2.1, .string D.2.2]) ∧ Below w.heap.size w w') ∧
      (∀ w, Calls Tryz.prog 24 #[.string ⟨#[43]⟩, .agg #[.int .i64 k1, .int .i64 n1, .string t1], .agg #[.int .i64 k2, .int .i64 n2, .string t2]] w fun e w' => e = .returned (.agg #[.int .i64 D.1, .int .i64 D.2.1, .string D.2.2]) ∧ Below w.heap.size w w') := by
  obtain ⟨⟨X, E1⟩, hx⟩ : ∃ p, numI K1 N1 T1 = p := ⟨_, rfl⟩
  obtain ⟨⟨Y, E2⟩, hy⟩ : ∃ p, numI K2 N2 T2 = p := ⟨_, rfl⟩
  have bx := numI_bd2 _ _ _ _ _ _ c1
  have b_y := numI_bd2 _ _ _ _ _ _ c2
  have ex := numI_err K1 N1 T1
  have ey := numI_err K2 N2 T2
  rw [hx] at bx ex
  rw [hy] at b_y ey
  have hR : (addR X Y).1 ≠ -9223372036854775808 := by have := addR_bd X Y; omega
  refine ⟨_, fun w hE => work_Add k1 n1 t1 k2 n2 t2 K1 N1 T1 K2 N2 T2 c1.cn c2.cn X E1 Y E2 (addR X Y).1 (addR X Y).2 hx hy (fun _ _ w => ?_) w hE _ rfl, fun w => rwork_Add k1 n1 t1 k2 n2 t2 K1 N1 T1 K2 N2 T2 c1.cn c2.cn X E1 Y E2 (addR X Y).1 (addR X Y).2 hx hy ex ey hR (fun _ _ w => ?_) w _ rfl⟩
  · exact (add_any X Y w bx.2 b_y.2).mono (by rintro r w' ⟨rfl, rfl⟩; exact ⟨rfl, Below.refl _ _⟩)
  · exact workPlus X Y w (by have := bx; omega) (by have := bx; omega) (by have := b_y; omega) (by have := b_y; omega)
theorem both_Sub {k1 n1 : Int} {t1 : ByteArray} {k2 n2 : Int} {t2 : ByteArray} {K1 N1 : Int} {T1 : ByteArray} {K2 N2 : Int} {T2 : ByteArray} (c1 : Ci k1 n1 t1 K1 N1 T1) (c2 : Ci k2 n2 t2 K2 N2 T2) :
    ∃ D : Int × Int × ByteArray,
      (∀ w, Env w → Calls Tryz.prog 23 #[.string ⟨#[45]⟩, .agg #[.int .i64 k1, .int .i64 n1, .string t1], .agg #[.int .i64 k2, .int .i64 n2, .string t2]] w fun e w' => e = .returned (.agg #[.int .i64 D.1, .int .i64 D.2.1, .string D.2.2]) ∧ Below w.heap.size w w') ∧
      (∀ w, Calls Tryz.prog 24 #[.string ⟨#[45]⟩, .agg #[.int .i64 k1, .int .i64 n1, .string t1], .agg #[.int .i64 k2, .int .i64 n2, .string t2]] w fun e w' => e = .returned (.agg #[.int .i64 D.1, .int .i64 D.2.1, .string D.2.2]) ∧ Below w.heap.size w w') := by
  obtain ⟨⟨X, E1⟩, hx⟩ : ∃ p, numI K1 N1 T1 = p := ⟨_, rfl⟩
  obtain ⟨⟨Y, E2⟩, hy⟩ : ∃ p, numI K2 N2 T2 = p := ⟨_, rfl⟩
  have bx := numI_bd2 _ _ _ _ _ _ c1
  have b_y := numI_bd2 _ _ _ _ _ _ c2
  have ex := numI_err K1 N1 T1
  have ey := numI_err K2 N2 T2
  rw [hx] at bx ex
  rw [hy] at b_y ey
  have hR : (subR X Y).1 ≠ -9223372036854775808 := by have := subR_bd X Y; omega
  refine ⟨_, fun w hE => work_Sub k1 n1 t1 k2 n2 t2 K1 N1 T1 K2 N2 T2 c1.cn c2.cn X E1 Y E2 (subR X Y).1 (subR X Y).2 hx hy (fun _ _ w => ?_) w hE _ rfl, fun w => rwork_Sub k1 n1 t1 k2 n2 t2 K1 N1 T1 K2 N2 T2 c1.cn c2.cn X E1 Y E2 (subR X Y).1 (subR X Y).2 hx hy ex ey hR (fun _ _ w => ?_) w _ rfl⟩
  · exact (sub_any X Y w bx.2 b_y.2 (by have := bx; omega) (by have := b_y; omega)).mono (by rintro r w' ⟨rfl, rfl⟩; exact ⟨rfl, Below.refl _ _⟩)
  · exact workMinus X Y w (by have := bx; omega) (by have := bx; omega) (by have := b_y; omega) (by have := b_y; omega)
theorem both_Mul {k1 n1 : Int} {t1 : ByteArray} {k2 n2 : Int} {t2 : ByteArray} {K1 N1 : Int} {T1 : ByteArray} {K2 N2 : Int} {T2 : ByteArray} (c1 : Ci k1 n1 t1 K1 N1 T1) (c2 : Ci k2 n2 t2 K2 N2 T2) :
    ∃ D : Int × Int × ByteArray,
      (∀ w, Env w → Calls Tryz.prog 23 #[.string ⟨#[42]⟩, .agg #[.int .i64 k1, .int .i64 n1, .string t1], .agg #[.int .i64 k2, .int .i64 n2, .string t2]] w fun e w' => e = .returned (.agg #[.int .i64 D.1, .int .i64 D.2.1, .string D.2.2]) ∧ Below w.heap.size w w') ∧
      (∀ w, Calls Tryz.prog 24 #[.string ⟨#[42]⟩, .agg #[.int .i64 k1, .int .i64 n1, .string t1], .agg #[.int .i64 k2, .int .i64 n2, .string t2]] w fun e w' => e = .returned (.agg #[.int .i64 D.1, .int .i64 D.2.1, .string D.2.2]) ∧ Below w.heap.size w w') := by
  obtain ⟨⟨X, E1⟩, hx⟩ : ∃ p, numI K1 N1 T1 = p := ⟨_, rfl⟩
  obtain ⟨⟨Y, E2⟩, hy⟩ : ∃ p, numI K2 N2 T2 = p := ⟨_, rfl⟩
  have bx := numI_bd2 _ _ _ _ _ _ c1
  have b_y := numI_bd2 _ _ _ _ _ _ c2
  have ex := numI_err K1 N1 T1
  have ey := numI_err K2 N2 T2
  rw [hx] at bx ex
  rw [hy] at b_y ey
  have hR : (mulR X Y).1 ≠ -9223372036854775808 := by have := mulR_bd X Y; omega
  refine ⟨_, fun w hE => work_Mul k1 n1 t1 k2 n2 t2 K1 N1 T1 K2 N2 T2 c1.cn c2.cn X E1 Y E2 (mulR X Y).1 (mulR X Y).2 hx hy (fun _ _ w => ?_) w hE _ rfl, fun w => rwork_Mul k1 n1 t1 k2 n2 t2 K1 N1 T1 K2 N2 T2 c1.cn c2.cn X E1 Y E2 (mulR X Y).1 (mulR X Y).2 hx hy ex ey hR (fun _ _ w => ?_) w _ rfl⟩
  · exact (mul_any X Y w bx.2 b_y.2).mono (by rintro r w' ⟨rfl, n, rfl⟩; exact ⟨rfl, belN (Below.refl _ _) _⟩)
  · exact workTimes X Y w (by have := bx; omega) (by have := bx; omega) (by have := b_y; omega) (by have := b_y; omega)
theorem both_Div {k1 n1 : Int} {t1 : ByteArray} {k2 n2 : Int} {t2 : ByteArray} {K1 N1 : Int} {T1 : ByteArray} {K2 N2 : Int} {T2 : ByteArray} (c1 : Ci k1 n1 t1 K1 N1 T1) (c2 : Ci k2 n2 t2 K2 N2 T2) :
    ∃ D : Int × Int × ByteArray,
      (∀ w, Env w → Calls Tryz.prog 23 #[.string ⟨#[47]⟩, .agg #[.int .i64 k1, .int .i64 n1, .string t1], .agg #[.int .i64 k2, .int .i64 n2, .string t2]] w fun e w' => e = .returned (.agg #[.int .i64 D.1, .int .i64 D.2.1, .string D.2.2]) ∧ Below w.heap.size w w') ∧
      (∀ w, Calls Tryz.prog 24 #[.string ⟨#[47]⟩, .agg #[.int .i64 k1, .int .i64 n1, .string t1], .agg #[.int .i64 k2, .int .i64 n2, .string t2]] w fun e w' => e = .returned (.agg #[.int .i64 D.1, .int .i64 D.2.1, .string D.2.2]) ∧ Below w.heap.size w w') := by
  obtain ⟨⟨X, E1⟩, hx⟩ : ∃ p, numI K1 N1 T1 = p := ⟨_, rfl⟩
  obtain ⟨⟨Y, E2⟩, hy⟩ : ∃ p, numI K2 N2 T2 = p := ⟨_, rfl⟩
  have bx := numI_bd2 _ _ _ _ _ _ c1
  have b_y := numI_bd2 _ _ _ _ _ _ c2
  have ex := numI_err K1 N1 T1
  have ey := numI_err K2 N2 T2
  rw [hx] at bx ex
  rw [hy] at b_y ey
  have hR : (divR X Y).1 ≠ -9223372036854775808 := by have := divR_bd X Y; omega
  refine ⟨_, fun w hE => work_Div k1 n1 t1 k2 n2 t2 K1 N1 T1 K2 N2 T2 c1.cn c2.cn X E1 Y E2 (divR X Y).1 (divR X Y).2 hx hy (fun _ _ w => ?_) w hE _ rfl, fun w => rwork_Div k1 n1 t1 k2 n2 t2 K1 N1 T1 K2 N2 T2 c1.cn c2.cn X E1 Y E2 (divR X Y).1 (divR X Y).2 hx hy ex ey hR (fun _ _ w => ?_) w _ rfl⟩
  · exact (div_any X Y w bx.2 b_y.2).mono (by rintro r w' ⟨rfl, n, rfl⟩; exact ⟨rfl, belN (Below.refl _ _) _⟩)
  · exact workDiv X Y w (by have := bx; omega) (by have := bx; omega) (by have := b_y; omega) (by have := b_y; omega)
theorem both_Pow {k1 n1 : Int} {t1 : ByteArray} {k2 n2 : Int} {t2 : ByteArray} {K1 N1 : Int} {T1 : ByteArray} {K2 N2 : Int} {T2 : ByteArray} (c1 : Ci k1 n1 t1 K1 N1 T1) (c2 : Ci k2 n2 t2 K2 N2 T2) :
    ∃ D : Int × Int × ByteArray,
      (∀ w, Env w → Calls Tryz.prog 23 #[.string ⟨#[94]⟩, .agg #[.int .i64 k1, .int .i64 n1, .string t1], .agg #[.int .i64 k2, .int .i64 n2, .string t2]] w fun e w' => e = .returned (.agg #[.int .i64 D.1, .int .i64 D.2.1, .string D.2.2]) ∧ Below w.heap.size w w') ∧
      (∀ w, Calls Tryz.prog 24 #[.string ⟨#[94]⟩, .agg #[.int .i64 k1, .int .i64 n1, .string t1], .agg #[.int .i64 k2, .int .i64 n2, .string t2]] w fun e w' => e = .returned (.agg #[.int .i64 D.1, .int .i64 D.2.1, .string D.2.2]) ∧ Below w.heap.size w w') := by
  obtain ⟨⟨X, E1⟩, hx⟩ : ∃ p, numI K1 N1 T1 = p := ⟨_, rfl⟩
  obtain ⟨⟨Y, E2⟩, hy⟩ : ∃ p, numI K2 N2 T2 = p := ⟨_, rfl⟩
  have bx := numI_bd2 _ _ _ _ _ _ c1
  have b_y := numI_bd2 _ _ _ _ _ _ c2
  have ex := numI_err K1 N1 T1
  have ey := numI_err K2 N2 T2
  rw [hx] at bx ex
  rw [hy] at b_y ey
  have hR : (powR mulR divR X Y).1 ≠ -9223372036854775808 := by have := powR_bd wk_mul wk_div X Y; omega
  refine ⟨_, fun w hE => work_Pow k1 n1 t1 k2 n2 t2 K1 N1 T1 K2 N2 T2 c1.cn c2.cn X E1 Y E2 (powR mulR divR X Y).1 (powR mulR divR X Y).2 hx hy (fun _ _ w => ?_) w hE _ rfl, fun w => rwork_Pow k1 n1 t1 k2 n2 t2 K1 N1 T1 K2 N2 T2 c1.cn c2.cn X E1 Y E2 (powR mulR divR X Y).1 (powR mulR divR X Y).2 hx hy ex ey hR (fun _ _ w => ?_) w _ rfl⟩
  · exact power_any mulR divR wk_mul X Y (by have := b_y; omega) b_y.2 (fun x w h => mul_any x X w h bx.2) (fun x w h => div_any 1000000 x w (by omega) h) w
  · exact rpower_any mulR divR wk_mul X Y (by have := b_y; omega) b_y.2 (fun x w h1 h2 => workTimes x X w (by omega) h2 (by have := bx; omega) bx.2) (fun x w h1 h2 => workDiv 1000000 x w (by omega) (by omega) (by omega) h2) w
theorem both_cmp1 {k1 n1 : Int} {t1 : ByteArray} {k2 n2 : Int} {t2 : ByteArray} {K1 N1 : Int} {T1 : ByteArray} {K2 N2 : Int} {T2 : ByteArray} (c1 : Ci k1 n1 t1 K1 N1 T1) (c2 : Ci k2 n2 t2 K2 N2 T2) :
    ∃ D : Int × Int × ByteArray,
      (∀ w, Env w → Calls Tryz.prog 23 #[.string ⟨#[61]⟩, .agg #[.int .i64 k1, .int .i64 n1, .string t1], .agg #[.int .i64 k2, .int .i64 n2, .string t2]] w fun e w' => e = .returned (.agg #[.int .i64 D.1, .int .i64 D.2.1, .string D.2.2]) ∧ Below w.heap.size w w') ∧
      (∀ w, Calls Tryz.prog 24 #[.string ⟨#[61]⟩, .agg #[.int .i64 k1, .int .i64 n1, .string t1], .agg #[.int .i64 k2, .int .i64 n2, .string t2]] w fun e w' => e = .returned (.agg #[.int .i64 D.1, .int .i64 D.2.1, .string D.2.2]) ∧ Below w.heap.size w w') :=
  ⟨_, fun w _ => work_cmp1 k1 n1 t1 k2 n2 t2 K1 N1 T1 K2 N2 T2 c1.cn c2.cn w _ rfl, fun w => rwork_cmp1 k1 n1 t1 k2 n2 t2 K1 N1 T1 K2 N2 T2 c1.cn c2.cn w _ rfl⟩
theorem both_cmp2 {k1 n1 : Int} {t1 : ByteArray} {k2 n2 : Int} {t2 : ByteArray} {K1 N1 : Int} {T1 : ByteArray} {K2 N2 : Int} {T2 : ByteArray} (c1 : Ci k1 n1 t1 K1 N1 T1) (c2 : Ci k2 n2 t2 K2 N2 T2) :
    ∃ D : Int × Int × ByteArray,
      (∀ w, Env w → Calls Tryz.prog 23 #[.string ⟨#[60, 62]⟩, .agg #[.int .i64 k1, .int .i64 n1, .string t1], .agg #[.int .i64 k2, .int .i64 n2, .string t2]] w fun e w' => e = .returned (.agg #[.int .i64 D.1, .int .i64 D.2.1, .string D.2.2]) ∧ Below w.heap.size w w') ∧
      (∀ w, Calls Tryz.prog 24 #[.string ⟨#[60, 62]⟩, .agg #[.int .i64 k1, .int .i64 n1, .string t1], .agg #[.int .i64 k2, .int .i64 n2, .string t2]] w fun e w' => e = .returned (.agg #[.int .i64 D.1, .int .i64 D.2.1, .string D.2.2]) ∧ Below w.heap.size w w') :=
  ⟨_, fun w _ => work_cmp2 k1 n1 t1 k2 n2 t2 K1 N1 T1 K2 N2 T2 c1.cn c2.cn w _ rfl, fun w => rwork_cmp2 k1 n1 t1 k2 n2 t2 K1 N1 T1 K2 N2 T2 c1.cn c2.cn w _ rfl⟩
theorem both_cmp3 {k1 n1 : Int} {t1 : ByteArray} {k2 n2 : Int} {t2 : ByteArray} {K1 N1 : Int} {T1 : ByteArray} {K2 N2 : Int} {T2 : ByteArray} (c1 : Ci k1 n1 t1 K1 N1 T1) (c2 : Ci k2 n2 t2 K2 N2 T2) :
    ∃ D : Int × Int × ByteArray,
      (∀ w, Env w → Calls Tryz.prog 23 #[.string ⟨#[60]⟩, .agg #[.int .i64 k1, .int .i64 n1, .string t1], .agg #[.int .i64 k2, .int .i64 n2, .string t2]] w fun e w' => e = .returned (.agg #[.int .i64 D.1, .int .i64 D.2.1, .string D.2.2]) ∧ Below w.heap.size w w') ∧
      (∀ w, Calls Tryz.prog 24 #[.string ⟨#[60]⟩, .agg #[.int .i64 k1, .int .i64 n1, .string t1], .agg #[.int .i64 k2, .int .i64 n2, .string t2]] w fun e w' => e = .returned (.agg #[.int .i64 D.1, .int .i64 D.2.1, .string D.2.2]) ∧ Below w.heap.size w w') :=
  ⟨_, fun w _ => work_cmp3 k1 n1 t1 k2 n2 t2 K1 N1 T1 K2 N2 T2 c1.cn c2.cn w _ rfl, fun w => rwork_cmp3 k1 n1 t1 k2 n2 t2 K1 N1 T1 K2 N2 T2 c1.cn c2.cn w _ rfl⟩
theorem both_cmp4 {k1 n1 : Int} {t1 : ByteArray} {k2 n2 : Int} {t2 : ByteArray} {K1 N1 : Int} {T1 : ByteArray} {K2 N2 : Int} {T2 : ByteArray} (c1 : Ci k1 n1 t1 K1 N1 T1) (c2 : Ci k2 n2 t2 K2 N2 T2) :
    ∃ D : Int × Int × ByteArray,
      (∀ w, Env w → Calls Tryz.prog 23 #[.string ⟨#[60, 61]⟩, .agg #[.int .i64 k1, .int .i64 n1, .string t1], .agg #[.int .i64 k2, .int .i64 n2, .string t2]] w fun e w' => e = .returned (.agg #[.int .i64 D.1, .int .i64 D.2.1, .string D.2.2]) ∧ Below w.heap.size w w') ∧
      (∀ w, Calls Tryz.prog 24 #[.string ⟨#[60, 61]⟩, .agg #[.int .i64 k1, .int .i64 n1, .string t1], .agg #[.int .i64 k2, .int .i64 n2, .string t2]] w fun e w' => e = .returned (.agg #[.int .i64 D.1, .int .i64 D.2.1, .string D.2.2]) ∧ Below w.heap.size w w') :=
  ⟨_, fun w _ => work_cmp4 k1 n1 t1 k2 n2 t2 K1 N1 T1 K2 N2 T2 c1.cn c2.cn w _ rfl, fun w => rwork_cmp4 k1 n1 t1 k2 n2 t2 K1 N1 T1 K2 N2 T2 c1.cn c2.cn w _ rfl⟩
theorem both_cmp5 {k1 n1 : Int} {t1 : ByteArray} {k2 n2 : Int} {t2 : ByteArray} {K1 N1 : Int} {T1 : ByteArray} {K2 N2 : Int} {T2 : ByteArray} (c1 : Ci k1 n1 t1 K1 N1 T1) (c2 : Ci k2 n2 t2 K2 N2 T2) :
    ∃ D : Int × Int × ByteArray,
      (∀ w, Env w → Calls Tryz.prog 23 #[.string ⟨#[62]⟩, .agg #[.int .i64 k1, .int .i64 n1, .string t1], .agg #[.int .i64 k2, .int .i64 n2, .string t2]] w fun e w' => e = .returned (.agg #[.int .i64 D.1, .int .i64 D.2.1, .string D.2.2]) ∧ Below w.heap.size w w') ∧
      (∀ w, Calls Tryz.prog 24 #[.string ⟨#[62]⟩, .agg #[.int .i64 k1, .int .i64 n1, .string t1], .agg #[.int .i64 k2, .int .i64 n2, .string t2]] w fun e w' => e = .returned (.agg #[.int .i64 D.1, .int .i64 D.2.1, .string D.2.2]) ∧ Below w.heap.size w w') :=
  ⟨_, fun w _ => work_cmp5 k1 n1 t1 k2 n2 t2 K1 N1 T1 K2 N2 T2 c1.cn c2.cn w _ rfl, fun w => rwork_cmp5 k1 n1 t1 k2 n2 t2 K1 N1 T1 K2 N2 T2 c1.cn c2.cn w _ rfl⟩
theorem both_cmp6 {k1 n1 : Int} {t1 : ByteArray} {k2 n2 : Int} {t2 : ByteArray} {K1 N1 : Int} {T1 : ByteArray} {K2 N2 : Int} {T2 : ByteArray} (c1 : Ci k1 n1 t1 K1 N1 T1) (c2 : Ci k2 n2 t2 K2 N2 T2) :
    ∃ D : Int × Int × ByteArray,
      (∀ w, Env w → Calls Tryz.prog 23 #[.string ⟨#[62, 61]⟩, .agg #[.int .i64 k1, .int .i64 n1, .string t1], .agg #[.int .i64 k2, .int .i64 n2, .string t2]] w fun e w' => e = .returned (.agg #[.int .i64 D.1, .int .i64 D.2.1, .string D.2.2]) ∧ Below w.heap.size w w') ∧
      (∀ w, Calls Tryz.prog 24 #[.string ⟨#[62, 61]⟩, .agg #[.int .i64 k1, .int .i64 n1, .string t1], .agg #[.int .i64 k2, .int .i64 n2, .string t2]] w fun e w' => e = .returned (.agg #[.int .i64 D.1, .int .i64 D.2.1, .string D.2.2]) ∧ Below w.heap.size w w') :=
  ⟨_, fun w _ => work_cmp6 k1 n1 t1 k2 n2 t2 K1 N1 T1 K2 N2 T2 c1.cn c2.cn w _ rfl, fun w => rwork_cmp6 k1 n1 t1 k2 n2 t2 K1 N1 T1 K2 N2 T2 c1.cn c2.cn w _ rfl⟩
theorem both_join {k1 n1 : Int} {t1 : ByteArray} {k2 n2 : Int} {t2 : ByteArray} {K1 N1 : Int} {T1 : ByteArray} {K2 N2 : Int} {T2 : ByteArray} (c1 : Ci k1 n1 t1 K1 N1 T1) (c2 : Ci k2 n2 t2 K2 N2 T2) :
    ∃ D : Int × Int × ByteArray,
      (∀ w, Env w → Calls Tryz.prog 23 #[.string ⟨#[38]⟩, .agg #[.int .i64 k1, .int .i64 n1, .string t1], .agg #[.int .i64 k2, .int .i64 n2, .string t2]] w fun e w' => e = .returned (.agg #[.int .i64 D.1, .int .i64 D.2.1, .string D.2.2]) ∧ Below w.heap.size w w') ∧
      (∀ w, Calls Tryz.prog 24 #[.string ⟨#[38]⟩, .agg #[.int .i64 k1, .int .i64 n1, .string t1], .agg #[.int .i64 k2, .int .i64 n2, .string t2]] w fun e w' => e = .returned (.agg #[.int .i64 D.1, .int .i64 D.2.1, .string D.2.2]) ∧ Below w.heap.size w w') :=
  ⟨_, fun w hE => work_join k1 n1 t1 k2 n2 t2 K1 N1 T1 K2 N2 T2 c1.cn c2.cn (ci_self c1) (ci_self c2) ⟨txt_size c1, txt_size c2⟩ w hE _ rfl, fun w => rwork_join k1 n1 t1 k2 n2 t2 K1 N1 T1 K2 N2 T2 c1.cn c2.cn (ci_self c1) (ci_self c2) ⟨txt_size c1, txt_size c2⟩ w _ rfl⟩
theorem both_none (op : ByteArray) (f1 : NoCmp op) (f2 : NoCalc op) {k1 n1 : Int} {t1 : ByteArray} {k2 n2 : Int} {t2 : ByteArray} {K1 N1 : Int} {T1 : ByteArray} {K2 N2 : Int} {T2 : ByteArray} (c1 : Ci k1 n1 t1 K1 N1 T1) (c2 : Ci k2 n2 t2 K2 N2 T2) :
    ∃ D : Int × Int × ByteArray,
      (∀ w, Env w → Calls Tryz.prog 23 #[.string op, .agg #[.int .i64 k1, .int .i64 n1, .string t1], .agg #[.int .i64 k2, .int .i64 n2, .string t2]] w fun e w' => e = .returned (.agg #[.int .i64 D.1, .int .i64 D.2.1, .string D.2.2]) ∧ Below w.heap.size w w') ∧
      (∀ w, Calls Tryz.prog 24 #[.string op, .agg #[.int .i64 k1, .int .i64 n1, .string t1], .agg #[.int .i64 k2, .int .i64 n2, .string t2]] w fun e w' => e = .returned (.agg #[.int .i64 D.1, .int .i64 D.2.1, .string D.2.2]) ∧ Below w.heap.size w w') :=
  ⟨_, fun w _ => work_none op f1 f2 k1 n1 t1 k2 n2 t2 K1 N1 T1 K2 N2 T2 c1.cn c2.cn w _ rfl, fun w => rwork_none op k1 n1 t1 k2 n2 t2 K1 N1 T1 K2 N2 T2 c1.cn c2.cn f1 f2 w _ rfl⟩
theorem both_any (op : ByteArray) {k1 n1 : Int} {t1 : ByteArray} {k2 n2 : Int} {t2 : ByteArray} {K1 N1 : Int} {T1 : ByteArray} {K2 N2 : Int} {T2 : ByteArray} (c1 : Ci k1 n1 t1 K1 N1 T1) (c2 : Ci k2 n2 t2 K2 N2 T2) :
    ∃ D : Int × Int × ByteArray,
      (∀ w, Env w → Calls Tryz.prog 23 #[.string op, .agg #[.int .i64 k1, .int .i64 n1, .string t1], .agg #[.int .i64 k2, .int .i64 n2, .string t2]] w fun e w' => e = .returned (.agg #[.int .i64 D.1, .int .i64 D.2.1, .string D.2.2]) ∧ Below w.heap.size w w') ∧
      (∀ w, Calls Tryz.prog 24 #[.string op, .agg #[.int .i64 k1, .int .i64 n1, .string t1], .agg #[.int .i64 k2, .int .i64 n2, .string t2]] w fun e w' => e = .returned (.agg #[.int .i64 D.1, .int .i64 D.2.1, .string D.2.2]) ∧ Below w.heap.size w w') := by
  by_cases o0 : op = ⟨#[43]⟩
  · subst o0; exact both_Add c1 c2
  by_cases o1 : op = ⟨#[45]⟩
  · subst o1; exact both_Sub c1 c2
  by_cases o2 : op = ⟨#[42]⟩
  · subst o2; exact both_Mul c1 c2
  by_cases o3 : op = ⟨#[47]⟩
  · subst o3; exact both_Div c1 c2
  by_cases o4 : op = ⟨#[94]⟩
  · subst o4; exact both_Pow c1 c2
  by_cases o5 : op = ⟨#[38]⟩
  · subst o5; exact both_join c1 c2
  by_cases o6 : op = ⟨#[61]⟩
  · subst o6; exact both_cmp1 c1 c2
  by_cases o7 : op = ⟨#[60, 62]⟩
  · subst o7; exact both_cmp2 c1 c2
  by_cases o8 : op = ⟨#[60]⟩
  · subst o8; exact both_cmp3 c1 c2
  by_cases o9 : op = ⟨#[60, 61]⟩
  · subst o9; exact both_cmp4 c1 c2
  by_cases o10 : op = ⟨#[62]⟩
  · subst o10; exact both_cmp5 c1 c2
  by_cases o11 : op = ⟨#[62, 61]⟩
  · subst o11; exact both_cmp6 c1 c2
  exact both_none op ⟨ne_list o6 rfl, ne_list o7 rfl, ne_list o8 rfl, ne_list o9 rfl, ne_list o10 rfl, ne_list o11 rfl⟩ ⟨ne_list o0 rfl, ne_list o1 rfl, ne_list o2 rfl, ne_list o3 rfl, ne_list o4 rfl, ne_list o5 rfl⟩ c1 c2
end Go.Proofs.YtjbkjeabobccaabGreatDoor
namespace Go.Proofs.YtjbkjeabobccaabGreatDoor
open Go.RowKit Go.Sort Go.Lib
set_option linter.unusedVariables false

set_option maxHeartbeats 800000 in
theorem given4_any (k n : Int) (t : ByteArray) (w : World) : Calls Tryz.prog 14 #[.agg #[.int .i64 k, .int .i64 n, .string t]] w fun e w' => e = .returned (.agg #[.int .i64 k, .int .i64 n, .string t]) ∧ Below w.heap.size w w' := by
  go_enter Tryz.func14, Tryz.ntmps14
  go_wp2
  refine bodyPost_ret (v := .agg #[.int .i64 k, .int .i64 n, .string t]) (by simp [results, Tryz.results14, go_sem]) rfl ?_
  exact ⟨rfl, by go_grown⟩
set_option maxHeartbeats 800000 in
theorem same4_it (k n : Int) (t : ByteArray) (w : World) : Calls Tryz.prog 10 #[.agg #[.int .i64 k, .int .i64 n, .string t], .agg #[.int .i64 k, .int .i64 n, .string t]] w fun e w' => e = .returned (.bool true) ∧ Below w.heap.size w w' := by
  go_enter Tryz.func10, Tryz.ntmps10
  go_wp2
  go_ret
  exact ⟨rfl, by go_grown⟩
/-- Two boxes of the law's, and one more. -/
structure Thr (w wx : World) (T U : TypeId) (a1 a2 a3 b1 b2 b3 : Value) (b : Nat) (p q r : Value) : Prop where
  two : TwoB w wx T a1 a2 a3 b1 b2 b3
  c : wx.heap[b]? = some (.cells #[p, q, r] U (0, 0))
  far : w.heap.size + 2 ≤ b
theorem Thr.step {w W w1 : World} {T U : TypeId} {a1 a2 a3 b1 b2 b3 : Value} {b : Nat} {p q r : Value} (h : Thr w W T U a1 a2 a3 b1 b2 b3 b p q r) (hb : Below W.heap.size W w1) : Thr w w1 T U a1 a2 a3 b1 b2 b3 b p q r :=
  ⟨h.two.step hb, by rw [hb.block _ (lt_blk h.c)]; exact h.c, h.far⟩
theorem TwoB.made {w W : World} {T U : TypeId} {a1 a2 a3 b1 b2 b3 : Value} (h : TwoB w W T a1 a2 a3 b1 b2 b3) : Thr w (W.alloc (.cells #[.int .i64 0, .int .i64 0, .string ⟨#[]⟩] U)) T U a1 a2 a3 b1 b2 b3 W.heap.size (.int .i64 0) (.int .i64 0) (.string ⟨#[]⟩) :=
  ⟨h.step ((Below.refl _ _).alloc (Nat.le_refl _) _), by show (W.heap.push _)[_]? = _; rw [Array.getElem?_push_size], by have := lt_blk h.b; omega⟩
theorem Thr.set {w W : World} {T U : TypeId} {a1 a2 a3 b1 b2 b3 : Value} {b : Nat} {p q r : Value} (h : Thr w W T U a1 a2 a3 b1 b2 b3 b p q r) (u v t : Value) : Thr w (((W.setCell ⟨b, 0, none⟩ u).setCell ⟨b, 1, none⟩ v).setCell ⟨b, 2, none⟩ t) T U a1 a2 a3 b1 b2 b3 b u v t :=
  ⟨⟨far_set (by have := h.far; omega) h.two.a, far_set (by have := h.far; omega) h.two.b, ((h.two.low.setCell (by have := h.far; simp; omega) _).setCell (by have := h.far; simp; omega) _).setCell (by have := h.far; simp; omega) _⟩, set3_2 (set3_1 (set3_0 h.c)), h.far⟩

set_option maxHeartbeats 8000000 in
set_option maxRecDepth 100000 in
theorem valueWorks_walk0 (op : ByteArray) (k1 n1 : Int) (t1 : ByteArray) (k2 n2 : Int) (t2 : ByteArray) (D1 D2 : Int) (D3 : ByteArray)
    (hv : ∀ w, Env w → Calls Tryz.prog 23 #[.string op, .agg #[.int .i64 k1, .int .i64 n1, .string t1], .agg #[.int .i64 k2, .int .i64 n2, .string t2]] w fun e w' => e = .returned (.agg #[.int .i64 D1, .int .i64 D2, .string D3]) ∧ Below w.heap.size w w')
    (hr : ∀ w, Calls Tryz.prog 24 #[.string op, .agg #[.int .i64 k1, .int .i64 n1, .string t1], .agg #[.int .i64 k2, .int .i64 n2, .string t2]] w fun e w' => e = .returned (.agg #[.int .i64 D1, .int .i64 D2, .string D3]) ∧ Below w.heap.size w w')
    (w : World) (hE : Env w) :
    Calls Tryz.prog 6 #[.string op, .agg #[.int .i64 k1, .int .i64 n1, .string t1], .agg #[.int .i64 k2, .int .i64 n2, .string t2]] w fun e w' => e = .returned (.bool true) ∧ Below w.heap.size w w' := by
  have cv := hidv hv
  have cr := hidv hr
  have cg1 := hidv (fun w => given4_any k1 n1 t1 w)
  have cg2 := hidv (fun w => given4_any k2 n2 t2 w)
  have csm := hidv (fun w => same4_it D1 D2 D3 w)
  have al := hidv alive2_any
  have HE := hidv hE
  have HX := hidv (twoB_new w 25 (.int .i64 k1) (.int .i64 n1) (.string t1) (.int .i64 k2) (.int .i64 n2) (.string t2) ((w.alloc (.cells #[.int .i64 k1, .int .i64 n1, .string t1] 25)).alloc (.cells #[.int .i64 k2, .int .i64 n2, .string t2] 25)) rfl (by go_grown))
  clear hv hr hE
  go_enter Tryz.func6, Tryz.ntmps6
  go_upto_region 1 with fail
  generalize ((w.alloc (.cells #[.int .i64 k1, .int .i64 n1, .string t1] 25)).alloc (.cells #[.int .i64 k2, .int .i64 n2, .string t2] 25)) = wa at HX ⊢
  go_cut [7] from 9 (fun p wx => ∃ b : Nat, p = .pointer (some ⟨b, 0, none⟩) ∧ Hid (Thr w wx 25 23 (.int .i64 k1) (.int .i64 n1) (.string t1) (.int .i64 k2) (.int .i64 n2) (.string t2) b (.int .i64 D1) (.int .i64 D2) (.string D3)))
  case first =>
    clear cr csm al
    have HX0 := hidv (show TwoB w wa.drew 25 (.int .i64 k1) (.int .i64 n1) (.string t1) (.int .i64 k2) (.int .i64 n2) (.string t2) from ⟨HX.out.a, HX.out.b, HX.out.low.drew⟩)
    clear HX
    refine wp_region_held_drew (S := (fun w' => TwoB w w' 25 (.int .i64 k1) (.int .i64 n1) (.string t1) (.int .i64 k2) (.int .i64 n2) (.string t2))) (by kernel_rfl) HX0.out (fun hHeld => ?_)
    generalize wa.drew = wd at HX0 hHeld ⊢
    refine wpAnyH_take (i := 0) (oi := ({ dst := some 9, op := Op.move (Operand.tmp 0), type := 9, pos := "law.go:47", after := #[], guard := none } : Oper)) (v := .string op) rfl (by kernel_rfl) (by kernel_rfl) (by kernel_rfl) (fun _ _ _ h => h) (Or.inl ⟨by rfl, fun w9 hSw => ?_⟩) (by assumption) ?_
    · go_simp <;> with_reducible rfl
    try simp only [Act.put, List.setIfInBounds_toArray, List.set_cons_zero, List.set_cons_succ]
    refine wpAnyH_take (i := 1) (oi := ({ dst := some 10, op := Op.load 25 (Operand.tmp 4), type := 25, pos := "law.go:47", after := #[], guard := none } : Oper)) (v := .agg #[.int .i64 k1, .int .i64 n1, .string t1]) rfl (by kernel_rfl) (by kernel_rfl) (by kernel_rfl) (fun _ _ _ h => h) (Or.inl ⟨by rfl, fun w9 hSw => ?_⟩) (by assumption) ?_
    · obtain ⟨x0, x1, x2, x3, x4, x5⟩ := three (show TwoB _ _ _ _ _ _ _ _ _ from hSw).a; go_simp <;> with_reducible rfl
    try simp only [Act.put, List.setIfInBounds_toArray, List.set_cons_zero, List.set_cons_succ]
    refine wpAnyH_take (i := 3) (oi := ({ dst := some 12, op := Op.load 25 (Operand.tmp 5), type := 25, pos := "law.go:47", after := #[], guard := none } : Oper)) (v := .agg #[.int .i64 k2, .int .i64 n2, .string t2]) rfl (by kernel_rfl) (by kernel_rfl) (by kernel_rfl) (fun _ _ _ h => h) (Or.inl ⟨by rfl, fun w9 hSw => ?_⟩) (by assumption) ?_
    · obtain ⟨x0, x1, x2, x3, x4, x5⟩ := three (show TwoB _ _ _ _ _ _ _ _ _ from hSw).b; go_simp <;> with_reducible rfl
    try simp only [Act.put, List.setIfInBounds_toArray, List.set_cons_zero, List.set_cons_succ]
    refine wpAnyH_ready (rs := [2, 6]) (by kernel_rfl) (by simp) ?_
    refine AllReadyH.cons (o := ({ dst := some 11, op := Op.call { callee := Callee.value (Operand.func 14), args := #[Operand.tmp 10], argTypes := #[25] }, type := 23, pos := "law.go:47", after := #[{ on := 1, ground := Ground.data }], guard := none } : Oper)) rfl (fun K hK => ?_) (AllReadyH.cons (o := ({ dst := some 7, op := Op.alloc 23, type := 0, pos := "law.go:47", after := #[], guard := none } : Oper)) rfl (fun K hK => ?_) AllReadyH.nil)
    · go_simp
      go_wp2_with (go_at_call 14; refine (cg1.out _).mono ?_; rintro e w0 ⟨rfl, hb0⟩; have H0 := hidv (HX0.out.step hb0); clear hb0)
      refine hK.out _ _ H0.out (fun hHeld => ?_)
      clear hK K
      try simp only [Act.put, List.setIfInBounds_toArray, List.set_cons_zero, List.set_cons_succ]
      refine wpAnyH_ready (rs := [4, 6]) (by kernel_rfl) (by simp) ?_
      refine AllReadyH.cons (o := ({ dst := some 13, op := Op.call { callee := Callee.value (Operand.func 14), args := #[Operand.tmp 12], argTypes := #[25] }, type := 23, pos := "law.go:47", after := #[{ on := 3, ground := Ground.data }, { on := 2, ground := Ground.chain }], guard := none } : Oper)) rfl (fun K hK => ?_) (AllReadyH.cons (o := ({ dst := some 7, op := Op.alloc 23, type := 0, pos := "law.go:47", after := #[], guard := none } : Oper)) rfl (fun K hK => ?_) AllReadyH.nil)
      · go_simp
        go_wp2_with (go_at_call 14; refine (cg2.out _).mono ?_; rintro e w1 ⟨rfl, hb1⟩; have H1 := hidv (H0.out.step hb1); clear hb1)
        refine hK.out _ _ H1.out (fun hHeld => ?_)
        clear hK K
        try simp only [Act.put, List.setIfInBounds_toArray, List.set_cons_zero, List.set_cons_succ]
        refine wpAnyH_ready (rs := [5, 6]) (by kernel_rfl) (by simp) ?_
        refine AllReadyH.cons (o := ({ dst := some 14, op := Op.call { callee := Callee.value (Operand.func 23), args := #[Operand.tmp 9, Operand.tmp 11, Operand.tmp 13], argTypes := #[9, 23, 23] }, type := 23, pos := "law.go:47", after := #[{ on := 0, ground := Ground.data }, { on := 2, ground := Ground.data }, { on := 4, ground := Ground.data }, { on := 4, ground := Ground.chain }], guard := none } : Oper)) rfl (fun K hK => ?_) (AllReadyH.cons (o := ({ dst := some 7, op := Op.alloc 23, type := 0, pos := "law.go:47", after := #[], guard := none } : Oper)) rfl (fun K hK => ?_) AllReadyH.nil)
        · go_simp
          go_wp2_with (go_at_call 23; refine (cv.out _ (HE.out.step H1.out.low)).mono ?_; rintro e w2 ⟨rfl, hb2⟩; have H2 := hidv (H1.out.step hb2); clear hb2)
          refine hK.out _ _ H2.out (fun hHeld => ?_)
          clear hK K
          try simp only [Act.put, List.setIfInBounds_toArray, List.set_cons_zero, List.set_cons_succ]
          refine wpAnyH_ready (rs := [6]) (by kernel_rfl) (by simp) ?_
          refine AllReadyH.cons (o := ({ dst := some 7, op := Op.alloc 23, type := 0, pos := "law.go:47", after := #[], guard := none } : Oper)) rfl (fun K hK => ?_) AllReadyH.nil
          go_simp
          have H3 := hidv (H2.out.made (U := 23))
          refine hK.out _ _ H3.out.two (fun hHeld => ?_)
          clear hK K
          try simp only [Act.put, List.setIfInBounds_toArray, List.set_cons_zero, List.set_cons_succ]
          generalize (w2.alloc (.cells #[.int .i64 0, .int .i64 0, .string ⟨#[]⟩] 23)) = w3 at H3 hHeld ⊢
          refine wpAnyH_ready (rs := [7]) (by kernel_rfl) (by simp) ?_
          refine AllReadyH.cons (o := ({ dst := none, op := Op.store 23 (Operand.tmp 7) (Operand.tmp 14), type := 0, pos := "law.go:47", after := #[{ on := 6, ground := Ground.data }, { on := 5, ground := Ground.data }, { on := 5, ground := Ground.chain }, { on := 0, ground := Ground.phase }, { on := 1, ground := Ground.phase }, { on := 2, ground := Ground.phase }, { on := 3, ground := Ground.phase }, { on := 4, ground := Ground.phase }, { on := 5, ground := Ground.phase }, { on := 6, ground := Ground.phase }], guard := none } : Oper)) rfl (fun K hK => ?_) AllReadyH.nil
          obtain ⟨y0, y1, y2, y3, y4, y5⟩ := three H3.out.c
          have H4 := hidv (H3.out.set (.int .i64 D1) (.int .i64 D2) (.string D3))
          go_simp
          refine hK.out _ _ H4.out.two (fun hHeld => ?_)
          clear hK K
          try simp only [Act.put, List.setIfInBounds_toArray, List.set_cons_zero, List.set_cons_succ]
          refine wpAnyH_done (by kernel_rfl) ?_ _
          go_wp2_with fail
          go_meet
          exact ⟨_, rfl, H4⟩
        · go_simp
          have H5 := hidv (H1.out.made (U := 23))
          refine hK.out _ _ H5.out.two (fun hHeld => ?_)
          clear hK K
          try simp only [Act.put, List.setIfInBounds_toArray, List.set_cons_zero, List.set_cons_succ]
          generalize (w1.alloc (.cells #[.int .i64 0, .int .i64 0, .string ⟨#[]⟩] 23)) = w5 at H5 hHeld ⊢
          refine wpAnyH_ready (rs := [5]) (by kernel_rfl) (by simp) ?_
          refine AllReadyH.cons (o := ({ dst := some 14, op := Op.call { callee := Callee.value (Operand.func 23), args := #[Operand.tmp 9, Operand.tmp 11, Operand.tmp 13], argTypes := #[9, 23, 23] }, type := 23, pos := "law.go:47", after := #[{ on := 0, ground := Ground.data }, { on := 2, ground := Ground.data }, { on := 4, ground := Ground.data }, { on := 4, ground := Ground.chain }], guard := none } : Oper)) rfl (fun K hK => ?_) AllReadyH.nil
          go_simp
          go_wp2_with (go_at_call 23; refine (cv.out _ (HE.out.step H5.out.two.low)).mono ?_; rintro e w6 ⟨rfl, hb6⟩; have H6 := hidv (H5.out.step hb6); clear hb6)
          refine hK.out _ _ H6.out.two (fun hHeld => ?_)
          clear hK K
          try simp only [Act.put, List.setIfInBounds_toArray, List.set_cons_zero, List.set_cons_succ]
          refine wpAnyH_ready (rs := [7]) (by kernel_rfl) (by simp) ?_
          refine AllReadyH.cons (o := ({ dst := none, op := Op.store 23 (Operand.tmp 7) (Operand.tmp 14), type := 0, pos := "law.go:47", after := #[{ on := 6, ground := Ground.data }, { on := 5, ground := Ground.data }, { on := 5, ground := Ground.chain }, { on := 0, ground := Ground.phase }, { on := 1, ground := Ground.phase }, { on := 2, ground := Ground.phase }, { on := 3, ground := Ground.phase }, { on := 4, ground := Ground.phase }, { on := 5, ground := Ground.phase }, { on := 6, ground := Ground.phase }], guard := none } : Oper)) rfl (fun K hK => ?_) AllReadyH.nil
          obtain ⟨y0, y1, y2, y3, y4, y5⟩ := three H6.out.c
          have H7 := hidv (H6.out.set (.int .i64 D1) (.int .i64 D2) (.string D3))
          go_simp
          refine hK.out _ _ H7.out.two (fun hHeld => ?_)
          clear hK K
          try simp only [Act.put, List.setIfInBounds_toArray, List.set_cons_zero, List.set_cons_succ]
          refine wpAnyH_done (by kernel_rfl) ?_ _
          go_wp2_with fail
          go_meet
          exact ⟨_, rfl, H7⟩
      · go_simp
        have H8 := hidv (H0.out.made (U := 23))
        refine hK.out _ _ H8.out.two (fun hHeld => ?_)
        clear hK K
        try simp only [Act.put, List.setIfInBounds_toArray, List.set_cons_zero, List.set_cons_succ]
        generalize (w0.alloc (.cells #[.int .i64 0, .int .i64 0, .string ⟨#[]⟩] 23)) = w8 at H8 hHeld ⊢
        refine wpAnyH_ready (rs := [4]) (by kernel_rfl) (by simp) ?_
        refine AllReadyH.cons (o := ({ dst := some 13, op := Op.call { callee := Callee.value (Operand.func 14), args := #[Operand.tmp 12], argTypes := #[25] }, type := 23, pos := "law.go:47", after := #[{ on := 3, ground := Ground.data }, { on := 2, ground := Ground.chain }], guard := none } : Oper)) rfl (fun K hK => ?_) AllReadyH.nil
        go_simp
        go_wp2_with (go_at_call 14; refine (cg2.out _).mono ?_; rintro e w9 ⟨rfl, hb9⟩; have H9 := hidv (H8.out.step hb9); clear hb9)
        refine hK.out _ _ H9.out.two (fun hHeld => ?_)
        clear hK K
        try simp only [Act.put, List.setIfInBounds_toArray, List.set_cons_zero, List.set_cons_succ]
        refine wpAnyH_ready (rs := [5]) (by kernel_rfl) (by simp) ?_
        refine AllReadyH.cons (o := ({ dst := some 14, op := Op.call { callee := Callee.value (Operand.func 23), args := #[Operand.tmp 9, Operand.tmp 11, Operand.tmp 13], argTypes := #[9, 23, 23] }, type := 23, pos := "law.go:47", after := #[{ on := 0, ground := Ground.data }, { on := 2, ground := Ground.data }, { on := 4, ground := Ground.data }, { on := 4, ground := Ground.chain }], guard := none } : Oper)) rfl (fun K hK => ?_) AllReadyH.nil
        go_simp
        go_wp2_with (go_at_call 23; refine (cv.out _ (HE.out.step H9.out.two.low)).mono ?_; rintro e w10 ⟨rfl, hb10⟩; have H10 := hidv (H9.out.step hb10); clear hb10)
        refine hK.out _ _ H10.out.two (fun hHeld => ?_)
        clear hK K
        try simp only [Act.put, List.setIfInBounds_toArray, List.set_cons_zero, List.set_cons_succ]
        refine wpAnyH_ready (rs := [7]) (by kernel_rfl) (by simp) ?_
        refine AllReadyH.cons (o := ({ dst := none, op := Op.store 23 (Operand.tmp 7) (Operand.tmp 14), type := 0, pos := "law.go:47", after := #[{ on := 6, ground := Ground.data }, { on := 5, ground := Ground.data }, { on := 5, ground := Ground.chain }, { on := 0, ground := Ground.phase }, { on := 1, ground := Ground.phase }, { on := 2, ground := Ground.phase }, { on := 3, ground := Ground.phase }, { on := 4, ground := Ground.phase }, { on := 5, ground := Ground.phase }, { on := 6, ground := Ground.phase }], guard := none } : Oper)) rfl (fun K hK => ?_) AllReadyH.nil
        obtain ⟨y0, y1, y2, y3, y4, y5⟩ := three H10.out.c
        have H11 := hidv (H10.out.set (.int .i64 D1) (.int .i64 D2) (.string D3))
        go_simp
        refine hK.out _ _ H11.out.two (fun hHeld => ?_)
        clear hK K
        try simp only [Act.put, List.setIfInBounds_toArray, List.set_cons_zero, List.set_cons_succ]
        refine wpAnyH_done (by kernel_rfl) ?_ _
        go_wp2_with fail
        go_meet
        exact ⟨_, rfl, H11⟩
    · go_simp
      have H12 := hidv (HX0.out.made (U := 23))
      refine hK.out _ _ H12.out.two (fun hHeld => ?_)
      clear hK K
      try simp only [Act.put, List.setIfInBounds_toArray, List.set_cons_zero, List.set_cons_succ]
      generalize (wd.alloc (.cells #[.int .i64 0, .int .i64 0, .string ⟨#[]⟩] 23)) = w12 at H12 hHeld ⊢
      refine wpAnyH_ready (rs := [2]) (by kernel_rfl) (by simp) ?_
      refine AllReadyH.cons (o := ({ dst := some 11, op := Op.call { callee := Callee.value (Operand.func 14), args := #[Operand.tmp 10], argTypes := #[25] }, type := 23, pos := "law.go:47", after := #[{ on := 1, ground := Ground.data }], guard := none } : Oper)) rfl (fun K hK => ?_) AllReadyH.nil
      go_simp
      go_wp2_with (go_at_call 14; refine (cg1.out _).mono ?_; rintro e w13 ⟨rfl, hb13⟩; have H13 := hidv (H12.out.step hb13); clear hb13)
      refine hK.out _ _ H13.out.two (fun hHeld => ?_)
      clear hK K
      try simp only [Act.put, List.setIfInBounds_toArray, List.set_cons_zero, List.set_cons_succ]
      refine wpAnyH_ready (rs := [4]) (by kernel_rfl) (by simp) ?_
      refine AllReadyH.cons (o := ({ dst := some 13, op := Op.call { callee := Callee.value (Operand.func 14), args := #[Operand.tmp 12], argTypes := #[25] }, type := 23, pos := "law.go:47", after := #[{ on := 3, ground := Ground.data }, { on := 2, ground := Ground.chain }], guard := none } : Oper)) rfl (fun K hK => ?_) AllReadyH.nil
      go_simp
      go_wp2_with (go_at_call 14; refine (cg2.out _).mono ?_; rintro e w14 ⟨rfl, hb14⟩; have H14 := hidv (H13.out.step hb14); clear hb14)
      refine hK.out _ _ H14.out.two (fun hHeld => ?_)
      clear hK K
      try simp only [Act.put, List.setIfInBounds_toArray, List.set_cons_zero, List.set_cons_succ]
      refine wpAnyH_ready (rs := [5]) (by kernel_rfl) (by simp) ?_
      refine AllReadyH.cons (o := ({ dst := some 14, op := Op.call { callee := Callee.value (Operand.func 23), args := #[Operand.tmp 9, Operand.tmp 11, Operand.tmp 13], argTypes := #[9, 23, 23] }, type := 23, pos := "law.go:47", after := #[{ on := 0, ground := Ground.data }, { on := 2, ground := Ground.data }, { on := 4, ground := Ground.data }, { on := 4, ground := Ground.chain }], guard := none } : Oper)) rfl (fun K hK => ?_) AllReadyH.nil
      go_simp
      go_wp2_with (go_at_call 23; refine (cv.out _ (HE.out.step H14.out.two.low)).mono ?_; rintro e w15 ⟨rfl, hb15⟩; have H15 := hidv (H14.out.step hb15); clear hb15)
      refine hK.out _ _ H15.out.two (fun hHeld => ?_)
      clear hK K
      try simp only [Act.put, List.setIfInBounds_toArray, List.set_cons_zero, List.set_cons_succ]
      refine wpAnyH_ready (rs := [7]) (by kernel_rfl) (by simp) ?_
      refine AllReadyH.cons (o := ({ dst := none, op := Op.store 23 (Operand.tmp 7) (Operand.tmp 14), type := 0, pos := "law.go:47", after := #[{ on := 6, ground := Ground.data }, { on := 5, ground := Ground.data }, { on := 5, ground := Ground.chain }, { on := 0, ground := Ground.phase }, { on := 1, ground := Ground.phase }, { on := 2, ground := Ground.phase }, { on := 3, ground := Ground.phase }, { on := 4, ground := Ground.phase }, { on := 5, ground := Ground.phase }, { on := 6, ground := Ground.phase }], guard := none } : Oper)) rfl (fun K hK => ?_) AllReadyH.nil
      obtain ⟨y0, y1, y2, y3, y4, y5⟩ := three H15.out.c
      have H16 := hidv (H15.out.set (.int .i64 D1) (.int .i64 D2) (.string D3))
      go_simp
      refine hK.out _ _ H16.out.two (fun hHeld => ?_)
      clear hK K
      try simp only [Act.put, List.setIfInBounds_toArray, List.set_cons_zero, List.set_cons_succ]
      refine wpAnyH_done (by kernel_rfl) ?_ _
      go_wp2_with fail
      go_meet
      exact ⟨_, rfl, H16⟩
  case rest =>
  obtain ⟨b, rfl, HC⟩ := hcut
  clear HX cv cg1 cg2
  obtain ⟨⟨x0, x1, x2⟩, ⟨x3, x4, x5⟩, ⟨x6, x7, x8⟩, x9, xx, xy⟩ := HC.out.two.cells
  go_wp2_with fail
  refine (cr.out _).mono ?_
  rintro e w2 ⟨rfl, hb2⟩
  have H2 := hidv ((HC.out.step hb2).step ((Below.refl _ w2).alloc (Nat.le_refl _) (.cells #[.int .i64 D1, .int .i64 D2, .string D3] 25)))
  have Y2 := hidv (oneB_new w2 25 (.int .i64 D1) (.int .i64 D2) (.string D3))
  clear hb2 x0 x1 x2 x3 x4 x5 x6 x7 x8 x9 xx xy
  obtain ⟨v0, v1, v2, v3, v4, v5⟩ := three H2.out.c
  obtain ⟨y0, y1, y2, y3, y4, y5⟩ := three Y2.out.a
  go_wp2_with fail
  refine (csm.out _).mono ?_
  rintro e w3 ⟨rfl, hb3⟩
  have B3 := hidv (key2v H2.out.two.low hb3)
  go_wp2_with fail
  refine (al.out _ (HE.out.step B3.out)).mono ?_
  rintro e w4 ⟨rfl, hb4⟩
  have B4 := hidv (key2v B3.out hb4)
  go_wp2_with fail
  go_ret
  exact ⟨rfl, B4.out⟩

theorem valueWorks_walk (op : ByteArray) (k1 n1 : Int) (t1 : ByteArray) (k2 n2 : Int) (t2 : ByteArray) (w : World) (hE : Env w) (a1 : -9223372036854775808 ≤ n1) (a2 : n1 ≤ 9223372036854775807) (a3 : -9223372036854775808 ≤ n2) (a4 : n2 ≤ 9223372036854775807) :
    Calls Tryz.prog 6 #[.string op, .agg #[.int .i64 k1, .int .i64 n1, .string t1], .agg #[.int .i64 k2, .int .i64 n2, .string t2]] w fun e w' => e = .returned (.bool true) ∧ Below w.heap.size w w' := by
  obtain ⟨⟨K1, N1, T1⟩, e1⟩ : ∃ c, cnt k1 n1 t1 = c := ⟨_, rfl⟩
  obtain ⟨⟨K2, N2, T2⟩, e2⟩ : ∃ c, cnt k2 n2 t2 = c := ⟨_, rfl⟩
  obtain ⟨D, hv, hr⟩ := both_any op (⟨⟨e1⟩, a1, a2⟩ : Ci k1 n1 t1 K1 N1 T1) (⟨⟨e2⟩, a3, a4⟩ : Ci k2 n2 t2 K2 N2 T2)
  exact valueWorks_walk0 op k1 n1 t1 k2 n2 t2 D.1 D.2.1 D.2.2 hv hr w hE
end Go.Proofs.YtjbkjeabobccaabGreatDoor
