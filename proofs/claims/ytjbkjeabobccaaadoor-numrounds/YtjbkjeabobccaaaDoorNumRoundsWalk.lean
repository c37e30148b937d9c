import Derived.Test.YtjbkjeabobccaaaDoorNumQuotientsWalk
namespace Go.Proofs.YtjbkjeabobccaaaDoor
open Go.RowKit Go.Sort Go.Lib
set_option linter.unusedVariables false

set_option maxHeartbeats 4000000 in
set_option maxRecDepth 100000 in
theorem rFloor_in (a : Int) (w : World) (ha1 : -9223372036854775807 ≤ a) (ha2 : a ≤ 9223372036854775807) :
    Calls Tryd.prog 23 #[.int .i64 a] w fun e w' => e = .returned (.tuple #[.int .i64 (floorR a).1, .int .i64 (floorR a).2]) ∧ Below w.heap.size w w' := by
  obtain ⟨d1, d2⟩ := down_bd a 1000000 ha1 ha2 (by omega) (by omega) (by omega)
  have hfm := down_fm a 1000000 (by omega)
  have hfl : floorR a = tz (downZ a 1000000 * 1000000) := by
    unfold fm at hfm
    rw [if_pos (by omega)] at hfm
    unfold floorR tz
    split <;> split <;> first | rfl | omega | (congr 1; omega)
  rw [hfl]
  have HL : Hid (a.natAbs < 10000 ^ 10) := by show _ < _; omega
  have HD := hidd d1
  have HP := hidd d2
  have c1 := hidd (of_boxed a w ha1 ha2)
  have ha : (a == -9223372036854775808) = false := by simp; omega
  clear ha1 ha2 d1 d2 hfm hfl
  obtain ⟨R, eR⟩ : ∃ R, tz (downZ a 1000000 * 1000000) = R := ⟨_, rfl⟩
  rw [eR]
  have HR := hidd eR
  clear eR
  go_enter Tryd.func23, Tryd.ntmps23
  go_wp2_with fail
  refine c1.out.mono ?_
  rintro e w1 ⟨x1, l1, k1, q1, rfl, h1, hb1⟩
  have c2 := hidd (of_boxed 1000000 w1 (by omega) (by omega))
  have H1 := hidd h1
  have HB1 := hidd hb1
  clear h1 hb1 c1
  go_wp2_with fail
  refine c2.out.mono ?_
  rintro e w2 ⟨x2, l2, k2, q2, rfl, h2, hb2⟩
  have c3 := hidd (down_any w2 _ _ a 1000000 (H1.out.step hb2) h2 (by have := HL.out; omega) (by omega) (by omega))
  have HB2 := hidd (key2 HB1.out hb2)
  clear h2 hb2 c2 H1
  go_wp2_with fail
  refine c3.out.mono ?_
  rintro e w3 ⟨x3, l3, k3, q3, rfl, h3, hb3⟩
  have c4 := hidd (of_boxed 1000000 w3 (by omega) (by omega))
  have H3 := hidd h3
  have HB3 := hidd (key2 HB2.out hb3)
  clear h3 hb3 c3
  go_wp2_with fail
  refine c4.out.mono ?_
  rintro e w4 ⟨x4, l4, k4, q4, rfl, h4, hb4⟩
  have c5 := hidd (times_any w4 _ _ _ 1000000 (H3.out.step hb4) h4 (by have := HD.out; omega) (by omega))
  have HB4 := hidd (key2 HB3.out hb4)
  clear h4 hb4 c4 H3
  go_wp2_with fail
  refine c5.out.mono ?_
  rintro e w5 ⟨x5, l5, k5, q5, rfl, h5, hb5⟩
  have cl := told_any w5 x5 l5 k5 q5 _ h5 (len_small _ (by have := HP.out; omega))
  rw [HR.out] at cl
  have cl := hidd cl
  have HB5 := hidd (key2 HB4.out hb5)
  clear h5 hb5 c5
  go_wp2_with fail
  refine cl.out.mono ?_
  rintro e w6 ⟨rfl, hb6⟩
  go_wp2_with fail
  go_ret2
  exact ⟨rfl, key2 HB5.out hb6⟩
set_option maxHeartbeats 1000000 in
theorem rFloor_no (w : World) : Calls Tryd.prog 23 #[.int .i64 (-9223372036854775808)] w fun e w' => e = .returned (.tuple #[.int .i64 0, .int .i64 6]) ∧ w' = w := by
  go_enter Tryd.func23, Tryd.ntmps23
  go_wp2_with fail
  go_ret2
  exact ⟨rfl, rfl⟩
theorem rFloor_any (a : Int) (w : World) (ha1 : -9223372036854775808 ≤ a) (ha2 : a ≤ 9223372036854775807) :
    Calls Tryd.prog 23 #[.int .i64 a] w fun e w' => e = .returned (.tuple #[.int .i64 (floorR a).1, .int .i64 (floorR a).2]) ∧ Below w.heap.size w w' := by
  by_cases h : a = -9223372036854775808
  · subst h
    rw [show floorR (-9223372036854775808) = (0, 6) from if_pos (by omega)]
    refine (rFloor_no w).mono ?_
    rintro e w' ⟨rfl, rfl⟩
    exact ⟨rfl, Below.refl _ _⟩
  · exact rFloor_in a w (by omega) ha2

theorem pow_bd (j : Nat) (h : j ≤ 19) : ((10 : Int) ^ j).natAbs < 10000 ^ 10 ∧ (10 : Int) ^ j ≠ 0 ∧ 0 < (10 : Int) ^ j := by
  have h1 : (0 : Int) < 10 ^ j := Int.pow_pos (by omega)
  refine ⟨?_, by omega, h1⟩
  have h2 : (10 : Nat) ^ j ≤ 10 ^ 19 := Nat.pow_le_pow_right (by omega) h
  have h3 : ((10 : Int) ^ j).natAbs = 10 ^ j := by rw [Int.natAbs_pow]; rfl
  rw [h3]
  omega
theorem roundR_eq (a d : Int) (ha1 : -9223372036854775807 ≤ a) : roundR a d = tz (nearZ a (unitR d) * unitR d) := by
  obtain ⟨u0, _⟩ := unit_bd d
  unfold roundR nearZ
  obtain ⟨U, eU⟩ : ∃ U : Nat, unitR d = (U : Int) := ⟨(unitR d).toNat, by omega⟩
  rw [if_neg (by omega), eU, near_nat _ _ (by omega)]
  have hop : opp a (U : Int) = decide (a < 0) := by unfold opp; rw [decide_eq_false (p := (U : Int) < 0) (by omega)]; cases decide (a < 0) <;> rfl
  rw [hop, Int.natAbs_natCast]
  have hm : sq (decide (a < 0)) (nearN a.natAbs U) * (U : Int) = sq (decide (a < 0)) (nearN a.natAbs U * U) := by
    unfold sq
    split
    · rw [Int.neg_mul]; simp
    · simp
  rw [hm, tz_sq _ (decide (a < 0)) _ (.inl rfl)]
  simp

set_option maxHeartbeats 8000000 in
set_option maxRecDepth 100000 in
theorem rRound_in (a d : Int) (w : World) (ha1 : -9223372036854775807 ≤ a) (ha2 : a ≤ 9223372036854775807) (hd2 : d ≤ 9223372036854775807) :
    Calls Tryd.prog 24 #[.int .i64 a, .int .i64 d] w fun e w' => e = .returned (.tuple #[.int .i64 (roundR a d).1, .int .i64 (roundR a d).2]) ∧ Below w.heap.size w w' := by
  rw [roundR_eq a d ha1]
  have HL : Hid (a.natAbs < 10000 ^ 10 ∧ -9223372036854775807 ≤ a ∧ a ≤ 9223372036854775807) := by show _ ∧ _; omega
  have c1 := hidd (of_boxed 1 w (by omega) (by omega))
  have ha : (a == -9223372036854775808) = false := by simp; omega
  clear ha1 ha2
  obtain ⟨R, eR⟩ : ∃ R, tz (nearZ a (unitR d) * unitR d) = R := ⟨_, rfl⟩
  rw [eR]
  have HR := hidd eR
  clear eR
  go_enter Tryd.func24, Tryd.ntmps24
  go_wp2_with fail
  refine c1.out.mono ?_
  rintro e w1 ⟨x1, l1, k1, q1, rfl, h1, hb1⟩
  have H1 := hidd h1
  have HB1 := hidd hb1
  clear h1 hb1 c1
  go_wp2_with fail
  go_loopw [7] (fun k wr => ∃ (K : Int) (j : Nat) (x : Option Addr) (l m : Nat) (q : Bool), k = .int .i64 K ∧ K = max d (-13) + j ∧ (j = 0 ∨ K ≤ 6) ∧ wr.heap[w1.heap.size]? = some (.cells #[.slice x l m, .bool q] 49 (0, 0)) ∧ Hid (BigIs wr (.agg #[.slice x l m, .bool q]) (10 ^ j) ∧ Below w.heap.size w wr)) (fun k _ => (6 - RowKit.intOf k).toNat)
  case atStart =>
    refine ⟨max d (-13), 0, x1, l1, k1, q1, by first | rfl | (congr 1), by omega, .inl rfl, ?_, H1.out.step (gr3 _ _), HB1.out.alloc HB1.out.size _⟩
    show (w1.heap.push _)[_]? = _
    rw [Array.getElem?_push_size]
  case round =>
    obtain ⟨K, j, x, l, m, q, rfl, hK, hj, hbox, HI⟩ := hrel
    have hlt := lt_of_block hbox
    have HBX := hidd hbox
    have p0 := two_cell0 hbox
    have p1 := two_cell1 hbox
    have HK := hidd (And.intro hK hj)
    have hKb : K ≤ 9223372036854775807 ∧ -13 ≤ K := by omega
    clear hbox hK hj
    by_cases hk : K < 6
    · have HJ : Hid (j + 1 ≤ 19) := by show _ ≤ _; have := HK.out.1; omega
      have cn : Hid (Calls Tryd.prog 31 #[.int .i64 10] wr.drew fun e w3 => ∃ c3 l3 k3 q3, e = .returned (.agg #[.slice c3 l3 k3, .bool q3]) ∧ w3.cell? ⟨w1.heap.size, 0, none⟩ = some (.slice x l m) ∧ w3.cell? ⟨w1.heap.size, 1, none⟩ = some (.bool q) ∧
          Hid (Calls Tryd.prog 34 #[.agg #[.slice x l m, .bool q], .agg #[.slice c3 l3 k3, .bool q3]] w3 fun e w4 => ∃ c4 l4 k4 q4, e = .returned (.agg #[.slice c4 l4 k4, .bool q4]) ∧ w4.cell? ⟨w1.heap.size, 0, none⟩ = some (.slice x l m) ∧ w4.cell? ⟨w1.heap.size, 1, none⟩ = some (.bool q) ∧ w4.frozen? ⟨w1.heap.size, 0, none⟩ = false ∧ w4.frozen? ⟨w1.heap.size, 1, none⟩ = false ∧
            Hid (w4.heap[w1.heap.size]? = some (.cells #[.slice x l m, .bool q] 49 (0, 0)) ∧ BigIs w4 (.agg #[.slice c4 l4 k4, .bool q4]) (10 ^ (j + 1)) ∧ Below w.heap.size w w4))) := by
        have hd := gr0 wr
        refine (of_boxed 10 _ (by omega) (by omega)).mono ?_
        rintro e w3 ⟨c3, l3, k3, q3, rfl, h3, hb3⟩
        have hB3 := hd.trans (hb3.mono hd.size)
        have b3 := newbox2 HBX.out hB3
        refine ⟨c3, l3, k3, q3, rfl, two_cell0 b3, two_cell1 b3, ?_⟩
        refine (times_any w3 _ _ (10 ^ j) 10 (HI.out.1.step hB3) h3 (by have := pow_bd j (by have := HJ.out; omega); omega) (by omega)).mono ?_
        rintro e w4 ⟨c4, l4, k4, q4, rfl, h4, hb4⟩
        have hB4 := hB3.trans (hb4.mono hB3.size)
        have b4 := newbox2 HBX.out hB4
        refine ⟨c4, l4, k4, q4, rfl, two_cell0 b4, two_cell1 b4, two_free b4 0, two_free b4 1, b4, by rw [Int.pow_succ]; exact h4, HI.out.2.trans (hB4.mono HI.out.2.size)⟩
      go_wp2_with fail
      go_region_with
        (first | (go_at_call 31; refine cn.out.mono ?_; rintro e w3 ⟨c3, l3, k3, q3, rfl, r0, r1, cs⟩) | (go_at_call 34; refine cs.out.mono ?_; rintro e w4 ⟨c4, l4, k4, q4, rfl, s0, s1, s2, s3, H4⟩))
      all_goals
        have HS : Hid (((w4.setCell ⟨w1.heap.size, 0, none⟩ (.slice c4 l4 k4)).setCell ⟨w1.heap.size, 1, none⟩ (.bool q4)).heap[w1.heap.size]? = some (.cells #[.slice c4 l4 k4, .bool q4] 49 (0, 0))) := two_set1 (two_set0 H4.out.1)
        have HBI : Hid (BigIs ((w4.setCell ⟨w1.heap.size, 0, none⟩ (.slice c4 l4 k4)).setCell ⟨w1.heap.size, 1, none⟩ (.bool q4)) (.agg #[.slice c4 l4 k4, .bool q4]) (10 ^ (j + 1))) := by
          obtain ⟨x', m', ex, hR⟩ := H4.out.2.1
          exact ⟨x', m', ex, hR.store2 H4.out.1 _ _⟩
        have HBW : Hid (Below w.heap.size w ((w4.setCell ⟨w1.heap.size, 0, none⟩ (.slice c4 l4 k4)).setCell ⟨w1.heap.size, 1, none⟩ (.bool q4))) := (H4.out.2.2.setCell HB1.out.size _).setCell HB1.out.size _
        go_wp2_with fail
        go_roundw
        case rel => exact ⟨K + 1, j + 1, c4, l4, k4, q4, rfl, by have := HK.out.1; omega, .inr (by omega), HS.out, HBI.out, HBW.out⟩
        case measure => simp [RowKit.intOf]; omega
    · have HU : Hid ((10 : Int) ^ j = unitR d) := by
        show _ = _
        unfold unitR clampD
        congr 1
        have := HK.out
        omega
      have HJ : Hid (j ≤ 19) := by show _ ≤ _; have := HK.out; omega
      have cn : Hid (Calls Tryd.prog 31 #[.int .i64 a] wr.drew fun e w3 => ∃ c3 l3 k3 q3, e = .returned (.agg #[.slice c3 l3 k3, .bool q3]) ∧ w3.cell? ⟨w1.heap.size, 0, none⟩ = some (.slice x l m) ∧ w3.cell? ⟨w1.heap.size, 1, none⟩ = some (.bool q) ∧
          Hid (Calls Tryd.prog 44 #[.agg #[.slice c3 l3 k3, .bool q3], .agg #[.slice x l m, .bool q]] w3 fun e w4 => ∃ c4 l4 k4 q4, e = .returned (.agg #[.slice c4 l4 k4, .bool q4]) ∧ w4.cell? ⟨w1.heap.size, 0, none⟩ = some (.slice x l m) ∧ w4.cell? ⟨w1.heap.size, 1, none⟩ = some (.bool q) ∧
            Hid (Calls Tryd.prog 34 #[.agg #[.slice c4 l4 k4, .bool q4], .agg #[.slice x l m, .bool q]] w4 fun e w5 => ∃ c5 l5 k5 q5, e = .returned (.agg #[.slice c5 l5 k5, .bool q5]) ∧ w5.cell? ⟨w1.heap.size, 0, none⟩ = some (.slice x l m) ∧ w5.cell? ⟨w1.heap.size, 1, none⟩ = some (.bool q) ∧
              Hid (Calls Tryd.prog 43 #[.agg #[.slice c5 l5 k5, .bool q5]] w5 fun e w6 => e = .returned (.tuple #[.int .i64 R.1, .int .i64 R.2]) ∧ w6.cell? ⟨w1.heap.size, 0, none⟩ = some (.slice x l m) ∧ w6.cell? ⟨w1.heap.size, 1, none⟩ = some (.bool q) ∧ Hid (Below w.heap.size w w6))))) := by
        have hd := gr0 wr
        obtain ⟨pb1, pb2, pb3⟩ := pow_bd j HJ.out
        refine (of_boxed a _ HL.out.2.1 HL.out.2.2).mono ?_
        rintro e w3 ⟨c3, l3, k3, q3, rfl, h3, hb3⟩
        have hB3 := hd.trans (hb3.mono hd.size)
        have b3 := newbox2 HBX.out hB3
        refine ⟨c3, l3, k3, q3, rfl, two_cell0 b3, two_cell1 b3, ?_⟩
        refine (nearest_any w3 _ _ a (10 ^ j) h3 (HI.out.1.step hB3) (by have := HL.out.1; omega) (by omega) pb2).mono ?_
        rintro e w4 ⟨c4, l4, k4, q4, rfl, h4, hb4⟩
        have hB4 := hB3.trans (hb4.mono hB3.size)
        have b4 := newbox2 HBX.out hB4
        refine ⟨c4, l4, k4, q4, rfl, two_cell0 b4, two_cell1 b4, ?_⟩
        have hnb : (nearZ a (10 ^ j)).natAbs < 10000 ^ 11 := by
          unfold nearZ
          rw [sq_abs]
          have := near_le a.natAbs ((10 : Int) ^ j).natAbs (by omega)
          have := HL.out.1
          omega
        refine (times_any w4 _ _ _ (10 ^ j) h4 (HI.out.1.step hB4) (by omega) (by omega)).mono ?_
        rintro e w5 ⟨c5, l5, k5, q5, rfl, h5, hb5⟩
        have hB5 := hB4.trans (hb5.mono hB4.size)
        have b5 := newbox2 HBX.out hB5
        refine ⟨c5, l5, k5, q5, rfl, two_cell0 b5, two_cell1 b5, ?_⟩
        have hpb : (nearZ a (10 ^ j) * 10 ^ j).natAbs < 10000 ^ 30 := by
          rw [Int.natAbs_mul]
          have := Nat.mul_le_mul (Nat.le_of_lt hnb) (Nat.le_of_lt pb1)
          omega
        have ct := told_any w5 c5 l5 k5 q5 _ h5 (len_small _ (by omega))
        rw [HU.out, HR.out] at ct
        refine ct.mono ?_
        rintro e w6 ⟨rfl, hb6⟩
        have hB6 := hB5.trans (hb6.mono hB5.size)
        have b6 := newbox2 HBX.out hB6
        exact ⟨rfl, two_cell0 b6, two_cell1 b6, HI.out.2.trans (hB6.mono HI.out.2.size)⟩
      go_wp2_with fail
      go_region_held2 (fun w' => w'.cell? ⟨w1.heap.size, 0, none⟩ = some (.slice x l m) ∧ w'.cell? ⟨w1.heap.size, 1, none⟩ = some (.bool q)) (go_keep)
        (first | (go_at_call 31; refine cn.out.mono ?_; rintro e w3 ⟨c3, l3, k3, q3, rfl, r0, r1, cs⟩) | (go_at_call 44; refine cs.out.mono ?_; rintro e w4 ⟨c4, l4, k4, q4, rfl, s0, s1, ct⟩) | (go_at_call 34; refine ct.out.mono ?_; rintro e w5 ⟨c5, l5, k5, q5, rfl, t0, t1, cu⟩) | (go_at_call 43; refine cu.out.mono ?_; rintro e w6 ⟨rfl, v0, v1, HB⟩))
      all_goals
        go_wp2_with fail
        go_ret2
        exact ⟨rfl, HB.out⟩
set_option maxHeartbeats 1000000 in
theorem rRound_no (d : Int) (w : World) : Calls Tryd.prog 24 #[.int .i64 (-9223372036854775808), .int .i64 d] w fun e w' => e = .returned (.tuple #[.int .i64 0, .int .i64 6]) ∧ w' = w := by
  go_enter Tryd.func24, Tryd.ntmps24
  go_wp2_with fail
  go_ret2
  exact ⟨rfl, rfl⟩
theorem rRound_any (a d : Int) (w : World) (ha1 : -9223372036854775808 ≤ a) (ha2 : a ≤ 9223372036854775807) (hd2 : d ≤ 9223372036854775807) :
    Calls Tryd.prog 24 #[.int .i64 a, .int .i64 d] w fun e w' => e = .returned (.tuple #[.int .i64 (roundR a d).1, .int .i64 (roundR a d).2]) ∧ Below w.heap.size w w' := by
  by_cases h : a = -9223372036854775808
  · subst h
    rw [show roundR (-9223372036854775808) d = (0, 6) from if_pos (by omega)]
    refine (rRound_no d w).mono ?_
    rintro e w' ⟨rfl, rfl⟩
    exact ⟨rfl, Below.refl _ _⟩
  · exact rRound_in a d w (by omega) ha2 hd2

set_option maxHeartbeats 2000000 in
theorem numRounds_walk (a d : Int) (w : World) (hE : Env w) (ha1 : -9223372036854775808 ≤ a) (ha2 : a ≤ 9223372036854775807) (hd1 : -9223372036854775808 ≤ d) (hd2 : d ≤ 9223372036854775807) :
    Calls Tryd.prog 8 #[.int .i64 a, .int .i64 d] w fun e w' => e = .returned (.bool true) ∧ Below w.heap.size w w' := by
  have c1 := fun w => floor_any a w ha2 ha1
  have c2 := fun w => round_any a d w ha2
  have c3 := fun w => rFloor_any a w ha1 ha2
  have c4 := fun w => rRound_any a d w ha1 ha2 hd2
  obtain ⟨⟨x, e⟩, ex⟩ : ∃ r, floorR a = r := ⟨_, rfl⟩
  obtain ⟨⟨y, f⟩, ey⟩ : ∃ r, roundR a d = r := ⟨_, rfl⟩
  rw [ex] at c1 c3
  rw [ey] at c2 c4
  have d1 := hidd c1
  have d2 := hidd c2
  have d3 := hidd c3
  have d4 := hidd c4
  clear c1 c2 c3 c4 ex ey ha1 ha2 hd1 hd2
  go_enter Tryd.func8, Tryd.ntmps8
  go_wp2_with fail
  refine (d1.out _).mono ?_
  rintro e w' ⟨rfl, rfl⟩
  go_wp2_with fail
  refine (d2.out _).mono ?_
  rintro e w' ⟨rfl, n, rfl⟩
  go_wp2_with fail
  refine (d3.out _).mono ?_
  rintro e w1 ⟨rfl, hb1⟩
  go_wp2_with fail
  refine (d4.out _).mono ?_
  rintro e w2 ⟨rfl, hb2⟩
  have hB := key2 (key2 (bl _ n) hb1) hb2
  have al := hidd (alive_any w2 (hE.step hB))
  go_wp2_with (first | (go_at_call 17; refine (same_yes _ _ _).mono ?_; rintro e w' ⟨rfl, rfl⟩) | (go_at_call 11; refine al.out.mono ?_; rintro e w3 ⟨rfl, hb3⟩))
  go_ret
  exact ⟨rfl, key2 hB hb3⟩
end Go.Proofs.YtjbkjeabobccaaaDoor
