import Derived.Test.YtjbkjeabobccaadDoorRefKeptBase
import Derived.Deep.CutRange
namespace Go.Proofs.YtjbkjeabobccaadDoor
open Go.RowKit Go.Lib
set_option linter.unusedVariables false

set_option maxHeartbeats 8000000 in
set_option maxRecDepth 100000 in
theorem kept_good_col (c1 r1 c2 r2 at' n cell : Int) (f1 g1 f2 g2 : Bool) (w : World) (L T R D A1 B1 A2 B2 : Int) (F1 G1 F2 G2 ok : Bool)
    (ca : Hid (∀ w, Calls Tryd.prog 5 #[.agg #[.int .i64 c1, .int .i64 r1, .bool f1, .bool g1, .int .i64 c2, .int .i64 r2, .bool f2, .bool g2]] w fun e w' => e = .returned (.agg #[.int .i64 c1, .int .i64 r1, .bool f1, .bool g1, .int .i64 c2, .int .i64 r2, .bool f2, .bool g2]) ∧ Below w.heap.size w w'))
    (cm : Hid (∀ w, Calls Tryd.prog 4 #[.agg #[.int .i64 c1, .int .i64 r1, .bool f1, .bool g1, .int .i64 c2, .int .i64 r2, .bool f2, .bool g2], .bool false, .int .i64 at', .int .i64 n] w fun e w' => e = .returned (.tuple #[.agg #[.int .i64 A1, .int .i64 B1, .bool F1, .bool G1, .int .i64 A2, .int .i64 B2, .bool F2, .bool G2], .bool ok]) ∧ Below w.heap.size w w'))
    (cb : Hid (∀ w, Calls Tryd.prog 6 #[.agg #[.int .i64 c1, .int .i64 r1, .bool f1, .bool g1, .int .i64 c2, .int .i64 r2, .bool f2, .bool g2]] w fun e w' => e = .returned (.tuple #[.int .i64 L, .int .i64 T, .int .i64 R, .int .i64 D]) ∧ Below w.heap.size w w'))
    (hback : Hid (0 < n → R + n < 64 → ok = true ∧ ∀ w, Calls Tryd.prog 4 #[.agg #[.int .i64 A1, .int .i64 B1, .bool F1, .bool G1, .int .i64 A2, .int .i64 B2, .bool F2, .bool G2], .bool false, .int .i64 at', .int .i64 (-n)] w fun e w' => e = .returned (.tuple #[.agg #[.int .i64 c1, .int .i64 r1, .bool f1, .bool g1, .int .i64 c2, .int .i64 r2, .bool f2, .bool g2], .bool true]) ∧ Below w.heap.size w w'))
    (hkept : Hid (∀ tv, L ≤ cell → cell ≤ R → ((0 ≤ n ∧ at' ≤ cell ∧ tv = cell + n ∧ tv < 64) ∨ (n < 0 ∧ at' ≤ cell ∧ tv = cell + n ∧ at' - n ≤ cell) ∨ (cell < at' ∧ tv = cell)) → ok = true ∧ ∃ l t r d, (∀ w, Calls Tryd.prog 6 #[.agg #[.int .i64 A1, .int .i64 B1, .bool F1, .bool G1, .int .i64 A2, .int .i64 B2, .bool F2, .bool G2]] w fun e w' => e = .returned (.tuple #[.int .i64 l, .int .i64 t, .int .i64 r, .int .i64 d]) ∧ Below w.heap.size w w') ∧ l ≤ tv ∧ tv ≤ r ∧ t = T ∧ d = D))
    (kL : ¬ L < 0) (ka : ¬ at' < 0) (ka' : ¬ 64 ≤ at') (kn : ¬ n < -1024) (kn' : ¬ 1024 < n) (b1 : 0 ≤ L) (b2 : R < 64) (b3 : L ≤ R) :
    Calls Tryd.prog 3 #[.agg #[.int .i64 c1, .int .i64 r1, .bool f1, .bool g1, .int .i64 c2, .int .i64 r2, .bool f2, .bool g2], .bool false, .int .i64 at', .int .i64 n, .int .i64 cell] w fun e w' => e = .returned (.bool true) ∧ Below w.heap.size w w' := by
  have al : Hid (∀ w, _) := alive_any
  have cz : Hid (∀ w, _) := fun w => area_at c1 r1 c2 r2 f1 g1 f2 g2 w
  go_enter Tryd.func3, Tryd.ntmps3
  go_wp2_with fail
  refine (ca.out _).mono ?_
  rintro e w1 ⟨rfl, hb1⟩
  go_wp2_with fail
  refine (cm.out _).mono ?_
  rintro e w2 ⟨rfl, hb2⟩
  have hb12 := hb1.trans (hb2.mono hb1.size)
  have hbq := hb12.alloc hb12.size (.cells #[.int .i64 A1, .int .i64 B1, .bool F1, .bool G1, .int .i64 A2, .int .i64 B2, .bool F2, .bool G2] 28)
  obtain ⟨p0, p1, p2, p3, p4, p5, p6, p7⟩ := box8 hbq
  go_wp2_with fail
  refine (ca.out _).mono ?_
  rintro e w3 ⟨rfl, hb3⟩
  clear p0 p1 p2 p3 p4 p5 p6 p7
  go_wp2_with fail
  refine (cb.out _).mono ?_
  rintro e w4 ⟨rfl, hb4⟩
  have hbB := hb3.trans (hb4.mono hb3.size)
  have hbA := hbq.trans (hbB.mono hbq.size)
  obtain ⟨bk, hbk⟩ : ∃ b, decide (0 < n ∧ R + n < 64) = b := ⟨_, rfl⟩
  go_upto_region 12 with fail
  go_cut [82] from 28 (fun s wx => s = .bool bk ∧ wx = w4)
  case first =>
    by_cases hn : 0 < n
    · by_cases hf : R + n < 64
      · have e : bk = true := by rw [← hbk]; simp [hn, hf]
        go_wp2_with fail
        go_meet
        case rel => exact ⟨by first | (simp [e]; done) | (simp [e]; omega) | (simp [e, hn]; omega), rfl⟩
      · have e : bk = false := by rw [← hbk]; simp [hf]
        go_wp2_with fail
        go_meet
        case rel => exact ⟨by first | (simp [e]; done) | (simp [e]; omega) | (simp [e, hn]; omega), rfl⟩
    · have e : bk = false := by rw [← hbk]; simp [hn]
      go_wp2_with fail
      go_meet
      case rel => exact ⟨by first | (simp [e]; done) | (simp [e]; omega) | (simp [e, hn]; omega), rfl⟩
  case rest =>
  obtain ⟨rfl, rfl⟩ := hcut
  go_upto_if 82 with fail
  go_cut [] from 28 (fun wx => Below wc.heap.size wc wx)
  case first =>
    cases bk
    · go_wp2_with fail
      go_meet
      case rel => exact Below.refl _ _
    · have hbk' : 0 < n ∧ R + n < 64 := by simpa using hbk
      obtain ⟨hn, hf⟩ := hbk'
      obtain ⟨rfl, cmm0⟩ := hback.out hn hf
      have cmm : Hid (∀ w, _) := cmm0
      clear cmm0 hkept
      obtain ⟨p0, p1, p2, p3, p4, p5, p6, p7⟩ := box8 hbB
      go_wp2_with fail
      refine (cmm.out _).mono ?_
      rintro e w5 ⟨rfl, hb5⟩
      clear p0 p1 p2 p3 p4 p5 p6 p7
      have hb5A := hbA.trans (hb5.mono hbA.size)
      have zz : w.heap.size + 1 ≤ w5.heap.size := by have := hb5A.size; simpa using this
      obtain ⟨p0, p1, p2, p3, p4, p5, p6, p7⟩ := box8 (hb5A.alloc hb5A.size (.cells #[.int .i64 c1, .int .i64 r1, .bool f1, .bool g1, .int .i64 c2, .int .i64 r2, .bool f2, .bool g2] 28))
      have hq0 := Below.refl (w5.alloc (.cells #[.int .i64 c1, .int .i64 r1, .bool f1, .bool g1, .int .i64 c2, .int .i64 r2, .bool f2, .bool g2] 28)).heap.size (w5.alloc (.cells #[.int .i64 c1, .int .i64 r1, .bool f1, .bool g1, .int .i64 c2, .int .i64 r2, .bool f2, .bool g2] 28))
      obtain ⟨q0, q1, q2, q3, q4, q5, q6, q7⟩ := box8 hq0
      have hr := fun o1 o2 o3 o4 o5 o6 => box8 (below6 (w5.alloc (.cells #[.int .i64 c1, .int .i64 r1, .bool f1, .bool g1, .int .i64 c2, .int .i64 r2, .bool f2, .bool g2] 28)) o1 o2 o3 o4 o5 o6)
      have r0 := fun o1 o2 o3 o4 o5 o6 => (hr o1 o2 o3 o4 o5 o6).1
      have r1' := fun o1 o2 o3 o4 o5 o6 => (hr o1 o2 o3 o4 o5 o6).2.1
      have r2' := fun o1 o2 o3 o4 o5 o6 => (hr o1 o2 o3 o4 o5 o6).2.2.1
      have r3 := fun o1 o2 o3 o4 o5 o6 => (hr o1 o2 o3 o4 o5 o6).2.2.2.1
      have r4 := fun o1 o2 o3 o4 o5 o6 => (hr o1 o2 o3 o4 o5 o6).2.2.2.2.1
      have r5 := fun o1 o2 o3 o4 o5 o6 => (hr o1 o2 o3 o4 o5 o6).2.2.2.2.2.1
      have r6 := fun o1 o2 o3 o4 o5 o6 => (hr o1 o2 o3 o4 o5 o6).2.2.2.2.2.2.1
      have r7 := fun o1 o2 o3 o4 o5 o6 => (hr o1 o2 o3 o4 o5 o6).2.2.2.2.2.2.2
      clear hr hq0
      go_wp2_with fail
      go_region_with (go_at_call 5; refine (cz.out _).mono ?_; rintro e w' ⟨rfl, rfl⟩)
      all_goals (go_wp2_with fail; go_meet; exact hb5.trans (Below.mono (by go_grown) hb5.size))
  case rest =>
    clear hback cz hbk
    have hB' := hbB.trans (hcut.mono hbB.size)
    have hA' := hbA.trans (hcut.mono hbA.size)
    clear hcut hbA hbB
    by_cases k1 : cell < L
    · clear hkept
      go_wp2_with (go_at_call 7; refine (al.out _).mono ?_; rintro e w9 ⟨rfl, hb9⟩)
      go_ret
      exact ⟨rfl, key1 hA' hb9⟩
    · by_cases k2 : R < cell
      · clear hkept
        go_wp2_with (go_at_call 7; refine (al.out _).mono ?_; rintro e w9 ⟨rfl, hb9⟩)
        go_ret
        exact ⟨rfl, key1 hA' hb9⟩
      · by_cases k3 : 0 ≤ n
        · by_cases k4 : at' ≤ cell
          · by_cases k5 : 64 ≤ cell + n
            · clear hkept
              go_wp2_with (go_at_call 7; refine (al.out _).mono ?_; rintro e w9 ⟨rfl, hb9⟩)
              go_ret
              exact ⟨rfl, key1 hA' hb9⟩
            · skip
              obtain ⟨rfl, l, t, r, d, cbb0, v1, v2, v3, v4⟩ := hkept.out (cell + n) (by omega) (by omega) (Or.inl ⟨by omega, by omega, rfl, by omega⟩)
              have cbb : Hid (∀ w, _) := cbb0
              clear cbb0 hkept
              obtain ⟨p0, p1, p2, p3, p4, p5, p6, p7⟩ := box8 hB'
              subst v3 v4
              go_wp2_with fail
              refine (cbb.out _).mono ?_
              rintro e w6 ⟨rfl, hb6⟩
              have hA6 := hA'.trans (hb6.mono hA'.size)
              go_wp2_with (go_at_call 7; refine (al.out _).mono ?_; rintro e w9 ⟨rfl, hb9⟩)
              go_ret
              exact ⟨rfl, key1 hA6 hb9⟩
          · skip
            obtain ⟨rfl, l, t, r, d, cbb0, v1, v2, v3, v4⟩ := hkept.out (cell) (by omega) (by omega) (Or.inr (Or.inr ⟨by omega, rfl⟩))
            have cbb : Hid (∀ w, _) := cbb0
            clear cbb0 hkept
            obtain ⟨p0, p1, p2, p3, p4, p5, p6, p7⟩ := box8 hB'
            subst v3 v4
            go_wp2_with fail
            refine (cbb.out _).mono ?_
            rintro e w6 ⟨rfl, hb6⟩
            have hA6 := hA'.trans (hb6.mono hA'.size)
            go_wp2_with (go_at_call 7; refine (al.out _).mono ?_; rintro e w9 ⟨rfl, hb9⟩)
            go_ret
            exact ⟨rfl, key1 hA6 hb9⟩
        · by_cases k4 : at' ≤ cell
          · by_cases k5 : cell < at' - n
            · clear hkept
              go_wp2_with (go_at_call 7; refine (al.out _).mono ?_; rintro e w9 ⟨rfl, hb9⟩)
              go_ret
              exact ⟨rfl, key1 hA' hb9⟩
            · skip
              obtain ⟨rfl, l, t, r, d, cbb0, v1, v2, v3, v4⟩ := hkept.out (cell + n) (by omega) (by omega) (Or.inr (Or.inl ⟨by omega, by omega, rfl, by omega⟩))
              have cbb : Hid (∀ w, _) := cbb0
              clear cbb0 hkept
              obtain ⟨p0, p1, p2, p3, p4, p5, p6, p7⟩ := box8 hB'
              subst v3 v4
              go_wp2_with fail
              refine (cbb.out _).mono ?_
              rintro e w6 ⟨rfl, hb6⟩
              have hA6 := hA'.trans (hb6.mono hA'.size)
              go_wp2_with (go_at_call 7; refine (al.out _).mono ?_; rintro e w9 ⟨rfl, hb9⟩)
              go_ret
              exact ⟨rfl, key1 hA6 hb9⟩
          · skip
            obtain ⟨rfl, l, t, r, d, cbb0, v1, v2, v3, v4⟩ := hkept.out (cell) (by omega) (by omega) (Or.inr (Or.inr ⟨by omega, rfl⟩))
            have cbb : Hid (∀ w, _) := cbb0
            clear cbb0 hkept
            obtain ⟨p0, p1, p2, p3, p4, p5, p6, p7⟩ := box8 hB'
            subst v3 v4
            go_wp2_with fail
            refine (cbb.out _).mono ?_
            rintro e w6 ⟨rfl, hb6⟩
            have hA6 := hA'.trans (hb6.mono hA'.size)
            go_wp2_with (go_at_call 7; refine (al.out _).mono ?_; rintro e w9 ⟨rfl, hb9⟩)
            go_ret
            exact ⟨rfl, key1 hA6 hb9⟩
end Go.Proofs.YtjbkjeabobccaadDoor
