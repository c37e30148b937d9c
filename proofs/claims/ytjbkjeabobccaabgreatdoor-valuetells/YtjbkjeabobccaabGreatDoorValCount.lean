import Derived.Test.YtjbkjeabobccaabGreatDoorValBase
namespace Go.Proofs.YtjbkjeabobccaabGreatDoor
open Go.RowKit Go.Sort Go.Lib
set_option linter.unusedVariables false

/-- A value as it counts (B1). -/
def cnt (k n : Int) (t : ByteArray) : Int × Int × ByteArray :=
  if k = 1 then (if n = -9223372036854775808 then (4, 2, ⟨#[]⟩) else (1, n, ⟨#[]⟩))
  else if k = 2 then (if 1000 < t.size then (4, 3, ⟨#[]⟩) else (2, 0, t))
  else if k = 3 then (3, if n = 0 then 0 else 1, ⟨#[]⟩)
  else if k = 4 then (4, if n < 1 ∨ 6 < n then 3 else n, ⟨#[]⟩)
  else (0, 0, ⟨#[]⟩)
theorem box3b2 {w w' : World} {A : Obj} {v0 v1 v2 : Value} {T : TypeId} (hb : Below ((w.alloc A).alloc (.cells #[v0, v1, v2] T)).heap.size ((w.alloc A).alloc (.cells #[v0, v1, v2] T)) w') : w'.heap[w.heap.size + 1]? = some (.cells #[v0, v1, v2] T (0, 0)) := by
  have := box3h hb
  simpa using this
theorem bel_set3b {w w1 : World} {A v : Obj} (hb : Below ((w.alloc A).alloc v).heap.size ((w.alloc A).alloc v) w1) (x y z : Value) : Below w.heap.size w (((w1.setCell ⟨w.heap.size + 1, 0, none⟩ x).setCell ⟨w.heap.size + 1, 1, none⟩ y).setCell ⟨w.heap.size + 1, 2, none⟩ z) :=
  ((((((Below.refl _ _).alloc (Nat.le_refl _) _).alloc (by simp) _).trans (hb.mono (by simp; omega))).setCell (by simp) _).setCell (by simp) _).setCell (by simp) _

set_option maxHeartbeats 800000 in
theorem fault_any (n : Int) (w : World) : Calls Tryz.prog 38 #[.int .i64 n] w fun e w' => e = .returned (.agg #[.int .i64 4, .int .i64 n, .string ⟨#[]⟩]) ∧ Below w.heap.size w w' := by
  go_enter Tryz.func38, Tryz.ntmps38
  go_wp2
  refine bodyPost_ret (v := .agg #[.int .i64 4, .int .i64 n, .string ⟨#[]⟩]) (by simp [results, Tryz.results38, go_sem]) rfl ?_
  exact ⟨rfl, by go_grown⟩
set_option maxHeartbeats 800000 in
theorem ofb_any (b : Bool) (w : World) : Calls Tryz.prog 36 #[.bool b] w fun e w' => e = .returned (.agg #[.int .i64 3, .int .i64 (if b then 1 else 0), .string ⟨#[]⟩]) ∧ Below w.heap.size w w' := by
  cases b
  · go_enter Tryz.func36, Tryz.ntmps36
    go_wp2
    refine bodyPost_ret (v := .agg #[.int .i64 3, .int .i64 0, .string ⟨#[]⟩]) (by simp [results, Tryz.results36, go_sem]) rfl ?_
    exact ⟨rfl, by go_grown⟩
  · go_enter Tryz.func36, Tryz.ntmps36
    go_wp2
    refine bodyPost_ret (v := .agg #[.int .i64 3, .int .i64 1, .string ⟨#[]⟩]) (by simp [results, Tryz.results36, go_sem]) rfl ?_
    exact ⟨rfl, by go_grown⟩

set_option maxHeartbeats 4000000 in
set_option maxRecDepth 100000 in
theorem counted_any (k n : Int) (t : ByteArray) (w : World) : Calls Tryz.prog 39 #[.agg #[.int .i64 k, .int .i64 n, .string t]] w fun e w' => e = .returned (.agg #[.int .i64 (cnt k n t).1, .int .i64 (cnt k n t).2.1, .string (cnt k n t).2.2]) ∧ Below w.heap.size w w' := by
  by_cases h1 : k = 1
  · subst h1
    by_cases h : n = -9223372036854775808
    · have c0 := fun w => numberValue_any n w
      simp only [if_pos h] at c0
      have c := hidv c0
      rw [show cnt 1 n t = (4, 2, ⟨#[]⟩) by simp [cnt, h]]
      clear h c0
      go_enter Tryz.func39, Tryz.ntmps39
      go_wp2_with (go_at_call 27; refine (c.out _).mono ?_; rintro e w1 ⟨rfl, hb1⟩; have B1 := hidv (bel_set3b hb1); obtain ⟨p0, p1, p2, f0, f1, f2⟩ := three (box3b2 hb1); obtain ⟨s0, s1, s2⟩ := three_set p0 p1 p2; clear hb1)
      refine bodyPost_ret (v := .agg #[.int .i64 4, .int .i64 2, .string ⟨#[]⟩]) (by simp [results, Tryz.results39, go_sem, *]) rfl ?_
      exact ⟨rfl, B1.out _ _ _⟩
    · have c0 := fun w => numberValue_any n w
      simp only [if_neg h] at c0
      have c := hidv c0
      rw [show cnt 1 n t = (1, n, ⟨#[]⟩) by simp [cnt, h]]
      clear h c0
      go_enter Tryz.func39, Tryz.ntmps39
      go_wp2_with (go_at_call 27; refine (c.out _).mono ?_; rintro e w1 ⟨rfl, hb1⟩; have B1 := hidv (bel_set3b hb1); obtain ⟨p0, p1, p2, f0, f1, f2⟩ := three (box3b2 hb1); obtain ⟨s0, s1, s2⟩ := three_set p0 p1 p2; clear hb1)
      refine bodyPost_ret (v := .agg #[.int .i64 1, .int .i64 n, .string ⟨#[]⟩]) (by simp [results, Tryz.results39, go_sem, *]) rfl ?_
      exact ⟨rfl, B1.out _ _ _⟩
  by_cases h2 : k = 2
  · subst h2
    by_cases h : 1000 < t.size
    · have c0 := fun w => textValue_any t w
      simp only [if_pos h] at c0
      have c := hidv c0
      rw [show cnt 2 n t = (4, 3, ⟨#[]⟩) by simp [cnt, h]]
      clear h c0 h1
      go_enter Tryz.func39, Tryz.ntmps39
      go_wp2_with (go_at_call 32; refine (c.out _).mono ?_; rintro e w1 ⟨rfl, hb1⟩; have B1 := hidv (bel_set3b hb1); obtain ⟨p0, p1, p2, f0, f1, f2⟩ := three (box3b2 hb1); obtain ⟨s0, s1, s2⟩ := three_set p0 p1 p2; clear hb1)
      refine bodyPost_ret (v := .agg #[.int .i64 4, .int .i64 3, .string ⟨#[]⟩]) (by simp [results, Tryz.results39, go_sem, *]) rfl ?_
      exact ⟨rfl, B1.out _ _ _⟩
    · have c0 := fun w => textValue_any t w
      simp only [if_neg h] at c0
      have c := hidv c0
      rw [show cnt 2 n t = (2, 0, t) by simp [cnt, h]]
      clear h c0 h1
      go_enter Tryz.func39, Tryz.ntmps39
      go_wp2_with (go_at_call 32; refine (c.out _).mono ?_; rintro e w1 ⟨rfl, hb1⟩; have B1 := hidv (bel_set3b hb1); obtain ⟨p0, p1, p2, f0, f1, f2⟩ := three (box3b2 hb1); obtain ⟨s0, s1, s2⟩ := three_set p0 p1 p2; clear hb1)
      refine bodyPost_ret (v := .agg #[.int .i64 2, .int .i64 0, .string t]) (by simp [results, Tryz.results39, go_sem, *]) rfl ?_
      exact ⟨rfl, B1.out _ _ _⟩
  by_cases h3 : k = 3
  · subst h3
    by_cases h : n = 0
    · have c0 := fun w => truthValue_any false w
      simp only [Bool.false_eq_true, if_false] at c0
      have c := hidv c0
      rw [show cnt 3 n t = (3, 0, ⟨#[]⟩) by simp [cnt, h]]
      subst h
      clear c0 h1 h2
      go_enter Tryz.func39, Tryz.ntmps39
      go_wp2_with (go_at_call 29; refine (c.out _).mono ?_; rintro e w1 ⟨rfl, hb1⟩; have B1 := hidv (bel_set3b hb1); obtain ⟨p0, p1, p2, f0, f1, f2⟩ := three (box3b2 hb1); obtain ⟨s0, s1, s2⟩ := three_set p0 p1 p2; clear hb1)
      refine bodyPost_ret (v := .agg #[.int .i64 3, .int .i64 0, .string ⟨#[]⟩]) (by simp [results, Tryz.results39, go_sem, *]) rfl ?_
      exact ⟨rfl, B1.out _ _ _⟩
    · have c0 := fun w => truthValue_any true w
      simp only [if_true] at c0
      have c := hidv c0
      rw [show cnt 3 n t = (3, 1, ⟨#[]⟩) by simp [cnt, h]]
      have h' : (n == 0) = false := by simpa using h
      have h'' : (n != 0) = true := by simpa using h
      clear h c0 h1 h2
      go_enter Tryz.func39, Tryz.ntmps39
      go_wp2_with (go_at_call 29; refine (c.out _).mono ?_; rintro e w1 ⟨rfl, hb1⟩; have B1 := hidv (bel_set3b hb1); obtain ⟨p0, p1, p2, f0, f1, f2⟩ := three (box3b2 hb1); obtain ⟨s0, s1, s2⟩ := three_set p0 p1 p2; clear hb1)
      refine bodyPost_ret (v := .agg #[.int .i64 3, .int .i64 1, .string ⟨#[]⟩]) (by simp [results, Tryz.results39, go_sem, *]) rfl ?_
      exact ⟨rfl, B1.out _ _ _⟩
  by_cases h4 : k = 4
  · subst h4
    obtain ⟨m, em⟩ : ∃ m, (if n < 1 ∨ 6 < n then 3 else n) = m := ⟨_, rfl⟩
    have c0 := fun w => faultValue_any n w
    simp only [em] at c0
    have c := hidv c0
    rw [show cnt 4 n t = (4, m, ⟨#[]⟩) by simp [cnt, em]]
    clear c0 em h1 h2 h3
    go_enter Tryz.func39, Tryz.ntmps39
    go_wp2_with (go_at_call 31; refine (c.out _).mono ?_; rintro e w1 ⟨rfl, hb1⟩; have B1 := hidv (bel_set3b hb1); obtain ⟨p0, p1, p2, f0, f1, f2⟩ := three (box3b2 hb1); obtain ⟨s0, s1, s2⟩ := three_set p0 p1 p2; clear hb1)
    refine bodyPost_ret (v := .agg #[.int .i64 4, .int .i64 m, .string ⟨#[]⟩]) (by simp [results, Tryz.results39, go_sem, *]) rfl ?_
    exact ⟨rfl, B1.out _ _ _⟩
  have e1 : (k == 1) = false := by simpa using h1
  have e2 : (k == 2) = false := by simpa using h2
  have e3 : (k == 3) = false := by simpa using h3
  have e4 : (k == 4) = false := by simpa using h4
  rw [show cnt k n t = (0, 0, ⟨#[]⟩) by simp [cnt, h1, h2, h3, h4]]
  clear h1 h2 h3 h4
  go_enter Tryz.func39, Tryz.ntmps39
  go_wp2
  refine bodyPost_ret (v := .agg #[.int .i64 0, .int .i64 0, .string ⟨#[]⟩]) (by simp [results, Tryz.results39, go_sem]) rfl ?_
  exact ⟨rfl, by go_grown⟩

set_option maxHeartbeats 4000000 in
set_option maxRecDepth 100000 in
theorem as_any (k n : Int) (t : ByteArray) (w : World) : Calls Tryz.prog 25 #[.agg #[.int .i64 k, .int .i64 n, .string t]] w fun e w' => e = .returned (.agg #[.int .i64 (cnt k n t).1, .int .i64 (cnt k n t).2.1, .string (cnt k n t).2.2]) ∧ Below w.heap.size w w' := by
  by_cases h1 : k = 1
  · subst h1
    by_cases h : n = -9223372036854775808
    · have c := hidv (fun w => fault_any 2 w)
      rw [show cnt 1 n t = (4, 2, ⟨#[]⟩) by simp [cnt, h]]
      have h' : (n == -9223372036854775808) = true := by simpa using h
      clear h
      go_enter Tryz.func25, Tryz.ntmps25
      go_wp2_with (go_at_call 38; refine (c.out _).mono ?_; rintro e w1 ⟨rfl, hb1⟩; have B1 := hidv (bel_set3b hb1); obtain ⟨p0, p1, p2, f0, f1, f2⟩ := three (box3b2 hb1); obtain ⟨s0, s1, s2⟩ := three_set p0 p1 p2; clear hb1)
      refine bodyPost_ret (v := .agg #[.int .i64 4, .int .i64 2, .string ⟨#[]⟩]) (by simp [results, Tryz.results25, go_sem, *]) rfl ?_
      exact ⟨rfl, B1.out _ _ _⟩
    · rw [show cnt 1 n t = (1, n, ⟨#[]⟩) by simp [cnt, h]]
      have h' : (n == -9223372036854775808) = false := by simpa using h
      clear h
      go_enter Tryz.func25, Tryz.ntmps25
      go_wp2
      refine bodyPost_ret (v := .agg #[.int .i64 1, .int .i64 n, .string ⟨#[]⟩]) (by simp [results, Tryz.results25, go_sem]) rfl ?_
      exact ⟨rfl, by go_grown⟩
  by_cases h2 : k = 2
  · subst h2
    by_cases h : 1000 < t.size
    · have c := hidv (fun w => fault_any 3 w)
      rw [show cnt 2 n t = (4, 3, ⟨#[]⟩) by simp [cnt, h]]
      have h' : (1000 : Int) < t.size := by omega
      clear h h1
      go_enter Tryz.func25, Tryz.ntmps25
      go_wp2_with (go_at_call 38; refine (c.out _).mono ?_; rintro e w1 ⟨rfl, hb1⟩; have B1 := hidv (bel_set3b hb1); obtain ⟨p0, p1, p2, f0, f1, f2⟩ := three (box3b2 hb1); obtain ⟨s0, s1, s2⟩ := three_set p0 p1 p2; clear hb1)
      refine bodyPost_ret (v := .agg #[.int .i64 4, .int .i64 3, .string ⟨#[]⟩]) (by simp [results, Tryz.results25, go_sem, *]) rfl ?_
      exact ⟨rfl, B1.out _ _ _⟩
    · rw [show cnt 2 n t = (2, 0, t) by simp [cnt, h]]
      have h' : ¬ (1000 : Int) < t.size := by omega
      clear h h1
      go_enter Tryz.func25, Tryz.ntmps25
      go_wp2
      refine bodyPost_ret (v := .agg #[.int .i64 2, .int .i64 0, .string t]) (by simp [results, Tryz.results25, go_sem]) rfl ?_
      exact ⟨rfl, by go_grown⟩
  by_cases h3 : k = 3
  · subst h3
    by_cases h : n = 0
    · have c0 := fun w => ofb_any false w
      simp only [Bool.false_eq_true, if_false] at c0
      have c := hidv c0
      rw [show cnt 3 n t = (3, 0, ⟨#[]⟩) by simp [cnt, h]]
      subst h
      clear c0 h1 h2
      go_enter Tryz.func25, Tryz.ntmps25
      go_wp2_with (go_at_call 36; refine (c.out _).mono ?_; rintro e w1 ⟨rfl, hb1⟩; have B1 := hidv (bel_set3b hb1); obtain ⟨p0, p1, p2, f0, f1, f2⟩ := three (box3b2 hb1); obtain ⟨s0, s1, s2⟩ := three_set p0 p1 p2; clear hb1)
      refine bodyPost_ret (v := .agg #[.int .i64 3, .int .i64 0, .string ⟨#[]⟩]) (by simp [results, Tryz.results25, go_sem, *]) rfl ?_
      exact ⟨rfl, B1.out _ _ _⟩
    · have c0 := fun w => ofb_any true w
      simp only [if_true] at c0
      have c := hidv c0
      rw [show cnt 3 n t = (3, 1, ⟨#[]⟩) by simp [cnt, h]]
      have h' : (n == 0) = false := by simpa using h
      have h'' : (n != 0) = true := by simpa using h
      clear h c0 h1 h2
      go_enter Tryz.func25, Tryz.ntmps25
      go_wp2_with (go_at_call 36; refine (c.out _).mono ?_; rintro e w1 ⟨rfl, hb1⟩; have B1 := hidv (bel_set3b hb1); obtain ⟨p0, p1, p2, f0, f1, f2⟩ := three (box3b2 hb1); obtain ⟨s0, s1, s2⟩ := three_set p0 p1 p2; clear hb1)
      refine bodyPost_ret (v := .agg #[.int .i64 3, .int .i64 1, .string ⟨#[]⟩]) (by simp [results, Tryz.results25, go_sem, *]) rfl ?_
      exact ⟨rfl, B1.out _ _ _⟩
  by_cases h4 : k = 4
  · subst h4
    clear h1 h2 h3
    by_cases ha : n < 1
    · have c := hidv (fun w => fault_any 3 w)
      rw [show cnt 4 n t = (4, 3, ⟨#[]⟩) by simp [cnt, ha]]
      go_enter Tryz.func25, Tryz.ntmps25
      go_wp2_with (go_at_call 38; refine (c.out _).mono ?_; rintro e w1 ⟨rfl, hb1⟩; have B1 := hidv (bel_set3b hb1); obtain ⟨p0, p1, p2, f0, f1, f2⟩ := three (box3b2 hb1); obtain ⟨s0, s1, s2⟩ := three_set p0 p1 p2; clear hb1)
      refine bodyPost_ret (v := .agg #[.int .i64 4, .int .i64 3, .string ⟨#[]⟩]) (by simp [results, Tryz.results25, go_sem, *]) rfl ?_
      exact ⟨rfl, B1.out _ _ _⟩
    by_cases hb : 6 < n
    · have c := hidv (fun w => fault_any 3 w)
      rw [show cnt 4 n t = (4, 3, ⟨#[]⟩) by simp [cnt, hb]]
      go_enter Tryz.func25, Tryz.ntmps25
      go_wp2_with (go_at_call 38; refine (c.out _).mono ?_; rintro e w1 ⟨rfl, hb1⟩; have B1 := hidv (bel_set3b hb1); obtain ⟨p0, p1, p2, f0, f1, f2⟩ := three (box3b2 hb1); obtain ⟨s0, s1, s2⟩ := three_set p0 p1 p2; clear hb1)
      refine bodyPost_ret (v := .agg #[.int .i64 4, .int .i64 3, .string ⟨#[]⟩]) (by simp [results, Tryz.results25, go_sem, *]) rfl ?_
      exact ⟨rfl, B1.out _ _ _⟩
    · have c := hidv (fun w => fault_any n w)
      rw [show cnt 4 n t = (4, n, ⟨#[]⟩) by simp [cnt, ha, hb]]
      go_enter Tryz.func25, Tryz.ntmps25
      go_wp2_with (go_at_call 38; refine (c.out _).mono ?_; rintro e w1 ⟨rfl, hb1⟩; have B1 := hidv (bel_set3b hb1); obtain ⟨p0, p1, p2, f0, f1, f2⟩ := three (box3b2 hb1); obtain ⟨s0, s1, s2⟩ := three_set p0 p1 p2; clear hb1)
      refine bodyPost_ret (v := .agg #[.int .i64 4, .int .i64 n, .string ⟨#[]⟩]) (by simp [results, Tryz.results25, go_sem, *]) rfl ?_
      exact ⟨rfl, B1.out _ _ _⟩
  have e1 : (k == 1) = false := by simpa using h1
  have e2 : (k == 2) = false := by simpa using h2
  have e3 : (k == 3) = false := by simpa using h3
  have e4 : (k == 4) = false := by simpa using h4
  rw [show cnt k n t = (0, 0, ⟨#[]⟩) by simp [cnt, h1, h2, h3, h4]]
  clear h1 h2 h3 h4
  go_enter Tryz.func25, Tryz.ntmps25
  go_wp2
  refine bodyPost_ret (v := .agg #[.int .i64 0, .int .i64 0, .string ⟨#[]⟩]) (by simp [results, Tryz.results25, go_sem]) rfl ?_
  exact ⟨rfl, by go_grown⟩
end Go.Proofs.YtjbkjeabobccaabGreatDoor
