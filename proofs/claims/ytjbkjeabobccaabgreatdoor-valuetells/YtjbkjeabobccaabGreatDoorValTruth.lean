import Derived.Test.YtjbkjeabobccaabGreatDoorValRTell
namespace Go.Proofs.YtjbkjeabobccaabGreatDoor
open Go.RowKit Go.Sort Go.Lib
set_option linter.unusedVariables false

/-- Whether one that counts is true, and the error (B4). -/
def truI (K N : Int) (T : ByteArray) : Bool × Int :=
  if K = 1 ∨ K = 3 then (N != 0, 0) else if K = 2 then (if (truR T.data.toList).2 then ((truR T.data.toList).1, 0) else (false, 3)) else if K = 4 then (false, N) else (false, 0)

set_option maxHeartbeats 2000000 in
set_option maxRecDepth 100000 in
theorem truth_cn (k n : Int) (t : ByteArray) (K N : Int) (T : ByteArray) (h1 : Ci k n t K N T) (w : World) :
    Calls Tryz.prog 17 #[.agg #[.int .i64 k, .int .i64 n, .string t]] w fun e w' => e = .returned (.tuple #[.bool (truI K N T).1, .int .i64 (truI K N T).2]) ∧ Below w.heap.size w w' := by
  have cc := hidv counted_cn
  have H1 := hidv h1
  have HZ := hidv (cnt_size k n t h1.cn.e)
  clear h1
  obtain ⟨x, ex⟩ : ∃ x, (truI K N T).1 = x := ⟨_, rfl⟩
  obtain ⟨y, ey⟩ : ∃ y, (truI K N T).2 = y := ⟨_, rfl⟩
  rw [ex, ey]
  have HX := hidv ex
  have HY := hidv ey
  clear ex ey
  go_enter Tryz.func17, Tryz.ntmps17
  have HB := hidv (oneB_new w 23 (.int .i64 k) (.int .i64 n) (.string t))
  go_wp2_with fail
  refine (cc.out _ _ _ _ _ _ (by exact H1.out.cn) _).mono ?_
  rintro e w1 ⟨rfl, hb1⟩
  have HB1 := hidv (HB.out.step hb1)
  have HB2 := hidv (HB1.out.seta (.int .i64 K) (.int .i64 N) (.string T))
  obtain ⟨c0, c1, c2, f0, f1, f2⟩ := three HB1.out.a
  clear hb1 HB HB1 cc
  go_upto_region 2 with fail
  clear c0 c1 c2 f0 f1 f2
  generalize (((w1.setCell ⟨w.heap.size, 0, none⟩ (.int .i64 K)).setCell ⟨w.heap.size, 1, none⟩ (.int .i64 N)).setCell ⟨w.heap.size, 2, none⟩ (.string T)) = wc at HB2 ⊢
  obtain ⟨c0, c1, c2, f0, f1, f2⟩ := three HB2.out.a
  have HL := hidv HB2.out.low
  clear HB2 f0 f1 f2
  by_cases g1 : K = 1
  · subst g1
    have VX : Hid ((N != 0) = x) := by show _ = _; rw [← HX.out]; simp [truI]
    have VY : Hid (0 = y) := by show _ = _; rw [← HY.out]; simp [truI]
    go_wp2_with fail
    go_ret2
    exact ⟨by rw [← VX.out, ← VY.out]; rfl, HL.out⟩
  by_cases g3 : K = 3
  · subst g3
    have VX : Hid ((N != 0) = x) := by show _ = _; rw [← HX.out]; simp [truI]
    have VY : Hid (0 = y) := by show _ = _; rw [← HY.out]; simp [truI]
    clear g1
    go_wp2_with fail
    go_ret2
    exact ⟨by rw [← VX.out, ← VY.out]; rfl, HL.out⟩
  by_cases g2 : K = 2
  · subst g2
    clear g1 g3
    have ct := hidv (fun w => readTruth_any T w (by have := HZ.out; unfold maxLen; omega))
    cases hp : (truR T.data.toList).2
    · have VX : Hid (false = x) := by show _ = _; rw [← HX.out]; simp [truI, hp]
      have VY : Hid (3 = y) := by show _ = _; rw [← HY.out]; simp [truI, hp]
      rw [hp] at ct
      generalize (truR T.data.toList).1 = P1 at ct
      clear hp
      go_wp2_with fail
      refine (ct.out _).mono ?_
      rintro e w5 ⟨rfl, hb5⟩
      have B5 := hidv (key2v HL.out hb5)
      go_wp2_with fail
      go_ret2
      exact ⟨by rw [← VX.out, ← VY.out]; rfl, B5.out⟩
    · have VX : Hid ((truR T.data.toList).1 = x) := by show _ = _; rw [← HX.out]; simp [truI, hp]
      have VY : Hid (0 = y) := by show _ = _; rw [← HY.out]; simp [truI, hp]
      rw [hp] at ct
      generalize (truR T.data.toList).1 = P1 at ct VX
      clear hp
      go_wp2_with fail
      refine (ct.out _).mono ?_
      rintro e w5 ⟨rfl, hb5⟩
      have B5 := hidv (key2v HL.out hb5)
      go_wp2_with fail
      go_ret2
      exact ⟨by rw [← VX.out, ← VY.out]; rfl, B5.out⟩
  by_cases g4 : K = 4
  · subst g4
    have VX : Hid (false = x) := by show _ = _; rw [← HX.out]; simp [truI]
    have VY : Hid (N = y) := by show _ = _; rw [← HY.out]; simp [truI]
    clear g1 g2 g3
    go_wp2_with fail
    go_region
    all_goals
      go_wp2_with fail
      go_ret2
      exact ⟨by rw [← VX.out, ← VY.out]; rfl, HL.out.drew⟩
  have VX : Hid (false = x) := by show _ = _; rw [← HX.out]; simp [truI, g1, g2, g3, g4]
  have VY : Hid (0 = y) := by show _ = _; rw [← HY.out]; simp [truI, g1, g2, g3, g4]
  have q1 : (K == 1) = false := by simpa using g1
  have q2 : (K == 2) = false := by simpa using g2
  have q3 : (K == 3) = false := by simpa using g3
  have q4 : (K == 4) = false := by simpa using g4
  clear g1 g2 g3 g4
  go_wp2_with fail
  go_ret2
  exact ⟨by rw [← VX.out, ← VY.out]; rfl, HL.out⟩

set_option maxHeartbeats 2000000 in
set_option maxRecDepth 100000 in
theorem rTruth_cn (k n : Int) (t : ByteArray) (K N : Int) (T : ByteArray) (h1 : Ci k n t K N T) (w : World) :
    Calls Tryz.prog 20 #[.agg #[.int .i64 k, .int .i64 n, .string t]] w fun e w' => e = .returned (.tuple #[.bool (truI K N T).1, .int .i64 (truI K N T).2]) ∧ Below w.heap.size w w' := by
  have cc := hidv as_cn
  have H1 := hidv h1
  have HZ := hidv (cnt_size k n t h1.cn.e)
  clear h1
  obtain ⟨x, ex⟩ : ∃ x, (truI K N T).1 = x := ⟨_, rfl⟩
  obtain ⟨y, ey⟩ : ∃ y, (truI K N T).2 = y := ⟨_, rfl⟩
  rw [ex, ey]
  have HX := hidv ex
  have HY := hidv ey
  clear ex ey
  go_enter Tryz.func20, Tryz.ntmps20
  have HB := hidv (oneB_new w 25 (.int .i64 k) (.int .i64 n) (.string t))
  go_wp2_with fail
  refine (cc.out _ _ _ _ _ _ (by exact H1.out.cn) _).mono ?_
  rintro e w1 ⟨rfl, hb1⟩
  have HB1 := hidv (HB.out.step hb1)
  have HB2 := hidv (HB1.out.seta (.int .i64 K) (.int .i64 N) (.string T))
  obtain ⟨c0, c1, c2, f0, f1, f2⟩ := three HB1.out.a
  clear hb1 HB HB1 cc
  go_upto_region 2 with fail
  clear c0 c1 c2 f0 f1 f2
  generalize (((w1.setCell ⟨w.heap.size, 0, none⟩ (.int .i64 K)).setCell ⟨w.heap.size, 1, none⟩ (.int .i64 N)).setCell ⟨w.heap.size, 2, none⟩ (.string T)) = wc at HB2 ⊢
  obtain ⟨c0, c1, c2, f0, f1, f2⟩ := three HB2.out.a
  have HL := hidv HB2.out.low
  clear HB2 f0 f1 f2
  by_cases g1 : K = 1
  · subst g1
    have VX : Hid ((N != 0) = x) := by show _ = _; rw [← HX.out]; simp [truI]
    have VY : Hid (0 = y) := by show _ = _; rw [← HY.out]; simp [truI]
    go_wp2_with fail
    go_ret2
    exact ⟨by rw [← VX.out, ← VY.out]; rfl, HL.out⟩
  by_cases g3 : K = 3
  · subst g3
    have VX : Hid ((N != 0) = x) := by show _ = _; rw [← HX.out]; simp [truI]
    have VY : Hid (0 = y) := by show _ = _; rw [← HY.out]; simp [truI]
    clear g1
    go_wp2_with fail
    go_ret2
    exact ⟨by rw [← VX.out, ← VY.out]; rfl, HL.out⟩
  by_cases g2 : K = 2
  · subst g2
    clear g1 g3
    have ct0 := fun w => bigs_any T w (by have := HZ.out; unfold maxLen; omega)
    obtain ⟨C, eC⟩ : ∃ C : ByteArray, (⟨(T.data.toList.map cap).toArray⟩ : ByteArray) = C := ⟨_, rfl⟩
    have eL : C.toList = T.data.toList.map cap := by rw [Lib.toList_data, ← eC]
    rw [eC] at ct0
    have ct := hidv ct0
    clear eC ct0
    by_cases h1 : T.data.toList.map cap = [84, 82, 85, 69]
    · have VX : Hid (true = x) := by show _ = _; rw [← HX.out]; simp [truI, truR, h1]
      have VY : Hid (0 = y) := by show _ = _; rw [← HY.out]; simp [truI, truR, h1]
      have q1 : (C.toList == [84, 82, 85, 69]) = true := by rw [eL, h1]; rfl
      have q1' : (C.toList != [84, 82, 85, 69]) = false := by rw [eL, h1]; rfl
      clear eL h1
      go_wp2_with fail
      refine (ct.out _).mono ?_
      rintro e w5 ⟨rfl, hb5⟩
      have B5 := hidv (key2v HL.out hb5)
      go_wp2_with fail
      go_ret2
      exact ⟨by rw [← VX.out, ← VY.out]; rfl, B5.out⟩
    by_cases h2 : T.data.toList.map cap = [70, 65, 76, 83, 69]
    · have VX : Hid (false = x) := by show _ = _; rw [← HX.out]; simp [truI, truR, h2]
      have VY : Hid (0 = y) := by show _ = _; rw [← HY.out]; simp [truI, truR, h2]
      have q1 : (C.toList == [84, 82, 85, 69]) = false := by rw [eL]; simpa using h1
      have q1' : (C.toList != [84, 82, 85, 69]) = true := by rw [eL]; simpa using h1
      have q2 : (C.toList == [70, 65, 76, 83, 69]) = true := by rw [eL, h2]; rfl
      have q2' : (C.toList != [70, 65, 76, 83, 69]) = false := by rw [eL, h2]; rfl
      clear eL h1 h2
      go_wp2_with fail
      refine (ct.out _).mono ?_
      rintro e w5 ⟨rfl, hb5⟩
      have B5 := hidv (key2v HL.out hb5)
      go_wp2_with fail
      go_ret2
      exact ⟨by rw [← VX.out, ← VY.out]; rfl, B5.out⟩
    · have VX : Hid (false = x) := by show _ = _; rw [← HX.out]; simp [truI, truR, h1, h2]
      have VY : Hid (3 = y) := by show _ = _; rw [← HY.out]; simp [truI, truR, h1, h2]
      have q1 : (C.toList == [84, 82, 85, 69]) = false := by rw [eL]; simpa using h1
      have q1' : (C.toList != [84, 82, 85, 69]) = true := by rw [eL]; simpa using h1
      have q2 : (C.toList == [70, 65, 76, 83, 69]) = false := by rw [eL]; simpa using h2
      have q2' : (C.toList != [70, 65, 76, 83, 69]) = true := by rw [eL]; simpa using h2
      clear eL h1 h2
      go_wp2_with fail
      refine (ct.out _).mono ?_
      rintro e w5 ⟨rfl, hb5⟩
      have B5 := hidv (key2v HL.out hb5)
      go_wp2_with fail
      go_ret2
      exact ⟨by rw [← VX.out, ← VY.out]; rfl, B5.out⟩
  by_cases g4 : K = 4
  · subst g4
    have VX : Hid (false = x) := by show _ = _; rw [← HX.out]; simp [truI]
    have VY : Hid (N = y) := by show _ = _; rw [← HY.out]; simp [truI]
    clear g1 g2 g3
    go_wp2_with fail
    go_region
    all_goals
      go_wp2_with fail
      go_ret2
      exact ⟨by rw [← VX.out, ← VY.out]; rfl, HL.out.drew⟩
  have VX : Hid (false = x) := by show _ = _; rw [← HX.out]; simp [truI, g1, g2, g3, g4]
  have VY : Hid (0 = y) := by show _ = _; rw [← HY.out]; simp [truI, g1, g2, g3, g4]
  have q1 : (K == 1) = false := by simpa using g1
  have q2 : (K == 2) = false := by simpa using g2
  have q3 : (K == 3) = false := by simpa using g3
  have q4 : (K == 4) = false := by simpa using g4
  clear g1 g2 g3 g4
  go_wp2_with fail
  go_ret2
  exact ⟨by rw [← VX.out, ← VY.out]; rfl, HL.out⟩
end Go.Proofs.YtjbkjeabobccaabGreatDoor
