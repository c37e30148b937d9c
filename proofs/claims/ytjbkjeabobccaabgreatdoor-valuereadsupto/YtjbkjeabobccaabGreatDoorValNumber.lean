import Derived.Test.YtjbkjeabobccaabGreatDoorValMap
import Derived.Test.YtjbkjeabobccaabGreatDoorNumAlive
namespace Go.Proofs.YtjbkjeabobccaabGreatDoor
open Go.RowKit Go.Sort Go.Lib
set_option linter.unusedVariables false

/-- One box of three. -/
structure OneB (w wx : World) (T : TypeId) (p q r : Value) : Prop where
  a : wx.heap[w.heap.size]? = some (.cells #[p, q, r] T (0, 0))
  low : Below w.heap.size w wx
theorem OneB.step {w W w1 : World} {T : TypeId} {p q r : Value} (h : OneB w W T p q r) (hb : Below W.heap.size W w1) : OneB w w1 T p q r :=
  ⟨by rw [hb.block _ (lt_blk h.a)]; exact h.a, h.low.trans (hb.mono h.low.size)⟩
theorem OneB.seta {w W : World} {T : TypeId} {p q r : Value} (h : OneB w W T p q r) (u v t : Value) : OneB w (((W.setCell ⟨w.heap.size, 0, none⟩ u).setCell ⟨w.heap.size, 1, none⟩ v).setCell ⟨w.heap.size, 2, none⟩ t) T u v t :=
  ⟨set3_2 (set3_1 (set3_0 h.a)), ((h.low.setCell (Nat.le_refl _) _).setCell (Nat.le_refl _) _).setCell (Nat.le_refl _) _⟩
theorem oneB_new (w : World) (T : TypeId) (p q r : Value) : OneB w (w.alloc (.cells #[p, q, r] T)) T p q r :=
  ⟨by show (w.heap.push _)[_]? = _; rw [Array.getElem?_push_size], (Below.refl _ _).alloc (Nat.le_refl _) _⟩

/-- The number that one that counts tells, and the error (B4). -/
def numI (K N : Int) (T : ByteArray) : Int × Int :=
  if K = 1 then (N, 0) else if K = 2 then (if (parseR T.data.toList).2 then ((parseR T.data.toList).1, 0) else (0, 3)) else if K = 3 then (N * 1000000, 0) else if K = 4 then (0, N) else (0, 0)
theorem cnt_truth (k n : Int) (t : ByteArray) {K N : Int} {T : ByteArray} (h : cnt k n t = (K, N, T)) (hK : K = 3) : N = 0 ∨ N = 1 := by
  subst hK
  unfold cnt at h
  split at h
  · split at h <;> simp at h
  · split at h
    · split at h <;> simp at h
    · split at h
      · simp at h
        obtain ⟨h, _⟩ := h
        split at h <;> omega
      · split at h <;> simp at h

set_option maxHeartbeats 2000000 in
set_option maxRecDepth 100000 in
theorem number_cn (k n : Int) (t : ByteArray) (K N : Int) (T : ByteArray) (h1 : Cn k n t K N T) (w : World) (hE : Env w) :
    Calls Tryz.prog 16 #[.agg #[.int .i64 k, .int .i64 n, .string t]] w fun e w' => e = .returned (.tuple #[.int .i64 (numI K N T).1, .int .i64 (numI K N T).2]) ∧ Below w.heap.size w w' := by
  have cc := hidv counted_cn
  have H1 := hidv h1
  have HE := hidv hE
  have HZ := hidv (cnt_size k n t h1.e)
  have HT := hidv (fun h => cnt_truth k n t h1.e h)
  clear h1 hE
  obtain ⟨x, ex⟩ : ∃ x, (numI K N T).1 = x := ⟨_, rfl⟩
  obtain ⟨y, ey⟩ : ∃ y, (numI K N T).2 = y := ⟨_, rfl⟩
  rw [ex, ey]
  have HX := hidv ex
  have HY := hidv ey
  clear ex ey
  go_enter Tryz.func16, Tryz.ntmps16
  have HB := hidv (oneB_new w 23 (.int .i64 k) (.int .i64 n) (.string t))
  go_wp2_with fail
  refine (cc.out _ _ _ _ _ _ (by exact H1.out) _).mono ?_
  rintro e w1 ⟨rfl, hb1⟩
  have HB1 := hidv (HB.out.step hb1)
  have HB2 := hidv (HB1.out.seta (.int .i64 K) (.int .i64 N) (.string T))
  obtain ⟨c0, c1, c2, f0, f1, f2⟩ := three HB1.out.a
  clear hb1 HB HB1 H1 cc
  go_upto_region 2 with fail
  clear c0 c1 c2 f0 f1 f2
  generalize (((w1.setCell ⟨w.heap.size, 0, none⟩ (.int .i64 K)).setCell ⟨w.heap.size, 1, none⟩ (.int .i64 N)).setCell ⟨w.heap.size, 2, none⟩ (.string T)) = wc at HB2 ⊢
  obtain ⟨c0, c1, c2, f0, f1, f2⟩ := three HB2.out.a
  have HL := hidv HB2.out.low
  clear HB2 f0 f1 f2
  by_cases g1 : K = 1
  · subst g1
    have VX : Hid (N = x) := by show _ = _; rw [← HX.out]; simp [numI]
    have VY : Hid (0 = y) := by show _ = _; rw [← HY.out]; simp [numI]
    go_wp2_with fail
    go_ret2
    exact ⟨by rw [← VX.out, ← VY.out]; rfl, HL.out⟩
  by_cases g2 : K = 2
  · subst g2
    have cp := hidv (fun w hE => parse_any T w hE (by have := HZ.out; omega))
    cases hp : (parseR T.data.toList).2
    · have VX : Hid (0 = x) := by show _ = _; rw [← HX.out]; simp [numI, hp]
      have VY : Hid (3 = y) := by show _ = _; rw [← HY.out]; simp [numI, hp]
      rw [hp] at cp
      generalize (parseR T.data.toList).1 = P1 at cp
      clear hp g1
      go_wp2_with fail
      refine (cp.out _ (HE.out.step HL.out)).mono ?_
      rintro e w5 ⟨rfl, hb5⟩
      have B5 := hidv (key2v HL.out hb5)
      go_wp2_with fail
      go_ret2
      exact ⟨by rw [← VX.out, ← VY.out]; rfl, B5.out⟩
    · have VX : Hid ((parseR T.data.toList).1 = x) := by show _ = _; rw [← HX.out]; simp [numI, hp]
      have VY : Hid (0 = y) := by show _ = _; rw [← HY.out]; simp [numI, hp]
      rw [hp] at cp
      generalize (parseR T.data.toList).1 = P1 at cp VX
      clear hp g1
      go_wp2_with fail
      refine (cp.out _ (HE.out.step HL.out)).mono ?_
      rintro e w5 ⟨rfl, hb5⟩
      have B5 := hidv (key2v HL.out hb5)
      go_wp2_with fail
      go_ret2
      exact ⟨by rw [← VX.out, ← VY.out]; rfl, B5.out⟩
  by_cases g3 : K = 3
  · subst g3
    have VX : Hid (N * 1000000 = x) := by show _ = _; rw [← HX.out]; simp [numI]
    have VY : Hid (0 = y) := by show _ = _; rw [← HY.out]; simp [numI]
    clear g1 g2
    rcases HT.out rfl with h | h
    · subst h
      go_wp2_with fail
      go_ret2
      exact ⟨by rw [← VX.out, ← VY.out]; rfl, HL.out⟩
    · subst h
      go_wp2_with fail
      go_ret2
      exact ⟨by rw [← VX.out, ← VY.out]; rfl, HL.out⟩
  by_cases g4 : K = 4
  · subst g4
    have VX : Hid (0 = x) := by show _ = _; rw [← HX.out]; simp [numI]
    have VY : Hid (N = y) := by show _ = _; rw [← HY.out]; simp [numI]
    clear g1 g2 g3
    go_wp2_with fail
    go_region
    all_goals
      go_wp2_with fail
      go_ret2
      exact ⟨by rw [← VX.out, ← VY.out]; rfl, HL.out.drew⟩
  have VX : Hid (0 = x) := by show _ = _; rw [← HX.out]; simp [numI, g1, g2, g3, g4]
  have VY : Hid (0 = y) := by show _ = _; rw [← HY.out]; simp [numI, g1, g2, g3, g4]
  have q1 : (K == 1) = false := by simpa using g1
  have q2 : (K == 2) = false := by simpa using g2
  have q3 : (K == 3) = false := by simpa using g3
  have q4 : (K == 4) = false := by simpa using g4
  clear g1 g2 g3 g4
  go_wp2_with fail
  go_ret2
  exact ⟨by rw [← VX.out, ← VY.out]; rfl, HL.out⟩
end Go.Proofs.YtjbkjeabobccaabGreatDoor
