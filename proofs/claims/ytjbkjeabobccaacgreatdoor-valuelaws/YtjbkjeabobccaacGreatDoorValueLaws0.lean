import Derived.Lib.ItoaLen
import Derived.Test.YtjbkjeabobccaacGreatDoorValLawsMath
import Derived.Test.YtjbkjeabobccaacGreatDoorValWork
import Derived.Test.YtjbkjeabobccaacGreatDoorValWorkCmp
import Derived.Test.YtjbkjeabobccaacGreatDoorValWorkMore
import Derived.Test.YtjbkjeabobccaacGreatDoorValWorkJoin
import Derived.Test.YtjbkjeabobccaacGreatDoorValRead
import Derived.Test.YtjbkjeabobccaacGreatDoorNumMul1
namespace Go.Proofs.YtjbkjeabobccaacGreatDoor
open Go.RowKit Go.Sort Go.Lib
set_option linter.unusedVariables false

/-- Boxes that stay as they are. -/
structure Kept (fs : List (Nat × Obj)) (w wx : World) : Prop where
  has : ∀ p, p ∈ fs → wx.heap[p.1]? = some p.2
  low : Below w.heap.size w wx
theorem Kept.nil (w : World) : Kept [] w w := ⟨fun p h => (by cases h), Below.refl _ _⟩
theorem Kept.step {fs : List (Nat × Obj)} {w W w1 : World} (h : Kept fs w W) (hb : Below W.heap.size W w1) : Kept fs w w1 :=
  ⟨fun p hp => by rw [hb.block _ (lt_blk (h.has p hp))]; exact h.has p hp, h.low.trans (hb.mono h.low.size)⟩
theorem Kept.add {fs : List (Nat × Obj)} {w W : World} (h : Kept fs w W) (o : Obj) : Kept ((W.heap.size, o) :: fs) w (W.alloc o) := by
  have hb : Below W.heap.size W (W.alloc o) := (Below.refl _ _).alloc (Nat.le_refl _) _
  refine ⟨fun p hp => ?_, (h.step hb).low⟩
  rcases List.mem_cons.1 hp with e | hp
  · subst e
    show (W.heap.push o)[_]? = _
    rw [Array.getElem?_push_size]
  · exact (h.step hb).has p hp
set_option maxHeartbeats 800000 in
theorem given3_any (k n : Int) (t : ByteArray) (w : World) : Calls Tryz.prog 4 #[.agg #[.int .i64 k, .int .i64 n, .string t]] w fun e w' => e = .returned (.agg #[.int .i64 k, .int .i64 n, .string t]) ∧ Below w.heap.size w w' := by
  go_enter Tryz.func4, Tryz.ntmps4
  go_wp2
  refine bodyPost_ret (v := .agg #[.int .i64 k, .int .i64 n, .string t]) (by simp [results, Tryz.results4, go_sem]) rfl ?_
  exact ⟨rfl, by go_grown⟩
theorem numI_bd (k n : Int) (t : ByteArray) (K N : Int) (T : ByteArray) (h : Ci k n t K N T) : (numI K N T).1 ≤ 9223372036854775807 := by
  unfold numI
  split
  · rename_i e
    have := cnt_num k n t h.cn.e e
    have := h.hi
    simp; omega
  · split
    · split
      · rename_i hp
        exact (parseR_bd _ hp).2
      · simp
    · split
      · rename_i e
        have := cnt_truth k n t h.cn.e e
        simp; omega
      · split <;> simp
theorem ci_self {k n : Int} {t : ByteArray} {K N : Int} {T : ByteArray} (h : Ci k n t K N T) : Ci K N T K N T := by
  refine ⟨cn_self h.cn, ?_, ?_⟩
  · have h1 := h.cn.e
    unfold cnt at h1
    have := h.lo
    repeat' split at h1
    all_goals (simp at h1; omega)
  · have h1 := h.cn.e
    unfold cnt at h1
    have := h.hi
    repeat' split at h1
    all_goals (simp at h1; omega)

theorem work_twoAdd {k1 n1 : Int} {t1 : ByteArray} {k2 n2 : Int} {t2 : ByteArray} {K1 N1 : Int} {T1 : ByteArray} {K2 N2 : Int} {T2 : ByteArray} (c1 : Ci k1 n1 t1 K1 N1 T1) (c2 : Ci k2 n2 t2 K2 N2 T2) (g1 : ¬ K1 = 4) (g2 : ¬ K2 = 4) :
    ∃ d e e' : Int, (d = 1 → e = e') ∧
      (∀ w, Env w → Calls Tryz.prog 8 #[.string ⟨#[43]⟩, .agg #[.int .i64 k1, .int .i64 n1, .string t1], .agg #[.int .i64 k2, .int .i64 n2, .string t2]] w fun r w' => r = .returned (.agg #[.int .i64 d, .int .i64 e, .string ⟨#[]⟩]) ∧ Below w.heap.size w w') ∧
      (∀ w, Env w → Calls Tryz.prog 8 #[.string ⟨#[43]⟩, .agg #[.int .i64 k2, .int .i64 n2, .string t2], .agg #[.int .i64 k1, .int .i64 n1, .string t1]] w fun r w' => r = .returned (.agg #[.int .i64 d, .int .i64 e', .string ⟨#[]⟩]) ∧ Below w.heap.size w w') := by
  obtain ⟨⟨X, E1⟩, hx⟩ : ∃ p, numI K1 N1 T1 = p := ⟨_, rfl⟩
  obtain ⟨⟨Y, E2⟩, hy⟩ : ∃ p, numI K2 N2 T2 = p := ⟨_, rfl⟩
  have bx := numI_bd _ _ _ _ _ _ c1
  have b_y := numI_bd _ _ _ _ _ _ c2
  rw [hx] at bx
  rw [hy] at b_y
  have ht := calc_turn E1 E2 (addR X Y).1 (addR X Y).2
  have hc := addR_turn Y X
  refine ⟨(calcD E1 E2 (addR X Y).1 (addR X Y).2).1, (calcD E1 E2 (addR X Y).1 (addR X Y).2).2, (calcD E2 E1 (addR X Y).1 (addR X Y).2).2, ht.2, fun w hE => ?_, fun w hE => ?_⟩
  · exact work_Add k1 n1 t1 k2 n2 t2 K1 N1 T1 K2 N2 T2 c1.cn c2.cn X E1 Y E2 _ _ hx hy (fun _ _ w => (add_any X Y w bx b_y).mono (by rintro r w' ⟨rfl, rfl⟩; exact ⟨rfl, Below.refl _ _⟩)) w hE (_, _, ⟨#[]⟩) (by simp [pick3, g1, g2])
  · rw [ht.1]
    exact work_Add k2 n2 t2 k1 n1 t1 K2 N2 T2 K1 N1 T1 c2.cn c1.cn Y E2 X E1 (addR X Y).1 (addR X Y).2 hy hx (fun _ _ w => by rw [← hc]; exact (add_any Y X w b_y bx).mono (by rintro r w' ⟨rfl, rfl⟩; exact ⟨rfl, Below.refl _ _⟩)) w hE (_, _, ⟨#[]⟩) (by simp [pick3, g1, g2])

theorem work_twoMul {k1 n1 : Int} {t1 : ByteArray} {k2 n2 : Int} {t2 : ByteArray} {K1 N1 : Int} {T1 : ByteArray} {K2 N2 : Int} {T2 : ByteArray} (c1 : Ci k1 n1 t1 K1 N1 T1) (c2 : Ci k2 n2 t2 K2 N2 T2) (g1 : ¬ K1 = 4) (g2 : ¬ K2 = 4) :
    ∃ d e e' : Int, (d = 1 → e = e') ∧
      (∀ w, Env w → Calls Tryz.prog 8 #[.string ⟨#[42]⟩, .agg #[.int .i64 k1, .int .i64 n1, .string t1], .agg #[.int .i64 k2, .int .i64 n2, .string t2]] w fun r w' => r = .returned (.agg #[.int .i64 d, .int .i64 e, .string ⟨#[]⟩]) ∧ Below w.heap.size w w') ∧
      (∀ w, Env w → Calls Tryz.prog 8 #[.string ⟨#[42]⟩, .agg #[.int .i64 k2, .int .i64 n2, .string t2], .agg #[.int .i64 k1, .int .i64 n1, .string t1]] w fun r w' => r = .returned (.agg #[.int .i64 d, .int .i64 e', .string ⟨#[]⟩]) ∧ Below w.heap.size w w') := by
  obtain ⟨⟨X, E1⟩, hx⟩ : ∃ p, numI K1 N1 T1 = p := ⟨_, rfl⟩
  obtain ⟨⟨Y, E2⟩, hy⟩ : ∃ p, numI K2 N2 T2 = p := ⟨_, rfl⟩
  have bx := numI_bd _ _ _ _ _ _ c1
  have b_y := numI_bd _ _ _ _ _ _ c2
  rw [hx] at bx
  rw [hy] at b_y
  have ht := calc_turn E1 E2 (mulR X Y).1 (mulR X Y).2
  have hc := mulR_comm Y X
  refine ⟨(calcD E1 E2 (mulR X Y).1 (mulR X Y).2).1, (calcD E1 E2 (mulR X Y).1 (mulR X Y).2).2, (calcD E2 E1 (mulR X Y).1 (mulR X Y).2).2, ht.2, fun w hE => ?_, fun w hE => ?_⟩
  · exact work_Mul k1 n1 t1 k2 n2 t2 K1 N1 T1 K2 N2 T2 c1.cn c2.cn X E1 Y E2 _ _ hx hy (fun _ _ w => (mul_any X Y w bx b_y).mono (by rintro r w' ⟨rfl, n, rfl⟩; exact ⟨rfl, bl _ _⟩)) w hE (_, _, ⟨#[]⟩) (by simp [pick3, g1, g2])
  · rw [ht.1]
    exact work_Mul k2 n2 t2 k1 n1 t1 K2 N2 T2 K1 N1 T1 c2.cn c1.cn Y E2 X E1 (mulR X Y).1 (mulR X Y).2 hy hx (fun _ _ w => by rw [← hc]; exact (mul_any Y X w b_y bx).mono (by rintro r w' ⟨rfl, n, rfl⟩; exact ⟨rfl, bl _ _⟩)) w hE (_, _, ⟨#[]⟩) (by simp [pick3, g1, g2])

theorem printL_len2 (n : Int) (h1 : -9223372036854775807 ≤ n) (h2 : n ≤ 9223372036854775807) : (printL n).length ≤ 100 := by
  have a1 : (decDigits (n.natAbs / 1000000)).length ≤ 20 := by rw [decDigits_length]; exact nDigits_le20 _ (by omega)
  have a2 : (decDigits (1000000 + n.natAbs % 1000000)).length ≤ 20 := by rw [decDigits_length]; exact nDigits_le20 _ (by omega)
  have a3 : (fracL n.natAbs).length ≤ 20 := by
    unfold fracL
    refine Nat.le_trans (trimRightB_le _ _) ?_
    rw [List.length_drop]
    omega
  unfold printL
  rw [List.length_append, List.length_append]
  split <;> split <;> simp <;> omega
theorem txt_size {k n : Int} {t : ByteArray} {K N : Int} {T : ByteArray} (h : Ci k n t K N T) : (txtI K N T).1.size ≤ 1000 := by
  unfold txtI
  split
  · rename_i e
    have hn := cnt_num k n t h.cn.e e
    have h1 := printL_len2 N (by have := h.lo; omega) (by have := h.hi; omega)
    rw [Lib.size_eq]
    simp
    omega
  · split
    · exact cnt_size k n t h.cn.e
    · split
      · cases (N != 0) <;> decide
      · split <;> (show (⟨#[]⟩ : ByteArray).size ≤ 1000) <;> decide
theorem slc {w : World} {b : Nat} {p q : Value} {T : TypeId} (h : w.heap[b]? = some (.cells #[p, q] T (0, 0))) : w.cell? ⟨b, 0, none⟩ = some p ∧ w.cell? ⟨b, 1, none⟩ = some q := by
  constructor <;> simp [World.cell?, h]
end Go.Proofs.YtjbkjeabobccaacGreatDoor
