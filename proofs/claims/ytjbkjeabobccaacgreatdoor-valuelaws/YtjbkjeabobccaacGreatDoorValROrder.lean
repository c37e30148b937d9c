import Derived.Test.YtjbkjeabobccaacGreatDoorValOrd
namespace Go.Proofs.YtjbkjeabobccaacGreatDoor
open Go.RowKit Go.Sort Go.Lib
set_option linter.unusedVariables false

theorem lt_blk {w : World} {b : Nat} {o : Obj} (h : w.heap[b]? = some o) : b < w.heap.size := by
  rcases Nat.lt_or_ge b w.heap.size with h' | h'
  · exact h'
  · simp [Array.getElem?_eq_none h'] at h
theorem set3_0 {w : World} {b : Nat} {p q r x : Value} {T : TypeId} (h : w.heap[b]? = some (.cells #[p, q, r] T (0, 0))) : (w.setCell ⟨b, 0, none⟩ x).heap[b]? = some (.cells #[x, q, r] T (0, 0)) := by
  have hlt := lt_blk h
  have h' : w.heap[b] = .cells #[p, q, r] T (0, 0) := by simpa [Array.getElem?_eq_getElem hlt] using h
  show (w.heap.modify b _)[b]? = _
  rw [Array.getElem?_eq_getElem (by simpa using hlt), Array.getElem_modify_self, h']
  rfl
theorem set3_1 {w : World} {b : Nat} {p q r x : Value} {T : TypeId} (h : w.heap[b]? = some (.cells #[p, q, r] T (0, 0))) : (w.setCell ⟨b, 1, none⟩ x).heap[b]? = some (.cells #[p, x, r] T (0, 0)) := by
  have hlt := lt_blk h
  have h' : w.heap[b] = .cells #[p, q, r] T (0, 0) := by simpa [Array.getElem?_eq_getElem hlt] using h
  show (w.heap.modify b _)[b]? = _
  rw [Array.getElem?_eq_getElem (by simpa using hlt), Array.getElem_modify_self, h']
  rfl
theorem set3_2 {w : World} {b : Nat} {p q r x : Value} {T : TypeId} (h : w.heap[b]? = some (.cells #[p, q, r] T (0, 0))) : (w.setCell ⟨b, 2, none⟩ x).heap[b]? = some (.cells #[p, q, x] T (0, 0)) := by
  have hlt := lt_blk h
  have h' : w.heap[b] = .cells #[p, q, r] T (0, 0) := by simpa [Array.getElem?_eq_getElem hlt] using h
  show (w.heap.modify b _)[b]? = _
  rw [Array.getElem?_eq_getElem (by simpa using hlt), Array.getElem_modify_self, h']
  rfl
/-- Two boxes of three. -/
structure TwoB (w wx : World) (T : TypeId) (p q r x y z : Value) : Prop where
  a : wx.heap[w.heap.size]? = some (.cells #[p, q, r] T (0, 0))
  b : wx.heap[w.heap.size + 1]? = some (.cells #[x, y, z] T (0, 0))
  low : Below w.heap.size w wx
theorem TwoB.step {w W w1 : World} {T : TypeId} {p q r x y z : Value} (h : TwoB w W T p q r x y z) (hb : Below W.heap.size W w1) : TwoB w w1 T p q r x y z :=
  ⟨by rw [hb.block _ (lt_blk h.a)]; exact h.a, by rw [hb.block _ (lt_blk h.b)]; exact h.b, h.low.trans (hb.mono h.low.size)⟩
theorem TwoB.seta {w W : World} {T : TypeId} {p q r x y z : Value} (h : TwoB w W T p q r x y z) (u v t : Value) : TwoB w (((W.setCell ⟨w.heap.size, 0, none⟩ u).setCell ⟨w.heap.size, 1, none⟩ v).setCell ⟨w.heap.size, 2, none⟩ t) T u v t x y z := by
  refine ⟨set3_2 (set3_1 (set3_0 h.a)), ?_, ((h.low.setCell (Nat.le_refl _) _).setCell (Nat.le_refl _) _).setCell (Nat.le_refl _) _⟩
  rw [Below.heap_setCell _ _ _ _ (by simp), Below.heap_setCell _ _ _ _ (by simp), Below.heap_setCell _ _ _ _ (by simp)]
  exact h.b
theorem TwoB.setb {w W : World} {T : TypeId} {p q r x y z : Value} (h : TwoB w W T p q r x y z) (u v t : Value) : TwoB w (((W.setCell ⟨w.heap.size + 1, 0, none⟩ u).setCell ⟨w.heap.size + 1, 1, none⟩ v).setCell ⟨w.heap.size + 1, 2, none⟩ t) T p q r u v t := by
  refine ⟨?_, set3_2 (set3_1 (set3_0 h.b)), ((h.low.setCell (by simp) _).setCell (by simp) _).setCell (by simp) _⟩
  rw [Below.heap_setCell _ _ _ _ (by simp), Below.heap_setCell _ _ _ _ (by simp), Below.heap_setCell _ _ _ _ (by simp)]
  exact h.a
theorem twoB_new (w : World) (T : TypeId) (p q r x y z : Value) (W : World) (hW : W.heap = ((w.alloc (.cells #[p, q, r] T)).alloc (.cells #[x, y, z] T)).heap) (hb : Below w.heap.size w W) : TwoB w W T p q r x y z := by
  refine ⟨?_, ?_, hb⟩
  · rw [hW]; show ((w.heap.push _).push _)[_]? = _
    rw [Array.getElem?_push_lt (by simp), ← Array.getElem?_eq_getElem, Array.getElem?_push_size]
  · rw [hW]; show ((w.heap.push _).push _)[_]? = _
    rw [show w.heap.size + 1 = (w.heap.push (.cells #[p, q, r] T)).size by simp, Array.getElem?_push_size]
theorem TwoB.cells {w W : World} {T : TypeId} {p q r x y z : Value} (h : TwoB w W T p q r x y z) :
    (W.cell? ⟨w.heap.size, 0, none⟩ = some p ∧ W.cell? ⟨w.heap.size, 1, none⟩ = some q ∧ W.cell? ⟨w.heap.size, 2, none⟩ = some r) ∧
    (W.cell? ⟨w.heap.size + 1, 0, none⟩ = some x ∧ W.cell? ⟨w.heap.size + 1, 1, none⟩ = some y ∧ W.cell? ⟨w.heap.size + 1, 2, none⟩ = some z) ∧
    (W.frozen? ⟨w.heap.size, 0, none⟩ = false ∧ W.frozen? ⟨w.heap.size, 1, none⟩ = false ∧ W.frozen? ⟨w.heap.size, 2, none⟩ = false) ∧
    (W.frozen? ⟨w.heap.size + 1, 0, none⟩ = false ∧ W.frozen? ⟨w.heap.size + 1, 1, none⟩ = false ∧ W.frozen? ⟨w.heap.size + 1, 2, none⟩ = false) := by
  obtain ⟨a0, a1, a2, a3, a4, a5⟩ := three h.a
  obtain ⟨b0, b1, b2, b3, b4, b5⟩ := three h.b
  exact ⟨⟨a0, a1, a2⟩, ⟨b0, b1, b2⟩, ⟨a3, a4, a5⟩, b3, b4, b5⟩

structure Cn (k n : Int) (t : ByteArray) (K N : Int) (T : ByteArray) : Prop where
  e : cnt k n t = (K, N, T)
theorem counted_cn (k n : Int) (t : ByteArray) (K N : Int) (T : ByteArray) (h : Cn k n t K N T) (w : World) : Calls Tryz.prog 11 #[.agg #[.int .i64 k, .int .i64 n, .string t]] w fun e w' => e = .returned (.agg #[.int .i64 K, .int .i64 N, .string T]) ∧ Below w.heap.size w w' := by
  have := counted_any k n t w
  rw [h.e] at this
  exact this
theorem as_cn (k n : Int) (t : ByteArray) (K N : Int) (T : ByteArray) (h : Cn k n t K N T) (w : World) : Calls Tryz.prog 6 #[.agg #[.int .i64 k, .int .i64 n, .string t]] w fun e w' => e = .returned (.agg #[.int .i64 K, .int .i64 N, .string T]) ∧ Below w.heap.size w w' := by
  have := as_any k n t w
  rw [h.e] at this
  exact this
theorem cnt_size (k n : Int) (t : ByteArray) {K N : Int} {T : ByteArray} (h : cnt k n t = (K, N, T)) : T.size ≤ 1000 := by
  have : T = (cnt k n t).2.2 := by rw [h]
  subst this
  have h0 : (⟨#[]⟩ : ByteArray).size = 0 := rfl
  unfold cnt
  split
  · split <;> simp [h0]
  · split
    · split
      · simp [h0]
      · simp; omega
    · split
      · simp [h0]
      · split <;> simp [h0]

def ordT (t1 t2 : ByteArray) : Int := Lib.compareBytes (t1.data.toList.map cap) (t2.data.toList.map cap)
/-- Which of two that count is below the other (B5). -/
def ordI (k1 n1 : Int) (t1 : ByteArray) (k2 n2 : Int) (t2 : ByteArray) : Int :=
  if k1 = 4 ∨ k2 = 4 then 0
  else if k1 = 0 then (if k2 = 2 then ordT t1 t2 else Lib.compareInt n1 n2)
  else if k2 = 0 then (if k1 = 2 then ordT t1 t2 else Lib.compareInt n1 n2)
  else if k1 ≠ k2 then Lib.compareInt k1 k2
  else if k1 = 2 then ordT t1 t2 else Lib.compareInt n1 n2
end Go.Proofs.YtjbkjeabobccaacGreatDoor
