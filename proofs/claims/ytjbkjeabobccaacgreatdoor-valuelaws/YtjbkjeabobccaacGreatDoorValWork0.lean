import Derived.Test.YtjbkjeabobccaacGreatDoorValCalc
namespace Go.Proofs.YtjbkjeabobccaacGreatDoor
open Go.RowKit Go.Sort Go.Lib
set_option linter.unusedVariables false

theorem far_set {w : World} {b c : Nat} {o : Obj} {x y z : Value} (hne : c ≠ b) (h : w.heap[c]? = some o) : (((w.setCell ⟨b, 0, none⟩ x).setCell ⟨b, 1, none⟩ y).setCell ⟨b, 2, none⟩ z).heap[c]? = some o := by
  rw [Below.heap_setCell _ _ _ _ (by simpa using hne), Below.heap_setCell _ _ _ _ (by simpa using hne), Below.heap_setCell _ _ _ _ (by simpa using hne)]
  exact h
theorem TriB.seta {w W : World} {T : TypeId} {a1 a2 a3 b1 b2 b3 p q r : Value} (h : TriB w W T a1 a2 a3 b1 b2 b3 p q r) (u v t : Value) : TriB w (((W.setCell ⟨w.heap.size, 0, none⟩ u).setCell ⟨w.heap.size, 1, none⟩ v).setCell ⟨w.heap.size, 2, none⟩ t) T u v t b1 b2 b3 p q r :=
  ⟨set3_2 (set3_1 (set3_0 h.a)), far_set (by omega) h.b, far_set (by omega) h.c, ((h.low.setCell (Nat.le_refl _) _).setCell (Nat.le_refl _) _).setCell (Nat.le_refl _) _⟩
theorem TriB.setb {w W : World} {T : TypeId} {a1 a2 a3 b1 b2 b3 p q r : Value} (h : TriB w W T a1 a2 a3 b1 b2 b3 p q r) (u v t : Value) : TriB w (((W.setCell ⟨w.heap.size + 1, 0, none⟩ u).setCell ⟨w.heap.size + 1, 1, none⟩ v).setCell ⟨w.heap.size + 1, 2, none⟩ t) T a1 a2 a3 u v t p q r :=
  ⟨far_set (by omega) h.a, set3_2 (set3_1 (set3_0 h.b)), far_set (by omega) h.c, ((h.low.setCell (by simp) _).setCell (by simp) _).setCell (by simp) _⟩
theorem TriB.free {w W : World} {T : TypeId} {a1 a2 a3 b1 b2 b3 p q r : Value} (h : TriB w W T a1 a2 a3 b1 b2 b3 p q r) :
    (W.frozen? ⟨w.heap.size, 0, none⟩ = false ∧ W.frozen? ⟨w.heap.size, 1, none⟩ = false ∧ W.frozen? ⟨w.heap.size, 2, none⟩ = false) ∧
    (W.frozen? ⟨w.heap.size + 1, 0, none⟩ = false ∧ W.frozen? ⟨w.heap.size + 1, 1, none⟩ = false ∧ W.frozen? ⟨w.heap.size + 1, 2, none⟩ = false) := by
  obtain ⟨a0, a1, a2, a3, a4, a5⟩ := three h.a
  obtain ⟨b0, b1, b2, b3, b4, b5⟩ := three h.b
  exact ⟨⟨a3, a4, a5⟩, b3, b4, b5⟩
theorem cn_self {k n : Int} {t : ByteArray} {K N : Int} {T : ByteArray} (h : Cn k n t K N T) : Cn K N T K N T := by
  constructor
  have h := h.e
  have h0 : (⟨#[]⟩ : ByteArray).size = 0 := rfl
  unfold cnt at h
  split at h
  · split at h
    · simp at h; obtain ⟨rfl, rfl, rfl⟩ := h; simp [cnt]
    · rename_i hn; simp at h; obtain ⟨rfl, rfl, rfl⟩ := h; simp [cnt, hn]
  · split at h
    · split at h
      · simp at h; obtain ⟨rfl, rfl, rfl⟩ := h; simp [cnt]
      · rename_i hn; simp at h; obtain ⟨rfl, rfl, rfl⟩ := h; simp [cnt, hn]
    · split at h
      · simp at h; obtain ⟨rfl, rfl, rfl⟩ := h
        split <;> simp [cnt]
      · split at h
        · simp at h; obtain ⟨rfl, rfl, rfl⟩ := h
          by_cases hn : n < 1 ∨ 6 < n
          · simp [cnt, hn]
          · simp [cnt, hn]
        · simp at h; obtain ⟨rfl, rfl, rfl⟩ := h; simp [cnt]

def pick3 (K1 N1 : Int) (T1 : ByteArray) (K2 N2 : Int) (T2 : ByteArray) (d : Int × Int × ByteArray) : Int × Int × ByteArray :=
  if K1 = 4 then (K1, N1, T1) else if K2 = 4 then (K2, N2, T2) else d
end Go.Proofs.YtjbkjeabobccaacGreatDoor
