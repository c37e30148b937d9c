import Derived.Test.YtjbkjeabobccaabGreatDoorNumBig4
namespace Go.Proofs.YtjbkjeabobccaabGreatDoor
open Go.RowKit
set_option linter.unusedVariables false

theorem two_cell0 {w : World} {b : Nat} {v u : Value} {t : TypeId} (h : w.heap[b]? = some (.cells #[v, u] t (0, 0))) : w.cell? ⟨b, 0, none⟩ = some v := by simp [World.cell?, h]
theorem two_cell1 {w : World} {b : Nat} {v u : Value} {t : TypeId} (h : w.heap[b]? = some (.cells #[v, u] t (0, 0))) : w.cell? ⟨b, 1, none⟩ = some u := by simp [World.cell?, h]
theorem two_free {w : World} {b : Nat} {v u : Value} {t : TypeId} (h : w.heap[b]? = some (.cells #[v, u] t (0, 0))) (j : Nat) : w.frozen? ⟨b, j, none⟩ = false := by simp [World.frozen?, h]
theorem two_set0 {w : World} {b : Nat} {v u x : Value} {t : TypeId} (h : w.heap[b]? = some (.cells #[v, u] t (0, 0))) : (w.setCell ⟨b, 0, none⟩ x).heap[b]? = some (.cells #[x, u] t (0, 0)) := by
  have hlt := lt_of_block h
  have h' : w.heap[b] = .cells #[v, u] t (0, 0) := by simpa [Array.getElem?_eq_getElem hlt] using h
  show (w.heap.modify b _)[b]? = _
  rw [Array.getElem?_eq_getElem (by simpa using hlt), Array.getElem_modify_self, h']
  rfl

theorem two_set1 {w : World} {b : Nat} {v u x : Value} {t : TypeId} (h : w.heap[b]? = some (.cells #[v, u] t (0, 0))) : (w.setCell ⟨b, 1, none⟩ x).heap[b]? = some (.cells #[v, x] t (0, 0)) := by
  have hlt := lt_of_block h
  have h' : w.heap[b] = .cells #[v, u] t (0, 0) := by simpa [Array.getElem?_eq_getElem hlt] using h
  show (w.heap.modify b _)[b]? = _
  rw [Array.getElem?_eq_getElem (by simpa using hlt), Array.getElem_modify_self, h']
  rfl
theorem two_both {w : World} {b : Nat} {v u : Value} {t : TypeId} (h : w.heap[b]? = some (.cells #[v, u] t (0, 0))) (x y : Value) :
    ((w.setCell ⟨b, 0, none⟩ x).setCell ⟨b, 1, none⟩ y).cell? ⟨b, 0, none⟩ = some x ∧ ((w.setCell ⟨b, 0, none⟩ x).setCell ⟨b, 1, none⟩ y).cell? ⟨b, 1, none⟩ = some y :=
  ⟨two_cell0 (two_set1 (two_set0 h)), two_cell1 (two_set1 (two_set0 h))⟩
theorem heap2a (w : World) (A B : Obj) : ((w.alloc A).alloc B).heap[w.heap.size]? = some A := by
  show ((w.heap.push A).push B)[_]? = _
  simp [Array.getElem?_push]
theorem heap2b (w : World) (A B : Obj) : ((w.alloc A).alloc B).heap[w.heap.size + 1]? = some B := by
  show ((w.heap.push A).push B)[_]? = _
  rw [show w.heap.size + 1 = (w.heap.push A).size by simp, Array.getElem?_push_size]
theorem own_shape {w : World} {base n : Nat} {v : Value} {xs : List Value} (h : w.ownsRow base 3 1 v n xs) : ∃ a cap, v = .slice a n cap := by
  rcases h.2 with ⟨h1, h2⟩ | ⟨g, cap, cur, h1, _⟩
  · have h3 := h.1
    rw [h2] at h3
    obtain rfl : n = 0 := by simp at h3; omega
    exact ⟨none, 0, h1⟩
  · exact ⟨_, cap, h1⟩

/-- A value that is this whole number. -/
def BigIs (w : World) (v : Value) (z : Int) : Prop := ∃ a cap, v = .agg #[.slice a (repr z.natAbs).length cap, .bool (decide (z < 0))] ∧ RowIs w a cap (repr z.natAbs)
theorem BigIs.step {w w' : World} {v : Value} {z : Int} (h : BigIs w v z) (hb : Below w.heap.size w w') : BigIs w' v z := by
  obtain ⟨a, cap, e, hr⟩ := h
  exact ⟨a, cap, e, hr.step hb⟩

/-- What of a number is still to be told. -/
def OfAt (n X : Int) (D : List Int) : Prop := D ++ repr X.natAbs = repr n.natAbs
theorem OfAt.next {n X X' d : Int} {D : List Int} (h : OfAt n X D) (h0 : X ≠ 0) (h1 : X'.natAbs = X.natAbs / 10000) (h2 : d = ((X.natAbs % 10000 : Nat) : Int)) : OfAt n X' (D ++ [d]) := by
  unfold OfAt at h ⊢
  rw [← h, repr_pos (x := X.natAbs) (by omega), h1, h2]
  simp
theorem OfAt.le {n X : Int} {D : List Int} (h : OfAt n X D) (hn : n.natAbs < 10000 ^ 5) : D.length ≤ 5 := by
  have := congrArg List.length h
  have l := repr_len_le 5 n.natAbs hn
  rw [List.length_append] at this
  omega
/-- One digit more, stored in a field. -/
theorem of_push {w wr w1 : World} {v v' : Value} {o : Obj} {D : List Int} {d : Int} {r m : Value} {r1 : Value} {T : TypeId}
    (hown : wr.ownsRow (w.heap.size + 2) 3 1 v D.length (D.map (Value.int .i64))) (hnx : Below w.heap.size w wr)
    (hb0 : wr.heap[w.heap.size]? = some (.cells #[r, r1] T (0, 0))) (hb1 : wr.heap[w.heap.size + 1]? = some (.cells #[v, m] T (0, 0)))
    (hown' : w1.ownsRow (w.heap.size + 2) 3 1 v' (D.length + 1) (D.map (Value.int .i64) ++ [.int .i64 d])) (hgrow : (wr.alloc o).grownBy w1 v.ownBlock) :
    (w1.heap[w.heap.size + 1]? = some (.cells #[v, m] T (0, 0))) ∧
    (w1.setCell ⟨w.heap.size + 1, 0, none⟩ v').ownsRow (w.heap.size + 2) 3 1 v' (D ++ [d]).length ((D ++ [d]).map (Value.int .i64)) ∧ Below w.heap.size w (w1.setCell ⟨w.heap.size + 1, 0, none⟩ v') ∧
    (w1.setCell ⟨w.heap.size + 1, 0, none⟩ v').heap[w.heap.size]? = some (.cells #[r, r1] T (0, 0)) ∧ (w1.setCell ⟨w.heap.size + 1, 0, none⟩ v').heap[w.heap.size + 1]? = some (.cells #[v', m] T (0, 0)) := by
  have hs := hnx.size
  have l1 := lt_of_block hb1
  have hne : ∀ j, j < w.heap.size + 2 → some j ≠ v.ownBlock := fun j hj h => by have := (hown.lt j h.symm).1; omega
  have k0 : w1.heap[w.heap.size]? = some (.cells #[r, r1] T (0, 0)) := by
    rw [hgrow.block _ (by simp; omega) (hne _ (by omega))]
    show (wr.heap.push o)[_]? = _
    rw [Array.getElem?_push_lt (by omega), ← Array.getElem?_eq_getElem (by omega)]
    exact hb0
  have k1 : w1.heap[w.heap.size + 1]? = some (.cells #[v, m] T (0, 0)) := by
    rw [hgrow.block _ (by simp; omega) (hne _ (by omega))]
    show (wr.heap.push o)[_]? = _
    rw [Array.getElem?_push_lt (by omega), ← Array.getElem?_eq_getElem (by omega)]
    exact hb1
  have hB : Below w.heap.size w w1 := (hnx.alloc (by omega) o).grown hgrow (by simp; omega) (fun j hj => by have := (hown.lt j hj).1; omega)
  refine ⟨k1, ownsRow_setCell_below (by simpa using hown') (by show w.heap.size + 1 < _; omega) _, hB.setCell (by show w.heap.size ≤ w.heap.size + 1; omega) _, ?_, two_set0 k1⟩
  rw [Below.heap_setCell _ _ _ _ (by simp)]
  exact k0

set_option maxHeartbeats 4000000 in
set_option maxRecDepth 100000 in
theorem of_any (n : Int) (w : World) (h1 : -9223372036854775807 ≤ n) (h2 : n ≤ 9223372036854775807) :
    Calls Tryz.prog 62 #[.int .i64 n] w fun e w' => (∃ v, e = .returned v ∧ BigIs w' v n) ∧ Below w.heap.size w w' := by
  obtain ⟨i0, hi, hz0, hz1, hz2⟩ := info_parts info3
  have HN : Hid (n.natAbs < 10000 ^ 5) := by show _ < _; omega
  go_enter Tryz.func62, Tryz.ntmps62
  go_wp2
  go_loopw [0] (fun i wr => ∃ (X : Int) (v : Value) (D : List Int), -9223372036854775807 ≤ X ∧ X ≤ 9223372036854775807 ∧ i = .int .i64 X ∧ wr.heap[w.heap.size]? = some (.cells #[.slice none 0 0, .bool false] 91 (0, 0)) ∧
      wr.heap[w.heap.size + 1]? = some (.cells #[v, .bool (decide (n < 0))] 91 (0, 0)) ∧ wr.ownsRow (w.heap.size + 2) 3 1 v D.length (D.map (Value.int .i64)) ∧ Below w.heap.size w wr ∧ Hid (OfAt n X D))
    (fun i _ => (RowKit.intOf i).natAbs)
  case atStart => exact ⟨n, _, [], h1, h2, rfl, heap2a w _ _, heap2b w _ _, World.ownsRow_nil _ _ _ _, by go_grown, by show _ = _; simp⟩
  case round =>
    obtain ⟨X, v, D, hX1, hX2, rfl, hb0, hb1, hown, hnx, hP⟩ := hrel
    have l1 := lt_of_block hb1
    have hD5 : D.length ≤ 5 := hP.out.le HN.out
    have c0 := two_cell0 hb1
    by_cases h0 : X = 0
    · subst h0
      have hD : D = repr n.natAbs := by have := hP.out; unfold OfAt at this; simpa [repr_zero] using this
      subst hD
      have c1 := two_cell1 hb1
      have r0 := two_cell0 hb0
      have r1 := two_cell1 hb0
      have f0 := two_free hb0 0
      have f1 := two_free hb0 1
      clear hP
      obtain ⟨a, cap, rfl⟩ := own_shape hown
      have HO : Hid (∀ x y, RowIs ((wr.setCell ⟨w.heap.size, 0, none⟩ x).setCell ⟨w.heap.size, 1, none⟩ y) a cap (repr n.natAbs)) := fun x y => by
        obtain ⟨a', cap', e', hR⟩ := rowIs_own (ownsRow_setCell_below (ownsRow_setCell_below hown (a := ⟨w.heap.size, 0, none⟩) (by show w.heap.size < _; omega) x) (a := ⟨w.heap.size, 1, none⟩) (by show w.heap.size < _; omega) y)
        cases e'
        exact hR
      have HB : Hid (∀ x y, Below w.heap.size w ((wr.setCell ⟨w.heap.size, 0, none⟩ x).setCell ⟨w.heap.size, 1, none⟩ y)) := fun x y => (hnx.setCell (Nat.le_refl _) _).setCell (Nat.le_refl _) _
      have HQ : Hid (∀ x y, _ ∧ _) := two_both hb0
      clear hown hb0 hb1
      go_wp2
      refine bodyPost_ret (v := .agg #[.slice a (repr n.natAbs).length cap, .bool (decide (n < 0))]) (by simp [results, Tryz.results62, go_sem, HQ.out]) rfl ?_
      exact ⟨⟨_, rfl, a, cap, rfl, HO.out _ _⟩, HB.out _ _⟩
    · by_cases hp : 0 < X
      · have hne : (X != 0) = true := by simpa using h0
        have HP : Hid (OfAt n (X / 10000) (D ++ [X % 10000])) := hP.out.next h0 (by omega) (by omega)
        clear hP
        go_wp2_with (at_builtin; refine wpList_append_own _ rfl _ _ 89 rfl (w.heap.size + 2) 3 i0 (.int .i64 0) 1 8 Tryz.underlying89 hi hz0 hz1 hz2 rfl (by decide) _ _ _ rfl (hown.alloc _) ⟨wr.heap.size, 0, none⟩ 1 1 [.int .i64 (X % 10000)] rfl rfl (one_cell _ _ _) (one_ok _ _) (by unfold maxLen; omega) (by omega) (by simp; omega) ?_)
        intro v' w1 hown' hgrow _
        obtain ⟨a', cap', rfl⟩ := own_shape hown'
        obtain ⟨k1, R1, R2, R3, R4⟩ := of_push hown hnx hb0 hb1 hown' hgrow
        clear hown' hgrow hown c0 hb1 hb0
        have d0 := two_cell0 k1
        have f0 := two_free k1 0
        go_wp2
        go_roundw
        case rel => exact ⟨_, _, D ++ [X % 10000], by omega, by omega, rfl, R3, R4, R1, R2, HP⟩
        case measure => simp [RowKit.intOf]; omega
      · obtain ⟨u, eu⟩ : ∃ u : Int, u = -X % 10000 := ⟨_, rfl⟩
        obtain ⟨q, eq⟩ : ∃ q : Int, q = -X / 10000 := ⟨_, rfl⟩
        have t1 : X.tmod 10000 = -u := by rw [eu, ← Int.tmod_eq_emod_of_nonneg (by omega), Int.neg_tmod]; omega
        have t2 : X.tdiv 10000 = -q := by rw [eq, ← Int.tdiv_eq_ediv_of_nonneg (by omega), Int.neg_tdiv]; omega
        have hne : (X != 0) = true := by simpa using h0
        have u0 : 0 ≤ u := by omega
        have u1 : u < 10000 := by omega
        have q1 : -9223372036854775807 ≤ -q := by omega
        have q2 : -q ≤ 9223372036854775807 := by omega
        have HM : Hid ((RowKit.intOf (.int .i64 (-q))).natAbs < (RowKit.intOf (.int .i64 X)).natAbs) := by show _ < _; simp [RowKit.intOf]; omega
        have HP : Hid (OfAt n (-q) (D ++ [u])) := hP.out.next h0 (by omega) (by omega)
        clear eu eq hP hX1 hX2 h1 h2 hp h0
        by_cases hu : -u < 0
        · go_wp2_with (at_builtin; refine wpList_append_own _ rfl _ _ 89 rfl (w.heap.size + 2) 3 i0 (.int .i64 0) 1 8 Tryz.underlying89 hi hz0 hz1 hz2 rfl (by decide) _ _ _ rfl (hown.alloc _) ⟨wr.heap.size, 0, none⟩ 1 1 [.int .i64 (u)] rfl rfl (one_cell _ _ _) (one_ok _ _) (by unfold maxLen; omega) (by omega) (by simp; omega) ?_)
          intro v' w1 hown' hgrow _
          obtain ⟨a', cap', rfl⟩ := own_shape hown'
          obtain ⟨k1, R1, R2, R3, R4⟩ := of_push hown hnx hb0 hb1 hown' hgrow
          clear hown' hgrow hown c0 hb1 hb0
          have d0 := two_cell0 k1
          have f0 := two_free k1 0
          go_wp2
          go_roundw
          case rel => exact ⟨_, _, D ++ [u], q1, q2, rfl, R3, R4, R1, R2, HP⟩
          case measure => exact HM.out
        · obtain rfl : u = 0 := by omega
          go_wp2_with (at_builtin; refine wpList_append_own _ rfl _ _ 89 rfl (w.heap.size + 2) 3 i0 (.int .i64 0) 1 8 Tryz.underlying89 hi hz0 hz1 hz2 rfl (by decide) _ _ _ rfl (hown.alloc _) ⟨wr.heap.size, 0, none⟩ 1 1 [.int .i64 (0)] rfl rfl (one_cell _ _ _) (one_ok _ _) (by unfold maxLen; omega) (by omega) (by simp; omega) ?_)
          intro v' w1 hown' hgrow _
          obtain ⟨a', cap', rfl⟩ := own_shape hown'
          obtain ⟨k1, R1, R2, R3, R4⟩ := of_push hown hnx hb0 hb1 hown' hgrow
          clear hown' hgrow hown c0 hb1 hb0
          have d0 := two_cell0 k1
          have f0 := two_free k1 0
          go_wp2
          go_roundw
          case rel => exact ⟨_, _, D ++ [0], q1, q2, rfl, R3, R4, R1, R2, HP⟩
          case measure => exact HM.out
end Go.Proofs.YtjbkjeabobccaabGreatDoor
