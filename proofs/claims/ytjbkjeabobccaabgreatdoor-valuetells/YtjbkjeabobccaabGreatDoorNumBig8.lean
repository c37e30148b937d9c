import Derived.Test.YtjbkjeabobccaabGreatDoorNumBig7
namespace Go.Proofs.YtjbkjeabobccaabGreatDoor
open Go.RowKit
set_option linter.unusedVariables false

theorem repr_len_mono {p q : Nat} (h : p ≤ q) : (repr p).length ≤ (repr q).length := by
  rcases Nat.lt_or_ge (repr q).length (repr p).length with h' | h'
  · have := repr_len_lt h'; omega
  · exact h'
theorem box2 {w W w9 : World} {A B : Obj} (hW : W.heap = ((w.alloc A).alloc B).heap) (hb : Below W.heap.size W w9) :
    w9.heap[w.heap.size]? = some A ∧ w9.heap[w.heap.size + 1]? = some B ∧ w.heap.size + 2 ≤ w9.heap.size := by
  have e : W.heap = (w.heap.push A).push B := hW
  have hs := hb.size
  have es : W.heap.size = w.heap.size + 2 := by rw [e]; simp
  refine ⟨?_, ?_, by omega⟩
  · rw [hb.block _ (by omega), e, Array.getElem?_push_lt (by simp), ← Array.getElem?_eq_getElem, Array.getElem?_push_size]
  · rw [hb.block _ (by omega), e, show w.heap.size + 1 = (w.heap.push A).size by simp, Array.getElem?_push_size]

theorem third (w : World) (A B : Obj) (p q : Value) (T : TypeId) : (((w.alloc A).alloc B).alloc (.cells #[p, q] T)).cell? ⟨w.heap.size + 2, 0, none⟩ = some p ∧ (((w.alloc A).alloc B).alloc (.cells #[p, q] T)).cell? ⟨w.heap.size + 2, 1, none⟩ = some q := by
  have h : (((w.alloc A).alloc B).alloc (.cells #[p, q] T)).heap[w.heap.size + 2]? = some (.cells #[p, q] T (0, 0)) := by
    show (((w.heap.push A).push B).push _)[_]? = _
    rw [show w.heap.size + 2 = ((w.heap.push A).push B).size by simp, Array.getElem?_push_size]
  exact ⟨two_cell0 h, two_cell1 h⟩
theorem gr0 (W : World) : Below W.heap.size W W.drew := (Below.refl _ _).drew
theorem gr1 (W : World) (o : Obj) : Below W.heap.size W (W.alloc o).drew := ((Below.refl _ _).alloc (Nat.le_refl _) _).drew
theorem gr2 (W : World) (o : Obj) : Below W.heap.size W (W.drew.alloc o) := ((Below.refl _ _).drew).alloc (Nat.le_refl _) _
theorem gr3 (W : World) (o : Obj) : Below W.heap.size W (W.alloc o) := (Below.refl _ _).alloc (Nat.le_refl _) _
/-- A new box, behind a callee. -/
theorem newbox {X W w1 : World} {p q : Value} {T : TypeId} (hW : W.heap = (X.alloc (.cells #[p, q] T)).heap) (hb : Below W.heap.size W w1) : w1.heap[X.heap.size]? = some (.cells #[p, q] T (0, 0)) := by
  have e : W.heap = X.heap.push (.cells #[p, q] T) := hW
  rw [hb.block _ (by rw [e]; simp), e, Array.getElem?_push_size]
theorem newbox1 {X W w1 : World} {p q : Value} {T : TypeId} {k : Nat} (hb : Below W.heap.size W w1) (hW : W.heap = (X.alloc (.cells #[p, q] T)).heap) (hk : X.heap.size = k) : w1.heap[k]? = some (.cells #[p, q] T (0, 0)) := by rw [← hk]; exact newbox hW hb
theorem newbox2 {w1 w2 : World} {b : Nat} {o : Obj} (h : w1.heap[b]? = some o) (hb : Below w1.heap.size w1 w2) : w2.heap[b]? = some o := by rw [hb.block _ (lt_of_block h)]; exact h

set_option maxHeartbeats 8000000 in
theorem less_any (w : World) (u v : Value) (x y : Int) (hu : BigIs w u x) (hv : BigIs w v y) (hl : (repr (x.natAbs + y.natAbs)).length ≤ 1000000000000) :
    Calls Tryz.prog 104 #[u, v] w fun e w' => e = .returned (.bool (decide (x < y))) ∧ Below w.heap.size w w' := by
  obtain ⟨a, ca, eu, ha⟩ := id hu
  obtain ⟨b, cb, ev, hb⟩ := id hv
  obtain ⟨la, ela⟩ : ∃ l, (repr x.natAbs).length = l := ⟨_, rfl⟩
  obtain ⟨lb, elb⟩ : ∃ l, (repr y.natAbs).length = l := ⟨_, rfl⟩
  obtain ⟨ma, ema⟩ : ∃ l, decide (x < 0) = l := ⟨_, rfl⟩
  obtain ⟨mb, emb⟩ : ∃ l, decide (y < 0) = l := ⟨_, rfl⟩
  rw [ela, ema] at eu
  rw [elb, emb] at ev
  subst eu ev
  clear ela elb ema emb ha hb
  have cn : Hid (∀ W, Below ((w.alloc (.cells #[.slice a la ca, .bool ma] 91)).alloc (.cells #[.slice b lb cb, .bool mb] 91)).heap.size ((w.alloc (.cells #[.slice a la ca, .bool ma] 91)).alloc (.cells #[.slice b lb cb, .bool mb] 91)) W →
      Calls Tryz.prog 66 #[.agg #[.slice b lb cb, .bool mb]] W fun e w1 =>
      ∃ c n k m, e = .returned (.agg #[.slice c n k, .bool m]) ∧ w1.cell? ⟨w.heap.size, 0, none⟩ = some (.slice a la ca) ∧ w1.cell? ⟨w.heap.size, 1, none⟩ = some (.bool ma) ∧ w1.cell? ⟨w.heap.size + 1, 0, none⟩ = some (.slice b lb cb) ∧ w1.cell? ⟨w.heap.size + 1, 1, none⟩ = some (.bool mb) ∧ w.heap.size + 1 < w1.heap.size ∧ (∀ o, w.heap.size + 2 < W.heap.size → w1.cell? ⟨w.heap.size + 2, o, none⟩ = W.cell? ⟨w.heap.size + 2, o, none⟩) ∧ (∀ o, w.heap.size + 2 < W.heap.size → w1.frozen? ⟨w.heap.size + 2, o, none⟩ = W.frozen? ⟨w.heap.size + 2, o, none⟩) ∧ (w.heap.size + 2 < W.heap.size → w.heap.size + 2 < w1.heap.size) ∧
        Hid (∀ W', Below w1.heap.size w1 W' → Calls Tryz.prog 64 #[.agg #[.slice a la ca, .bool ma], .agg #[.slice c n k, .bool m]] W' fun e w2 =>
          ∃ c n k, e = .returned (.agg #[.slice c n k, .bool (decide (x < y))]) ∧ w2.cell? ⟨w.heap.size, 0, none⟩ = some (.slice a la ca) ∧ w2.cell? ⟨w.heap.size, 1, none⟩ = some (.bool ma) ∧ w2.cell? ⟨w.heap.size + 1, 0, none⟩ = some (.slice b lb cb) ∧ w2.cell? ⟨w.heap.size + 1, 1, none⟩ = some (.bool mb) ∧ w.heap.size + 1 < w2.heap.size ∧ (∀ o, w.heap.size + 2 < W'.heap.size → w2.cell? ⟨w.heap.size + 2, o, none⟩ = W'.cell? ⟨w.heap.size + 2, o, none⟩) ∧ (∀ o, w.heap.size + 2 < W'.heap.size → w2.frozen? ⟨w.heap.size + 2, o, none⟩ = W'.frozen? ⟨w.heap.size + 2, o, none⟩) ∧ Hid (Below W'.heap.size W' w2) ∧ Hid (Below w.heap.size w w2))) := fun W hW => by
    have hbel : Below w.heap.size w W := key2 (((Below.refl _ _).alloc (Nat.le_refl _) _).alloc (by simp) _) hW
    refine (neg_any _ _ y (hv.step hbel)).mono ?_
    rintro e w1 ⟨⟨r, rfl, hr⟩, hb1⟩
    obtain ⟨c, k, er, hR⟩ := id hr
    obtain ⟨g0, g1, g2⟩ := box2 rfl (hW.trans (hb1.mono hW.size))
    refine ⟨c, (repr (-y).natAbs).length, k, decide (-y < 0), by rw [er], two_cell0 g0, two_cell1 g0, two_cell0 g1, two_cell1 g1, by omega, fun o h => hb1.cell (p := ⟨w.heap.size + 2, o, none⟩) h, fun o h => hb1.frozen (p := ⟨w.heap.size + 2, o, none⟩) h, fun h => Nat.lt_of_lt_of_le h hb1.size, ?_⟩
    rw [← er]
    intro W' hW'
    have hb1' := hb1.trans (hW'.mono hb1.size)
    refine (sum_any W' _ _ x (-y) (hu.step (key2 hbel hb1')) (hr.step hW') (by rw [Int.natAbs_neg]; exact hl)).mono ?_
    rintro e w2 ⟨⟨s, rfl, hs⟩, hb2⟩
    obtain ⟨c', k', es, _⟩ := hs
    have hb2' := hb1'.trans (hb2.mono hb1'.size)
    obtain ⟨g0, g1, g2⟩ := box2 rfl (hW.trans (hb2'.mono hW.size))
    refine ⟨c', (repr (x + -y).natAbs).length, k', ?_, two_cell0 g0, two_cell1 g0, two_cell0 g1, two_cell1 g1, by omega, fun o h => hb2.cell (p := ⟨w.heap.size + 2, o, none⟩) h, fun o h => hb2.frozen (p := ⟨w.heap.size + 2, o, none⟩) h, hb2, key2 hbel hb2'⟩
    rw [es, show decide (x + -y < 0) = decide (x < y) from decide_eq_decide.2 (by omega)]
  obtain ⟨t, et⟩ : ∃ t, decide (x < y) = t := ⟨_, rfl⟩
  rw [et] at cn ⊢
  clear et hu hv hl
  have n1 : ¬ w.heap.size + 1 + 1 = w.heap.size := by omega
  have n2 : ¬ w.heap.size = w.heap.size + 1 + 1 := by omega
  go_enter Tryz.func104, Tryz.ntmps104
  go_wp2_with fail
  go_region_held2 (fun w' => w'.cell? ⟨w.heap.size, 0, none⟩ = some (.slice a la ca) ∧ w'.cell? ⟨w.heap.size, 1, none⟩ = some (.bool ma) ∧ w'.cell? ⟨w.heap.size + 1, 0, none⟩ = some (.slice b lb cb) ∧ w'.cell? ⟨w.heap.size + 1, 1, none⟩ = some (.bool mb)) (go_keep)
    (first
      | (go_at_call 66; go_loud (refine (cn.out _ (by first | exact gr0 _ | exact gr1 _ _ | exact gr2 _ _)).mono ?_; rintro e w1 ⟨c, n, k, m, rfl, p0, p1, p2, p3, y1, v1, v2, v3, cs⟩; have y0 : w.heap.size < w1.heap.size := Nat.lt_of_succ_lt y1))
      | (go_at_call 64; go_loud (refine (cs.out _ (by first | exact Below.refl _ _ | exact gr3 _ _)).mono ?_; rintro e w2 ⟨c', n', k', rfl, q0, q1, q2, q3, z1, v4, v5, hbS, HB⟩; have z0 : w.heap.size < w2.heap.size := Nat.lt_of_succ_lt z1; have z4 : ¬ w.heap.size = w2.heap.size := (Nat.ne_of_lt z0); have z5 : ¬ w.heap.size + 1 = w2.heap.size := (Nat.ne_of_lt z1); have z6 : ¬ w2.heap.size = w.heap.size := (Nat.ne_of_gt z0); have z7 : ¬ w2.heap.size = w.heap.size + 1 := (Nat.ne_of_gt z1); try (have nc : Hid (w2.heap[w1.heap.size]? = some (.cells #[.slice none 0 0, .bool false] 91 (0, 0))) := (newbox (X := w1) rfl hbS.out); have nc0 := two_cell0 nc.out; have nc1 := two_cell1 nc.out; have nc2 := two_free nc.out 0; have nc3 := two_free nc.out 1; have nc4 : ¬ w.heap.size = w1.heap.size := (Nat.ne_of_lt y0); have nc5 : ¬ w.heap.size + 1 = w1.heap.size := (Nat.ne_of_lt y1); have nc6 : ¬ w1.heap.size = w.heap.size := (Nat.ne_of_gt y0); have nc7 : ¬ w1.heap.size = w.heap.size + 1 := (Nat.ne_of_gt y1)))))
  all_goals
    first
      | (go_wp2_with fail; go_ret; first | exact ⟨rfl, (HB.out.alloc (by omega) _)⟩ | exact ⟨rfl, (HB.out.setCell (Nat.le_of_lt y0) _).setCell (Nat.le_of_lt y0) _⟩ | exact ⟨rfl, (HB.out.setCell (Nat.le_add_right _ 2) _).setCell (Nat.le_add_right _ 2) _⟩)
      | (have x0 : w2.cell? ⟨w.heap.size + 2, 0, none⟩ = some (.slice none 0 0) := (by rw [v4 0 (v3 (by simp)), v1 0 (by simp)]; simp only [World.cell?_drew]; exact (third _ _ _ _ _ _).1)
         have x1 : w2.cell? ⟨w.heap.size + 2, 1, none⟩ = some (.bool false) := (by rw [v4 1 (v3 (by simp)), v1 1 (by simp)]; simp only [World.cell?_drew]; exact (third _ _ _ _ _ _).2)
         clear v1 v2 v3 v4 v5
         go_wp2_with fail
         go_ret
         exact ⟨rfl, (HB.out.setCell (Nat.le_add_right _ 2) _).setCell (Nat.le_add_right _ 2) _⟩)
end Go.Proofs.YtjbkjeabobccaabGreatDoor
