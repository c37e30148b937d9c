import Derived.Test.YtjbkjeabobccaabGreatDoorValOrd
namespace Go.Proofs.YtjbkjeabobccaabGreatDoor
open Go.RowKit Go.Sort Go.Lib
set_option linter.unusedVariables false

theorem lt_blk {w : World} {b : Nat} {o : Obj} (h : w.heap[b]? = some o) : b < w.heap.size := by
  rcases Nat.lt_or_ge b w.heap.size with h' | h'
  · exact h'
  · simp [Array.getElem?_eq_none h'] at h
theorem set3_0 {w : World} {b : Nat} {p q r x : Value} {T : TypeId} (h : w.heap[b]? = some (.cells #[p, q, r] T (0, 0))) : (w.setCell ⟨b, 0, none⟩ x).heap[b]? = some (.cells #[x, q, r] T (0, 0)) := by
  have hlt := lt_blk h
  have h' : w.heap[b] = .cells #[p, q, r] T (0, 0) := by simpa [Array.getElem?_eq_getElem hlt] using h
  show (w.heap.modify b _)[b]? = _
  rw [Array.getElem?_eq_getElem (by simpa using hlt), Array.getElem_modify_self, h']
  rfl
theorem set3_1 {w : World} {b : Nat} {p q r x : Value} {T : TypeId} (h : w.heap[b]? = some (.cells #[p, q, r] T (0, 0))) : (w.setCell ⟨b, 1, none⟩ x).heap[b]? = some (.cells #[p, x, r] T (0, 0)) := by
  have hlt := lt_blk h
  have h' : w.heap[b] = .cells #[p, q, r] T (0, 0) := by simpa [Array.getElem?_eq_getElem hlt] using h
  show (w.heap.modify b _)[b]? = _
  rw [Array.getElem?_eq_getElem (by simpa using hlt), Array.getElem_modify_self, h']
  rfl
theorem set3_2 {w : World} {b : Nat} {p q r x : Value} {T : TypeId} (h : w.heap[b]? = some (.cells #[p, q, r] T (0, 0))) : (w.setCell ⟨b, 2, none⟩ x).heap[b]? = some (.cells #[p, q, x] T (0, 0)) := by
  have hlt := lt_blk h
  have h' : w.heap[b] = .cells #[p, q, r] T (0, 0) := by simpa [Array.getElem?_eq_getElem hlt] using h
  show (w.heap.modify b _)[b]? = _
  rw [Array.getElem?_eq_getElem (by simpa using hlt), Array.getElem_modify_self, h']
  rfl
/-- Two boxes of three. -/
structure TwoB (w wx : World) (T : TypeId) (p q r x y z : Value) : Prop where
  a : wx.heap[w.heap.size]? = some (.cells #[p, q, r] T (0, 0))
  b : wx.heap[w.heap.size + 1]? = some (.cells #[x, y, z] T (0, 0))
  low : Below w.heap.size w wx
theorem TwoB.step {w W w1 : World} {T : TypeId} {p q r x y z : Value} (h : TwoB w W T p q r x y z) (hb : Below W.heap.size W w1) : TwoB w w1 T p q r x y z :=
  ⟨by rw [hb.block _ (lt_blk h.a)]; exact h.a, by rw [hb.block _ (lt_blk h.b)]; exact h.b, h.low.trans (hb.mono h.low.size)⟩
theorem TwoB.seta {w W : World} {T : TypeId} {p q r x y z : Value} (h : TwoB w W T p q r x y z) (u v t : Value) : TwoB w (((W.setCell ⟨w.heap.size, 0, none⟩ u).setCell ⟨w.heap.size, 1, none⟩ v).setCell ⟨w.heap.size, 2, none⟩ t) T u v t x y z := by
  refine ⟨set3_2 (set3_1 (set3_0 h.a)), ?_, ((h.low.setCell (Nat.le_refl _) _).setCell (Nat.le_refl _) _).setCell (Nat.le_refl _) _⟩
  rw [Below.heap_setCell _ _ _ _ (by simp), Below.heap_setCell _ _ _ _ (by simp), Below.heap_setCell _ _ _ _ (by simp)]
  exact h.b
theorem TwoB.setb {w W : World} {T : TypeId} {p q r x y z : Value} (h : TwoB w W T p q r x y z) (u v t : Value) : TwoB w (((W.setCell ⟨w.heap.size + 1, 0, none⟩ u).setCell ⟨w.heap.size + 1, 1, none⟩ v).setCell ⟨w.heap.size + 1, 2, none⟩ t) T p q r u v t := by
  refine ⟨?_, set3_2 (set3_1 (set3_0 h.b)), ((h.low.setCell (by simp) _).setCell (by simp) _).setCell (by simp) _⟩
  rw [Below.heap_setCell _ _ _ _ (by simp), Below.heap_setCell _ _ _ _ (by simp), Below.heap_setCell _ _ _ _ (by simp)]
  exact h.a
theorem twoB_new (w : World) (T : TypeId) (p q r x y z : Value) (W : World) (hW : W.heap = ((w.alloc (.cells #[p, q, r] T)).alloc (.cells #[x, y, z] T)).heap) (hb : Below w.heap.size w W) : TwoB w W T p q r x y z := by
  refine ⟨?_, ?_, hb⟩
  · rw [hW]; show ((w.heap.push _).push _)[_]? = _
    rw [Array.getElem?_push_lt (by simp), ← Array.getElem?_eq_getElem, Array.getElem?_push_size]
  · rw [hW]; show ((w.heap.push _).push _)[_]? = _
    rw [show w.heap.size + 1 = (w.heap.push (.cells #[p, q, r] T)).size by simp, Array.getElem?_push_size]
theorem TwoB.cells {w W : World} {T : TypeId} {p q r x y z : Value} (h : TwoB w W T p q r x y z) :
    (W.cell? ⟨w.heap.size, 0, none⟩ = some p ∧ W.cell? ⟨w.heap.size, 1, none⟩ = some q ∧ W.cell? ⟨w.heap.size, 2, none⟩ = some r) ∧
    (W.cell? ⟨w.heap.size + 1, 0, none⟩ = some x ∧ W.cell? ⟨w.heap.size + 1, 1, none⟩ = some y ∧ W.cell? ⟨w.heap.size + 1, 2, none⟩ = some z) ∧
    (W.frozen? ⟨w.heap.size, 0, none⟩ = false ∧ W.frozen? ⟨w.heap.size, 1, none⟩ = false ∧ W.frozen? ⟨w.heap.size, 2, none⟩ = false) ∧
    (W.frozen? ⟨w.heap.size + 1, 0, none⟩ = false ∧ W.frozen? ⟨w.heap.size + 1, 1, none⟩ = false ∧ W.frozen? ⟨w.heap.size + 1, 2, none⟩ = false) := by
  obtain ⟨a0, a1, a2, a3, a4, a5⟩ := three h.a
  obtain ⟨b0, b1, b2, b3, b4, b5⟩ := three h.b
  exact ⟨⟨a0, a1, a2⟩, ⟨b0, b1, b2⟩, ⟨a3, a4, a5⟩, b3, b4, b5⟩

structure Cn (k n : Int) (t : ByteArray) (K N : Int) (T : ByteArray) : Prop where
  e : cnt k n t = (K, N, T)
theorem counted_cn (k n : Int) (t : ByteArray) (K N : Int) (T : ByteArray) (h : Cn k n t K N T) (w : World) : Calls Tryz.prog 39 #[.agg #[.int .i64 k, .int .i64 n, .string t]] w fun e w' => e = .returned (.agg #[.int .i64 K, .int .i64 N, .string T]) ∧ Below w.heap.size w w' := by
  have := counted_any k n t w
  rw [h.e] at this
  exact this
theorem as_cn (k n : Int) (t : ByteArray) (K N : Int) (T : ByteArray) (h : Cn k n t K N T) (w : World) : Calls Tryz.prog 25 #[.agg #[.int .i64 k, .int .i64 n, .string t]] w fun e w' => e = .returned (.agg #[.int .i64 K, .int .i64 N, .string T]) ∧ Below w.heap.size w w' := by
  have := as_any k n t w
  rw [h.e] at this
  exact this
theorem cnt_size (k n : Int) (t : ByteArray) {K N : Int} {T : ByteArray} (h : cnt k n t = (K, N, T)) : T.size ≤ 1000 := by
  have : T = (cnt k n t).2.2 := by rw [h]
  subst this
  have h0 : (⟨#[]⟩ : ByteArray).size = 0 := rfl
  unfold cnt
  split
  · split <;> simp [h0]
  · split
    · split
      · simp [h0]
      · simp; omega
    · split
      · simp [h0]
      · split <;> simp [h0]

def ordT (t1 t2 : ByteArray) : Int := Lib.compareBytes (t1.data.toList.map cap) (t2.data.toList.map cap)
/-- Which of two that count is below the other (B5). -/
def ordI (k1 n1 : Int) (t1 : ByteArray) (k2 n2 : Int) (t2 : ByteArray) : Int :=
  if k1 = 4 ∨ k2 = 4 then 0
  else if k1 = 0 then (if k2 = 2 then ordT t1 t2 else Lib.compareInt n1 n2)
  else if k2 = 0 then (if k1 = 2 then ordT t1 t2 else Lib.compareInt n1 n2)
  else if k1 ≠ k2 then Lib.compareInt k1 k2
  else if k1 = 2 then ordT t1 t2 else Lib.compareInt n1 n2
set_option maxHeartbeats 4000000 in
set_option maxRecDepth 100000 in
theorem rOrder_cn (k1 n1 : Int) (t1 : ByteArray) (k2 n2 : Int) (t2 : ByteArray) (K1 N1 : Int) (T1 : ByteArray) (K2 N2 : Int) (T2 : ByteArray) (h1 : Cn k1 n1 t1 K1 N1 T1) (h2 : Cn k2 n2 t2 K2 N2 T2) (w : World) :
    Calls Tryz.prog 22 #[.agg #[.int .i64 k1, .int .i64 n1, .string t1], .agg #[.int .i64 k2, .int .i64 n2, .string t2]] w fun e w' => e = .returned (.int .i64 (ordI K1 N1 T1 K2 N2 T2)) ∧ Below w.heap.size w w' := by
  have cc := hidv as_cn
  have H1 := hidv h1
  have H2 := hidv h2
  have hz1 : T1.size ≤ maxLen := by have := cnt_size k1 n1 t1 h1.e; unfold maxLen; omega
  have hz2 : T2.size ≤ maxLen := by have := cnt_size k2 n2 t2 h2.e; unfold maxLen; omega
  have HZ := hidv (And.intro hz1 hz2)
  clear h1 h2 hz1 hz2
  obtain ⟨R, eR⟩ : ∃ R, ordI K1 N1 T1 K2 N2 T2 = R := ⟨_, rfl⟩
  rw [eR]
  have HR := hidv eR
  clear eR
  go_enter Tryz.func22, Tryz.ntmps22
  have HX := hidv (twoB_new w 25 (.int .i64 k1) (.int .i64 n1) (.string t1) (.int .i64 k2) (.int .i64 n2) (.string t2) ((w.alloc (.cells #[.int .i64 k1, .int .i64 n1, .string t1] 25)).alloc (.cells #[.int .i64 k2, .int .i64 n2, .string t2] 25)) rfl (by go_grown))
  go_wp2_with fail
  refine (cc.out _ _ _ _ _ _ (by exact H1.out) _).mono ?_
  rintro e w1 ⟨rfl, hb1⟩
  have HT1 := hidv (HX.out.step hb1)
  obtain ⟨⟨c0, c1, c2⟩, ⟨c3, c4, c5⟩, ⟨c6, c7, c8⟩, c9, cx, cy⟩ := HT1.out.cells
  clear hb1
  have HT3 := hidv (HT1.out.seta (.int .i64 K1) (.int .i64 N1) (.string T1))
  obtain ⟨⟨g0, g1, g2⟩, ⟨g3, g4, g5⟩, ⟨g6, g7, g8⟩, g9, gx, gy⟩ := HT3.out.cells
  go_wp2_with fail
  refine (cc.out _ _ _ _ _ _ (by exact H2.out) _).mono ?_
  rintro e w2 ⟨rfl, hb2⟩
  have HT2 := hidv (HT3.out.step hb2)
  obtain ⟨⟨d0, d1, d2⟩, ⟨d3, d4, d5⟩, ⟨d6, d7, d8⟩, d9, dx, dy⟩ := HT2.out.cells
  clear hb2
  have hcut := hidv (HT2.out.setb (.int .i64 K2) (.int .i64 N2) (.string T2))
  clear HT1 HT2 HT3 HX c0 c1 c2 c3 c4 c5 c6 c7 c8 c9 cx cy g0 g1 g2 g3 g4 g5 g6 g7 g8 g9 gx gy
  go_upto_region 3 with fail
  clear d0 d1 d2 d3 d4 d5 d6 d7 d8 d9 dx dy
  generalize (((w2.setCell ⟨w.heap.size + 1, 0, none⟩ (.int .i64 K2)).setCell ⟨w.heap.size + 1, 1, none⟩ (.int .i64 N2)).setCell ⟨w.heap.size + 1, 2, none⟩ (.string T2)) = wc at hcut ⊢
  obtain ⟨⟨p0, p1, p2⟩, ⟨p3, p4, p5⟩, ⟨p6, p7, p8⟩, p9, px, py⟩ := hcut.out.cells
  have HB := hidv hcut.out.low
  have HS := hidv (fun x => hcut.out.low.setCell (p := ⟨w.heap.size, 0, none⟩) (Nat.le_refl _) x)
  have HS2 := hidv (fun x => hcut.out.low.setCell (p := ⟨w.heap.size + 1, 0, none⟩) (by simp) x)
  have HS3 := hidv (fun x y => (hcut.out.low.setCell (p := ⟨w.heap.size, 0, none⟩) (Nat.le_refl _) x).setCell (p := ⟨w.heap.size + 1, 0, none⟩) (by simp) y)
  have hzz : w.heap.size + 1 < wc.heap.size := lt_blk hcut.out.b
  have HC := hcut
  clear hcut H1 H2 cc
  by_cases gK14 : K1 = 4
  · subst gK14
    have HV : Hid (R = 0) := by show _ = _; rw [← HR.out]; simp [ordI]
    go_wp2_with fail
    go_ret
    exact ⟨by rw [HV.out]; rfl, by first | exact HB.out | exact HS.out _ | exact HS2.out _ | exact HS3.out _ _⟩
  by_cases gK24 : K2 = 4
  · subst gK24
    have HV : Hid (R = 0) := by show _ = _; rw [← HR.out]; simp [ordI]
    have qK14 : (K1 == 4) = false := by simpa using gK14
    clear gK14
    go_wp2_with fail
    go_ret
    exact ⟨by rw [HV.out]; rfl, by first | exact HB.out | exact HS.out _ | exact HS2.out _ | exact HS3.out _ _⟩
  have qK14 : (K1 == 4) = false := by simpa using gK14
  have qK24 : (K2 == 4) = false := by simpa using gK24
  by_cases gK10 : K1 = 0
  · subst gK10
    by_cases gK22 : K2 = 2
    · subst gK22
      have HV : Hid (R = ordT T1 T2) := by show _ = _; rw [← HR.out]; simp [ordI]
      clear gK14 gK24
      have ct := hidv (fun w => texts_any T1 T2 w HZ.out.1 HZ.out.2)
      go_wp2_with fail
      refine (ct.out _).mono ?_
      rintro e w' ⟨rfl, rfl⟩
      go_wp2_with fail
      go_ret
      exact ⟨by rw [HV.out]; rfl, by first | exact HB.out | exact HS.out _ | exact HS2.out _ | exact HS3.out _ _⟩
    have qK22 : (K2 == 2) = false := by simpa using gK22
    have HV : Hid (R = Lib.compareInt N1 N2) := by show _ = _; rw [← HR.out]; simp [ordI, gK24, gK22]
    have ci := hidv (fun w => ints_any N1 N2 w)
    by_cases gK20 : K2 = 0
    · subst gK20
      clear gK14 gK24 gK22
      go_wp2_with fail
      refine (ci.out _).mono ?_
      rintro e w' ⟨rfl, rfl⟩
      go_wp2_with fail
      go_ret
      exact ⟨by rw [HV.out]; rfl, by first | exact HB.out | exact HS.out _ | exact HS2.out _ | exact HS3.out _ _⟩
    · have qK20 : (K2 == 0) = false := by simpa using gK20
      clear gK14 gK24 gK22 gK20
      go_wp2_with fail
      refine (ci.out _).mono ?_
      rintro e w' ⟨rfl, rfl⟩
      go_wp2_with fail
      go_ret
      exact ⟨by rw [HV.out]; rfl, by first | exact HB.out | exact HS.out _ | exact HS2.out _ | exact HS3.out _ _⟩
  have qK10 : (K1 == 0) = false := by simpa using gK10
  by_cases gK20 : K2 = 0
  · subst gK20
    by_cases gK12 : K1 = 2
    · subst gK12
      have HV : Hid (R = ordT T1 T2) := by show _ = _; rw [← HR.out]; simp [ordI]
      clear gK14 gK24 gK10
      have ct := hidv (fun w => texts_any T1 T2 w HZ.out.1 HZ.out.2)
      go_wp2_with fail
      refine (ct.out _).mono ?_
      rintro e w' ⟨rfl, rfl⟩
      go_wp2_with fail
      go_ret
      exact ⟨by rw [HV.out]; rfl, by first | exact HB.out | exact HS.out _ | exact HS2.out _ | exact HS3.out _ _⟩
    · have qK12 : (K1 == 2) = false := by simpa using gK12
      have HV : Hid (R = Lib.compareInt N1 N2) := by show _ = _; rw [← HR.out]; simp [ordI, gK14, gK10, gK12]
      have ci := hidv (fun w => ints_any N1 N2 w)
      clear gK14 gK24 gK10 gK12
      go_wp2_with fail
      refine (ci.out _).mono ?_
      rintro e w' ⟨rfl, rfl⟩
      go_wp2_with fail
      go_ret
      exact ⟨by rw [HV.out]; rfl, by first | exact HB.out | exact HS.out _ | exact HS2.out _ | exact HS3.out _ _⟩
  have qK20 : (K2 == 0) = false := by simpa using gK20
  by_cases gE : K1 = K2
  · subst gE
    by_cases gK12 : K1 = 2
    · subst gK12
      have HV : Hid (R = ordT T1 T2) := by show _ = _; rw [← HR.out]; simp [ordI]
      clear gK14 gK24 gK10 gK20
      have ct := hidv (fun w => texts_any T1 T2 w HZ.out.1 HZ.out.2)
      go_wp2_with fail
      refine (ct.out _).mono ?_
      rintro e w' ⟨rfl, rfl⟩
      go_wp2_with fail
      go_ret
      exact ⟨by rw [HV.out]; rfl, by first | exact HB.out | exact HS.out _ | exact HS2.out _ | exact HS3.out _ _⟩
    · have qK12 : (K1 == 2) = false := by simpa using gK12
      have HV : Hid (R = Lib.compareInt N1 N2) := by show _ = _; rw [← HR.out]; simp [ordI, gK14, gK10, gK12]
      have ci := hidv (fun w => ints_any N1 N2 w)
      clear gK14 gK24 gK10 gK12 gK20
      go_wp2_with fail
      refine (ci.out _).mono ?_
      rintro e w' ⟨rfl, rfl⟩
      go_wp2_with fail
      go_ret
      exact ⟨by rw [HV.out]; rfl, by first | exact HB.out | exact HS.out _ | exact HS2.out _ | exact HS3.out _ _⟩
  · have qE : (K1 != K2) = true := by simpa using gE
    have HV : Hid (R = Lib.compareInt K1 K2) := by show _ = _; rw [← HR.out]; simp [ordI, gK14, gK24, gK10, gK20, gE]
    have ci := hidv (fun w => ints_any K1 K2 w)
    clear gK14 gK24 gK10 gK20 gE
    go_wp2_with fail
    refine (ci.out _).mono ?_
    rintro e w' ⟨rfl, rfl⟩
    go_wp2_with fail
    go_ret
    exact ⟨by rw [HV.out]; rfl, by first | exact HB.out | exact HS.out _ | exact HS2.out _ | exact HS3.out _ _⟩
end Go.Proofs.YtjbkjeabobccaabGreatDoor
