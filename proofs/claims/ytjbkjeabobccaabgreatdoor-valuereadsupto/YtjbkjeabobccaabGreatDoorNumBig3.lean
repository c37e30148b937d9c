import Derived.Test.YtjbkjeabobccaabGreatDoorNumBig2
namespace Go.Proofs.YtjbkjeabobccaabGreatDoor
open Go.RowKit
set_option linter.unusedVariables false

theorem info3 : (Tryz.prog.info? 3).map (fun i => (i.zero, i.size, i.bytes)) = some (some (.int .i64 0), 1, 8) := by kernel_rfl

/-- What is owned reads as digits. -/
theorem rowIs_own {w : World} {base : Nat} {v : Value} {ds : List Int} (h : w.ownsRow base 3 1 v ds.length (ds.map (Value.int .i64))) : ∃ a cap, v = .slice a ds.length cap ∧ RowIs w a cap ds := by
  rcases h.2 with ⟨h1, h2⟩ | ⟨g, cap, cur, h1, hb, hg, hnc, hcm, hcs, htake⟩
  · have : ds = [] := by simpa using h2
    subst this
    exact ⟨none, 0, h1, RowIs.nil (by unfold maxLen; omega)⟩
  · refine ⟨some ⟨g, 0, none⟩, cap, h1, hnc, hcm, fun j hj => ⟨g, rfl, ?_⟩⟩
    rw [h1] at h
    rw [h.cellAt j (by omega), List.getElem?_map, List.getElem?_eq_getElem hj, List.getD_eq_getElem?_getD, List.getElem?_eq_getElem hj]
    rfl
/-- One digit more. -/
theorem rel_push {B n : Nat} {w wr w1 : World} {v v' : Value} {o : Obj} {D : List Int} {d : Int} (hn : D.length = n) (hown : wr.ownsRow B 3 1 v D.length (D.map (Value.int .i64))) (hnx : Below B w wr) (hB : B ≤ w.heap.size)
    (hown' : w1.ownsRow B 3 1 v' (n + 1) (D.map (Value.int .i64) ++ [.int .i64 d])) (hgrow : (wr.alloc o).grownBy w1 v.ownBlock) :
    w1.ownsRow B 3 1 v' (D ++ [d]).length ((D ++ [d]).map (Value.int .i64)) ∧ Below B w w1 := by
  have hs := hnx.size
  subst hn
  exact ⟨by simpa using hown', (hnx.alloc (by omega) o).grown hgrow (by simp; omega) (fun j hj => (hown.lt j hj).1)⟩

theorem one_cell (W : World) (v : Value) (T : TypeId) : ∀ j u, [v][j]? = some u → (W.alloc (.cells #[v] T)).cell? ((⟨W.heap.size, 0, none⟩ : Addr).add j) = some u := by
  intro j u hj
  match j, hj with
  | 0, hj =>
    simp at hj
    subst hj
    simp [Addr.add]
theorem one_ok (k : IntKind) (n : Int) : ∀ u ∈ [Value.int k n], u.oneCell' = true := by
  intro u hu
  simp at hu
  subst hu
  rfl

theorem plus_step {x y X Y C : Nat} {D : List Int} (hS : X + Y + C ≠ 0) (h : D ++ repr (X + Y + C) = repr (x + y)) :
    (D ++ [(((X % 10000 + Y % 10000 + C) % 10000 : Nat) : Int)]) ++ repr (X / 10000 + Y / 10000 + (X % 10000 + Y % 10000 + C) / 10000) = repr (x + y) := by
  rw [← h, repr_pos hS, List.append_assoc]
  congr 1
  rw [List.singleton_append]
  congr 1
  · omega
  · congr 1; omega
/-- What is left of two rows, and what was told so far. -/
def PlusAt (x y k X Y C : Nat) (D : List Int) : Prop := (repr x).drop k = repr X ∧ (repr y).drop k = repr Y ∧ D.length = k ∧ D ++ repr (X + Y + C) = repr (x + y)
theorem PlusAt.le {x y k X Y C : Nat} {D : List Int} (h : PlusAt x y k X Y C D) : k ≤ (repr (x + y)).length ∧ (X + Y + C ≠ 0 → k < (repr (x + y)).length) := by
  obtain ⟨_, _, h3, h4⟩ := h
  rw [← h4, List.length_append]
  refine ⟨by omega, fun hS => ?_⟩
  rw [repr_pos hS]; simp; omega
theorem PlusAt.next {x y k X Y C : Nat} {D : List Int} (h : PlusAt x y k X Y C D) (hS : X + Y + C ≠ 0) (d : Int) (hd : d = (((X % 10000 + Y % 10000 + C) % 10000 : Nat) : Int)) :
    PlusAt x y (k + 1) (X / 10000) (Y / 10000) ((X % 10000 + Y % 10000 + C) / 10000) (D ++ [d]) := by
  obtain ⟨h1, h2, h3, h4⟩ := h
  have dr : ∀ {z Z : Nat}, (repr z).drop k = repr Z → (repr z).drop (k + 1) = repr (Z / 10000) := by
    intro z Z hz
    rcases Nat.eq_zero_or_pos Z with h0 | h0
    · subst h0
      rw [repr_zero] at hz
      rw [show 0 / 10000 = 0 from rfl, repr_zero]
      exact List.drop_eq_nil_of_le (by have := List.drop_eq_nil_iff.1 hz; omega)
    · obtain ⟨e1, e2⟩ := repr_at hz
      exact (e2 (e1.2 (by omega))).2
  subst hd
  exact ⟨dr h1, dr h2, by simp [h3], plus_step hS h4⟩
theorem at_getD {k X x : Nat} (hX : (repr x).drop k = repr X) (h : X ≠ 0) : k < (repr x).length ∧ (repr x).getD k 0 = ((X % 10000 : Nat) : Int) := by
  obtain ⟨e1, e2⟩ := repr_at hX
  have hk := e1.2 h
  exact ⟨hk, by rw [List.getD_eq_getElem?_getD, List.getElem?_eq_getElem hk]; exact (e2 hk).1⟩
theorem at_none {k x : Nat} (hX : (repr x).drop k = repr 0) : ¬ k < (repr x).length := by
  obtain ⟨e1, _⟩ := repr_at hX
  simpa using e1

set_option maxHeartbeats 4000000 in
theorem plus_any (w : World) (a b : Option Addr) (ca cb x y : Nat) (ha : RowIs w a ca (repr x)) (hb : RowIs w b cb (repr y)) (hl : (repr (x + y)).length ≤ 1000000000000) :
    Calls Tryz.prog 100 #[.slice a (repr x).length ca, .slice b (repr y).length cb] w fun e w' =>
      (∃ v cap, e = .returned (.slice v (repr (x + y)).length cap) ∧ RowIs w' v cap (repr (x + y))) ∧ Below w.heap.size w w' := by
  obtain ⟨i0, hi, hz0, hz1, hz2⟩ := info_parts info3
  have A1 := ha.le
  have A2 := ha.lid
  have B1 := hb.le
  have B2 := hb.lid
  unfold maxLen at A2 B2
  have HA : Hid (RowIs w a ca (repr x)) := ha
  have HB : Hid (RowIs w b cb (repr y)) := hb
  clear ha hb
  obtain ⟨la, ea⟩ : ∃ l, (repr x).length = l := ⟨_, rfl⟩
  obtain ⟨lb, eb⟩ : ∃ l, (repr y).length = l := ⟨_, rfl⟩
  rw [ea] at A1 ⊢
  rw [eb] at B1 ⊢
  have EA : Hid ((repr x).length = la) := ea
  have EB : Hid ((repr y).length = lb) := eb
  obtain ⟨ls, es⟩ : ∃ l, (repr (x + y)).length = l := ⟨_, rfl⟩
  have ES : Hid ((repr (x + y)).length = ls) := es
  rw [es] at hl
  clear ea eb es
  go_enter Tryz.func100, Tryz.ntmps100
  go_wp2
  go_loopw [5, 6, 7] (fun d c i wr => ∃ (k X Y C : Nat) (D : List Int), C ≤ 1 ∧ i = .int .i64 k ∧ c = .int .i64 C ∧ wr.ownsRow w.heap.size 3 1 d D.length (D.map (Value.int .i64)) ∧ Below w.heap.size w wr ∧ Hid (PlusAt x y k X Y C D))
    (fun _ _ i _ => ls - (RowKit.intOf i).toNat)
  case atStart => exact ⟨0, x, y, 0, [], by omega, rfl, rfl, World.ownsRow_nil _ _ _ _, Below.refl _ _, by simp, by simp, rfl, by simp⟩
  case round =>
    obtain ⟨k, X, Y, C, D, hC, rfl, rfl, hown, hnx, hP⟩ := hrel
    have hle := hP.out.le
    rw [ES.out] at hle
    obtain ⟨hkl, hkl'⟩ := hle
    have hDk : D.length = k := hP.out.2.2.1
    have hC0 : (0 : Int) ≤ C := by omega
    have hC1 : (C : Int) ≤ 1 := by omega
    by_cases hX : X = 0
    · subst hX
      have nX : ¬ k < la := by rw [← EA.out]; exact at_none hP.out.1
      by_cases hY : Y = 0
      · subst hY
        have nY : ¬ k < lb := by rw [← EB.out]; exact at_none hP.out.2.1
        by_cases hc : C = 0
        · subst hc
          have hD : D = repr (x + y) := by have := hP.out.2.2.2; simpa [repr_zero] using this
          clear hkl'
          go_wp2
          go_ret
          subst hD
          obtain ⟨v, cap, rfl, hR⟩ := rowIs_own hown
          exact ⟨⟨v, cap, rfl, hR⟩, hnx⟩
        · obtain rfl : C = 1 := by omega
          have hkk := hkl' (by omega)
          clear hkl' hC0 hC1 hc
          have HP : Hid (PlusAt x y (k + 1) (0 / 10000) (0 / 10000) ((0 % 10000 + 0 % 10000 + 1) / 10000) (D ++ [1])) := hP.out.next (by omega) 1 (by omega)
          clear hP
          go_wp2_with (at_builtin; refine wpList_append_own _ rfl _ _ 89 rfl w.heap.size 3 i0 (.int .i64 0) 1 8 Tryz.underlying89 hi hz0 hz1 hz2 rfl (by decide) _ _ _ rfl (hown.alloc _) ⟨wr.heap.size, 0, none⟩ 1 1 [.int .i64 1] rfl rfl (one_cell _ _ _) (one_ok _ _) (by unfold maxLen; omega) (by omega) (by have := hnx.size; simp; omega) ?_)
          intro v' w1 hown' hgrow _
          have R := rel_push hDk hown hnx (Nat.le_refl _) hown' hgrow
          clear hown' hgrow hown
          go_wp2
          go_roundw
          case rel => exact ⟨k + 1, _, _, _, D ++ [1], by omega, by go_num, by go_num, R.1, R.2, HP⟩
          case measure => simp [RowKit.intOf]; omega
      · obtain ⟨kY, eY⟩ := at_getD hP.out.2.1 hY
        have cY := (HB.out.step hnx).at (by omega)
        obtain ⟨g, rfl, hg⟩ := cY
        have cv := hg k kY
        rw [eY] at cv
        rw [EB.out] at kY
        have hkk := hkl' (by omega)
        obtain ⟨v, hv⟩ : ∃ v : Int, v = ((Y % 10000 : Nat) : Int) := ⟨_, rfl⟩
        obtain ⟨c, hc⟩ : ∃ c : Int, c = (C : Int) := ⟨_, rfl⟩
        rw [← hv] at cv
        have HP : Hid (PlusAt x y (k + 1) (0 / 10000) (Y / 10000) ((0 % 10000 + Y % 10000 + C) / 10000) (D ++ [(c + v) % 10000])) := hP.out.next (by omega) _ (by omega)
        have v0 : 0 ≤ v := by omega
        have v1 : v < 10000 := by omega
        have hN : Hid (Value.int .i64 ((c + v) / 10000) = .int .i64 (((0 % 10000 + Y % 10000 + C) / 10000 : Nat) : Int)) := congrArg (Value.int .i64) (by omega)
        have hN1 : Hid ((0 % 10000 + Y % 10000 + C) / 10000 ≤ 1) := by show _ ≤ _; omega
        rw [← hc] at hC0 hC1
        rw [← hc]
        clear hP hg hv hc eY hkl' hY hC
        go_wp2_with (at_builtin; refine wpList_append_own _ rfl _ _ 89 rfl w.heap.size 3 i0 (.int .i64 0) 1 8 Tryz.underlying89 hi hz0 hz1 hz2 rfl (by decide) _ _ _ rfl (hown.alloc _) ⟨wr.heap.size, 0, none⟩ 1 1 [.int .i64 ((c + v) % 10000)] rfl rfl (one_cell _ _ _) (one_ok _ _) (by unfold maxLen; omega) (by omega) (by have := hnx.size; simp; omega) ?_)
        intro v' w1 hown' hgrow _
        have R := rel_push hDk hown hnx (Nat.le_refl _) hown' hgrow
        clear hown' hgrow hown cv
        go_wp2
        go_roundw
        case rel => exact ⟨k + 1, _, _, _, D ++ [(c + v) % 10000], hN1.out, by go_num, hN.out, R.1, R.2, HP⟩
        case measure => simp [RowKit.intOf]; omega
    · obtain ⟨kX, eX⟩ := at_getD hP.out.1 hX
      obtain ⟨g, rfl, hg⟩ := (HA.out.step hnx).at (by omega)
      have cu := hg k kX
      rw [eX] at cu
      rw [EA.out] at kX
      have hkk := hkl' (by omega)
      obtain ⟨u, hu⟩ : ∃ u : Int, u = ((X % 10000 : Nat) : Int) := ⟨_, rfl⟩
      obtain ⟨c, hc⟩ : ∃ c : Int, c = (C : Int) := ⟨_, rfl⟩
      rw [← hu] at cu
      have u0 : 0 ≤ u := by omega
      have u1 : u < 10000 := by omega
      clear hg
      by_cases hY : Y = 0
      · subst hY
        have nY : ¬ k < lb := by rw [← EB.out]; exact at_none hP.out.2.1
        have HP : Hid (PlusAt x y (k + 1) (X / 10000) (0 / 10000) ((X % 10000 + 0 % 10000 + C) / 10000) (D ++ [(c + u) % 10000])) := hP.out.next (by omega) _ (by omega)
        have hN : Hid (Value.int .i64 ((c + u) / 10000) = .int .i64 (((X % 10000 + 0 % 10000 + C) / 10000 : Nat) : Int)) := congrArg (Value.int .i64) (by omega)
        have hN1 : Hid ((X % 10000 + 0 % 10000 + C) / 10000 ≤ 1) := by show _ ≤ _; omega
        rw [← hc] at hC0 hC1
        rw [← hc]
        clear hP hu hc eX hkl' hX hC
        go_wp2_with (at_builtin; refine wpList_append_own _ rfl _ _ 89 rfl w.heap.size 3 i0 (.int .i64 0) 1 8 Tryz.underlying89 hi hz0 hz1 hz2 rfl (by decide) _ _ _ rfl (hown.alloc _) ⟨wr.heap.size, 0, none⟩ 1 1 [.int .i64 ((c + u) % 10000)] rfl rfl (one_cell _ _ _) (one_ok _ _) (by unfold maxLen; omega) (by omega) (by have := hnx.size; simp; omega) ?_)
        intro v' w1 hown' hgrow _
        have R := rel_push hDk hown hnx (Nat.le_refl _) hown' hgrow
        clear hown' hgrow hown cu
        go_wp2
        go_roundw
        case rel => exact ⟨k + 1, _, _, _, D ++ [(c + u) % 10000], hN1.out, by go_num, hN.out, R.1, R.2, HP⟩
        case measure => simp [RowKit.intOf]; omega
      · obtain ⟨kY, eY⟩ := at_getD hP.out.2.1 hY
        obtain ⟨f, rfl, hf⟩ := (HB.out.step hnx).at (by omega)
        have cv := hf k kY
        rw [eY] at cv
        rw [EB.out] at kY
        obtain ⟨v, hv⟩ : ∃ v : Int, v = ((Y % 10000 : Nat) : Int) := ⟨_, rfl⟩
        rw [← hv] at cv
        have HP : Hid (PlusAt x y (k + 1) (X / 10000) (Y / 10000) ((X % 10000 + Y % 10000 + C) / 10000) (D ++ [(c + u + v) % 10000])) := hP.out.next (by omega) _ (by omega)
        have v0 : 0 ≤ v := by omega
        have v1 : v < 10000 := by omega
        have hN : Hid (Value.int .i64 ((c + u + v) / 10000) = .int .i64 (((X % 10000 + Y % 10000 + C) / 10000 : Nat) : Int)) := congrArg (Value.int .i64) (by omega)
        have hN1 : Hid ((X % 10000 + Y % 10000 + C) / 10000 ≤ 1) := by show _ ≤ _; omega
        rw [← hc] at hC0 hC1
        rw [← hc]
        clear hP hf hu hv hc eX eY hkl' hX hY hC
        go_wp2_with (at_builtin; refine wpList_append_own _ rfl _ _ 89 rfl w.heap.size 3 i0 (.int .i64 0) 1 8 Tryz.underlying89 hi hz0 hz1 hz2 rfl (by decide) _ _ _ rfl (hown.alloc _) ⟨wr.heap.size, 0, none⟩ 1 1 [.int .i64 ((c + u + v) % 10000)] rfl rfl (one_cell _ _ _) (one_ok _ _) (by unfold maxLen; omega) (by omega) (by have := hnx.size; simp; omega) ?_)
        intro v' w1 hown' hgrow _
        have R := rel_push hDk hown hnx (Nat.le_refl _) hown' hgrow
        clear hown' hgrow hown cu cv
        go_wp2
        go_roundw
        case rel => exact ⟨k + 1, _, _, _, D ++ [(c + u + v) % 10000], hN1.out, by go_num, hN.out, R.1, R.2, HP⟩
        case measure => simp [RowKit.intOf]; omega
end Go.Proofs.YtjbkjeabobccaabGreatDoor
