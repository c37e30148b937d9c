import Derived.Test.YtjbkjeabobccaabGreatDoorNumBig3
namespace Go.Proofs.YtjbkjeabobccaabGreatDoor
open Go.RowKit
set_option linter.unusedVariables false

theorem drop_next {z Z k : Nat} (hz : (repr z).drop k = repr Z) : (repr z).drop (k + 1) = repr (Z / 10000) := by
  rcases Nat.eq_zero_or_pos Z with h0 | h0
  · subst h0
    rw [repr_zero] at hz
    rw [show 0 / 10000 = 0 from rfl, repr_zero]
    exact List.drop_eq_nil_of_le (by have := List.drop_eq_nil_iff.1 hz; omega)
  · obtain ⟨e1, e2⟩ := repr_at hz
    exact (e2 (e1.2 (by omega))).2
/-- What is left of two rows, and what of their difference was told so far. -/
def MinusAt (x y k X Y : Nat) (c : Int) (D : List Int) : Prop := (repr x).drop k = repr X ∧ (repr y).drop k = repr Y ∧ D.length = k ∧ okD D ∧ valD D + 10000 ^ k * ((X : Int) - Y + c) = (x : Int) - y
theorem MinusAt.next {x y k X Y : Nat} {c : Int} {D : List Int} (h : MinusAt x y k X Y c D) (c' d : Int) (hd : d = (X % 10000 : Nat) - ((Y % 10000 : Nat) : Int) + c - 10000 * c') (h0 : 0 ≤ d) (h1 : d < 10000) (_ : X ≠ 0) :
    MinusAt x y (k + 1) (X / 10000) (Y / 10000) c' (D ++ [d]) := by
  obtain ⟨e1, e2, e3, e4, e5⟩ := h
  refine ⟨drop_next e1, drop_next e2, by simp [e3], okD_append.2 ⟨e4, by intro e he; simp at he; subst he; exact ⟨h0, h1⟩⟩, ?_⟩
  rw [valD_append, e3, ← e5]
  obtain ⟨Z, hZ⟩ : ∃ Z : Int, ((X / 10000 : Nat) : Int) - ((Y / 10000 : Nat) : Int) + c' = Z := ⟨_, rfl⟩
  have : (X : Int) - Y + c = d + 10000 * Z := by omega
  rw [this, hZ, Int.pow_succ, Int.mul_add, Int.mul_assoc]
  simp only [valD, Int.mul_zero, Int.add_zero]
  omega
theorem MinusAt.done {x y k Y : Nat} {c : Int} {D : List Int} (h : MinusAt x y k 0 Y c D) (hle : y ≤ x) (hc : c ≤ 0) : trimD D = repr (x - y) := by
  obtain ⟨_, _, e3, e4, e5⟩ := h
  have l1 := valD_lt _ e4
  have l2 := valD_nonneg _ e4
  rw [e3] at l1
  rw [trim_repr _ e4]
  congr 1
  obtain ⟨p, ep⟩ : ∃ p : Int, (10000 : Int) ^ k = p := ⟨_, rfl⟩
  rw [ep] at e5 l1
  have hz : (Y : Int) - c = 0 := by
    by_cases h' : 0 < (Y : Int) - c
    · exfalso
      have : p * 1 ≤ p * ((Y : Int) - c) := Int.mul_le_mul_of_nonneg_left (by omega) (by omega)
      have e6 : p * (((0 : Nat) : Int) - Y + c) = - (p * ((Y : Int) - c)) := by rw [← Int.mul_neg]; congr 1; omega
      rw [e6] at e5
      omega
    · omega
  rw [show (((0 : Nat) : Int) - Y + c) = 0 by omega, Int.mul_zero] at e5
  omega

set_option maxHeartbeats 4000000 in
theorem minus_any (w : World) (a b : Option Addr) (ca cb x y : Nat) (ha : RowIs w a ca (repr x)) (hb : RowIs w b cb (repr y)) (hle : y ≤ x) (hl : (repr x).length ≤ 1000000000000) :
    Calls Tryz.prog 102 #[.slice a (repr x).length ca, .slice b (repr y).length cb] w fun e w' =>
      (∃ v cap, e = .returned (.slice v (repr (x - y)).length cap) ∧ RowIs w' v cap (repr (x - y))) ∧ Below w.heap.size w w' := by
  obtain ⟨i0, hi, hz0, hz1, hz2⟩ := info_parts info3
  have A1 := ha.le
  have A2 := ha.lid
  have B1 := hb.le
  have B2 := hb.lid
  unfold maxLen at A2 B2
  have HA : Hid (RowIs w a ca (repr x)) := ha
  have HB : Hid (RowIs w b cb (repr y)) := hb
  have HLE : Hid (y ≤ x) := hle
  clear ha hb hle
  obtain ⟨la, ea⟩ : ∃ l, (repr x).length = l := ⟨_, rfl⟩
  obtain ⟨lb, eb⟩ : ∃ l, (repr y).length = l := ⟨_, rfl⟩
  rw [ea] at A1 hl ⊢
  rw [eb] at B1 ⊢
  have EA : Hid ((repr x).length = la) := ea
  have EB : Hid ((repr y).length = lb) := eb
  clear ea eb
  go_enter Tryz.func102, Tryz.ntmps102
  go_wp2
  go_loopw [5, 6, 7] (fun d c i wr => ∃ (k X Y : Nat) (C : Int) (D : List Int), -1 ≤ C ∧ C ≤ 0 ∧ i = .int .i64 k ∧ c = .int .i64 C ∧ wr.ownsRow w.heap.size 3 1 d D.length (D.map (Value.int .i64)) ∧ Below w.heap.size w wr ∧ Hid (MinusAt x y k X Y C D))
    (fun _ _ i _ => la - (RowKit.intOf i).toNat)
  case atStart => exact ⟨0, x, y, 0, [], by omega, by omega, rfl, rfl, World.ownsRow_nil _ _ _ _, Below.refl _ _, by simp, by simp, rfl, (by intro d hd; cases hd), by simp [valD]⟩
  case round =>
    obtain ⟨k, X, Y, c, D, hC0, hC1, rfl, rfl, hown, hnx, hP⟩ := hrel
    have hDk : D.length = k := hP.out.2.2.1
    by_cases hX : X = 0
    · subst hX
      have nX : ¬ k < la := by rw [← EA.out]; exact at_none hP.out.1
      have hD : Hid (trimD D = repr (x - y)) := hP.out.done HLE.out hC1
      obtain ⟨v, cap, rfl, hR⟩ := rowIs_own hown
      have ct : Hid (Calls Tryz.prog 103 #[.slice v k cap] wr fun e w' => e = .returned (.slice v (repr (x - y)).length cap) ∧ w' = wr) := by
        have := trim_any wr v cap D hR
        rw [hD.out, hDk] at this
        exact this
      have HR : Hid (RowIs wr v cap (repr (x - y))) := by have := hR.trim; rw [hD.out] at this; exact this
      clear hP hR hD hown
      go_wp2_with fail
      refine ct.out.mono ?_
      rintro e w' ⟨rfl, rfl⟩
      go_wp2_with fail
      go_ret
      exact ⟨⟨v, cap, rfl, HR.out⟩, hnx⟩
    · obtain ⟨kX, eX⟩ := at_getD hP.out.1 hX
      obtain ⟨g, rfl, hg⟩ := (HA.out.step hnx).at (by omega)
      have cu := hg k kX
      rw [eX] at cu
      rw [EA.out] at kX
      obtain ⟨u, hu⟩ : ∃ u : Int, u = ((X % 10000 : Nat) : Int) := ⟨_, rfl⟩
      rw [← hu] at cu
      have u0 : 0 ≤ u := by omega
      have u1 : u < 10000 := by omega
      clear hg eX
      by_cases hY : Y = 0
      · have nY : ¬ k < lb := by rw [← EB.out]; rw [hY] at hP; exact at_none hP.out.2.1
        by_cases ht : c + u < 0
        · have HP : Hid (MinusAt x y (k + 1) (X / 10000) (Y / 10000) (-1) (D ++ [c + u + 10000])) := hP.out.next _ _ (by omega) (by omega) (by omega) hX
          clear hP hu hY hX
          go_wp2_with (at_builtin; refine wpList_append_own _ rfl _ _ 89 rfl w.heap.size 3 i0 (.int .i64 0) 1 8 Tryz.underlying89 hi hz0 hz1 hz2 rfl (by decide) _ _ _ rfl (hown.alloc _) ⟨wr.heap.size, 0, none⟩ 1 1 [.int .i64 (c + u + 10000)] rfl rfl (one_cell _ _ _) (one_ok _ _) (by unfold maxLen; omega) (by omega) (by have := hnx.size; simp; omega) ?_)
          intro v' w1 hown' hgrow _
          have R := rel_push hDk hown hnx (Nat.le_refl _) hown' hgrow
          clear hown' hgrow hown cu
          go_wp2
          go_roundw
          case rel => exact ⟨k + 1, _, _, -1, D ++ [c + u + 10000], by omega, by omega, by go_num, rfl, R.1, R.2, HP⟩
          case measure => simp [RowKit.intOf]; omega
        · have HP : Hid (MinusAt x y (k + 1) (X / 10000) (Y / 10000) (0) (D ++ [c + u])) := hP.out.next _ _ (by omega) (by omega) (by omega) hX
          clear hP hu hY hX
          go_wp2_with (at_builtin; refine wpList_append_own _ rfl _ _ 89 rfl w.heap.size 3 i0 (.int .i64 0) 1 8 Tryz.underlying89 hi hz0 hz1 hz2 rfl (by decide) _ _ _ rfl (hown.alloc _) ⟨wr.heap.size, 0, none⟩ 1 1 [.int .i64 (c + u)] rfl rfl (one_cell _ _ _) (one_ok _ _) (by unfold maxLen; omega) (by omega) (by have := hnx.size; simp; omega) ?_)
          intro v' w1 hown' hgrow _
          have R := rel_push hDk hown hnx (Nat.le_refl _) hown' hgrow
          clear hown' hgrow hown cu
          go_wp2
          go_roundw
          case rel => exact ⟨k + 1, _, _, 0, D ++ [c + u], by omega, by omega, by go_num, rfl, R.1, R.2, HP⟩
          case measure => simp [RowKit.intOf]; omega
      · obtain ⟨kY, eY⟩ := at_getD hP.out.2.1 hY
        obtain ⟨f, rfl, hf⟩ := (HB.out.step hnx).at (by omega)
        have cv := hf k kY
        rw [eY] at cv
        rw [EB.out] at kY
        obtain ⟨v, hv⟩ : ∃ v : Int, v = ((Y % 10000 : Nat) : Int) := ⟨_, rfl⟩
        rw [← hv] at cv
        have v0 : 0 ≤ v := by omega
        have v1 : v < 10000 := by omega
        clear hf eY
        by_cases ht : c + u - v < 0
        · have HP : Hid (MinusAt x y (k + 1) (X / 10000) (Y / 10000) (-1) (D ++ [c + u - v + 10000])) := hP.out.next _ _ (by omega) (by omega) (by omega) hX
          clear hP hu hv hY hX
          go_wp2_with (at_builtin; refine wpList_append_own _ rfl _ _ 89 rfl w.heap.size 3 i0 (.int .i64 0) 1 8 Tryz.underlying89 hi hz0 hz1 hz2 rfl (by decide) _ _ _ rfl (hown.alloc _) ⟨wr.heap.size, 0, none⟩ 1 1 [.int .i64 (c + u - v + 10000)] rfl rfl (one_cell _ _ _) (one_ok _ _) (by unfold maxLen; omega) (by omega) (by have := hnx.size; simp; omega) ?_)
          intro v' w1 hown' hgrow _
          have R := rel_push hDk hown hnx (Nat.le_refl _) hown' hgrow
          clear hown' hgrow hown cu
          go_wp2
          go_roundw
          case rel => exact ⟨k + 1, _, _, -1, D ++ [c + u - v + 10000], by omega, by omega, by go_num, rfl, R.1, R.2, HP⟩
          case measure => simp [RowKit.intOf]; omega
        · have HP : Hid (MinusAt x y (k + 1) (X / 10000) (Y / 10000) (0) (D ++ [c + u - v])) := hP.out.next _ _ (by omega) (by omega) (by omega) hX
          clear hP hu hv hY hX
          go_wp2_with (at_builtin; refine wpList_append_own _ rfl _ _ 89 rfl w.heap.size 3 i0 (.int .i64 0) 1 8 Tryz.underlying89 hi hz0 hz1 hz2 rfl (by decide) _ _ _ rfl (hown.alloc _) ⟨wr.heap.size, 0, none⟩ 1 1 [.int .i64 (c + u - v)] rfl rfl (one_cell _ _ _) (one_ok _ _) (by unfold maxLen; omega) (by omega) (by have := hnx.size; simp; omega) ?_)
          intro v' w1 hown' hgrow _
          have R := rel_push hDk hown hnx (Nat.le_refl _) hown' hgrow
          clear hown' hgrow hown cu
          go_wp2
          go_roundw
          case rel => exact ⟨k + 1, _, _, 0, D ++ [c + u - v], by omega, by omega, by go_num, rfl, R.1, R.2, HP⟩
          case measure => simp [RowKit.intOf]; omega
end Go.Proofs.YtjbkjeabobccaabGreatDoor
