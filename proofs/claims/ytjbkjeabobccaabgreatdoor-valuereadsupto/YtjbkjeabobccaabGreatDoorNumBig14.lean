import Derived.Test.YtjbkjeabobccaabGreatDoorNumBig12
namespace Go.Proofs.YtjbkjeabobccaabGreatDoor
open Go.RowKit
set_option linter.unusedVariables false

/-- How far a half is told, from the highest digit on. -/
def HalfAt (x k X : Nat) (c : Int) (D : List Int) : Prop := IntAt x k X ∧ c = ((X % 2 : Nat) : Int) ∧ okD (D.drop k) ∧ valD (D.drop k) = ((X / 2 : Nat) : Int)
theorem drop_set_self {D : List Int} {k : Nat} (v : Int) (hk : 0 < k) (hl : k ≤ D.length) : (D.set (k - 1) v).drop (k - 1) = v :: D.drop k := by
  rw [List.drop_eq_getElem_cons (by simp; omega)]
  congr 1
  · simp
  · rw [show k - 1 + 1 = k by omega, List.drop_set_of_lt (by omega)]
theorem HalfAt.next {x k X : Nat} {c d : Int} {D : List Int} (h : HalfAt x k X c D) (hk : 0 < k) (hl : k ≤ D.length) (hd0 : 0 ≤ d) (hd1 : d < 10000) (hI : IntAt x (k - 1) (X * 10000 + d.toNat)) :
    HalfAt x (k - 1) (X * 10000 + d.toNat) ((c * 10000 + d) % 2) (D.set (k - 1) ((c * 10000 + d) / 2)) := by
  obtain ⟨_, h2, h3, h4⟩ := h
  refine ⟨hI, by omega, ?_, ?_⟩
  · rw [drop_set_self _ hk hl, okD_cons]
    exact ⟨by omega, h3⟩
  · rw [drop_set_self _ hk hl, valD, h4]
    omega

set_option maxHeartbeats 4000000 in
set_option maxRecDepth 100000 in
theorem halves_any (w : World) (a : Option Addr) (ca x : Nat) (ha : RowIs w a ca (repr x)) (hl : (repr x).length ≤ 1000000000000) :
    Calls Tryz.prog 126 #[.slice a (repr x).length ca] w fun e w' =>
      (∃ v cap, e = .returned (.slice v (repr (x / 2)).length cap) ∧ RowIs w' v cap (repr (x / 2))) ∧ Below w.heap.size w w' := by
  obtain ⟨i0, hi, hz0, hz1, hz2⟩ := info_parts info3
  have A1 := ha.le
  have A2 := ha.lid
  unfold maxLen at A2
  have HA := hidd ha
  clear ha
  obtain ⟨la, ea⟩ : ∃ l, (repr x).length = l := ⟨_, rfl⟩
  rw [ea] at A1 hl ⊢
  have EA := hidd ea
  clear ea
  go_enter Tryz.func126, Tryz.ntmps126
  go_wp2_with (at_make; refine wpList_make_full _ rfl _ _ 89 rfl w.heap.size 3 i0 (.int .i64 0) 1 Tryz.underlying89 hi hz0 hz1 .i64 .i64 _ _ la rfl rfl (by omega) (by omega) (by rw [hz2]; omega) (by unfold maxLen; omega) (by simp) ?_)
  intro w1 hown hgrow
  have hown2 : w1.ownsRow w.heap.size 3 1 (.slice (some ⟨w.heap.size, 0, none⟩) la la) la ((List.replicate la (0 : Int)).map (Value.int .i64)) := by rw [← made_zero]; exact hown
  have hbel : Below w.heap.size w w1 := (Below.refl _ _).grown hgrow (by simp) (fun k hk => by cases hk)
  clear hown hgrow
  go_wp2
  go_loopw [4, 5] (fun c i wr => ∃ (k X : Nat) (C : Int) (D : List Int), k ≤ la ∧ i = .int .i64 ((k : Int) - 1) ∧ c = .int .i64 C ∧ 0 ≤ C ∧ C ≤ 1 ∧ D.length = la ∧ wr.ownsRow w.heap.size 3 1 (.slice (some ⟨w.heap.size, 0, none⟩) la la) la (D.map (Value.int .i64)) ∧ Below w.heap.size w wr ∧ Hid (HalfAt x k X C D)) (fun _ i _ => (RowKit.intOf i + 1).toNat)
  case atStart => exact ⟨la, 0, 0, List.replicate la 0, Nat.le_refl _, rfl, rfl, by omega, by omega, by simp, hown2, hbel, by show _ = _; rw [List.drop_eq_nil_of_le (by rw [EA.out]; omega)]; rfl, rfl, (by intro d hd; rw [List.drop_eq_nil_of_le (by simp)] at hd; cases hd), by rw [List.drop_eq_nil_of_le (by simp)]; rfl⟩
  case round =>
    clear hown2 hbel
    obtain ⟨k, X, C, D, hk, rfl, rfl, hC0, hC1, hlen, hown, hbel, hH⟩ := hrel
    by_cases h0 : k = 0
    · subst h0
      have hrep : Hid (trimD D = repr (x / 2)) := by
        obtain ⟨h1, h2, h3, h4⟩ := hH.out
        rw [List.drop_zero] at h3 h4
        have e1 : x = X := repr_inj (by unfold IntAt at h1; simpa using h1)
        show _ = _
        rw [trim_repr _ h3, h4, e1]
        congr 1
      have hR : RowIs wr (some ⟨w.heap.size, 0, none⟩) la D := by
        have ho := hown
        rw [← hlen] at ho
        obtain ⟨a', c', e1, e2⟩ := rowIs_own ho
        rw [hlen] at e1
        cases e1
        exact e2
      have ct : Hid (Calls Tryz.prog 103 #[.slice (some ⟨w.heap.size, 0, none⟩) la la] wr fun e w' => e = .returned (.slice (some ⟨w.heap.size, 0, none⟩) (repr (x / 2)).length la) ∧ w' = wr) := by
        have := trim_any wr _ la D hR
        rw [hlen, hrep.out] at this
        exact this
      have HR : Hid (RowIs wr (some ⟨w.heap.size, 0, none⟩) la (repr (x / 2))) := by have := hR.trim; rw [hrep.out] at this; exact this
      clear hR hown hrep hH
      go_wp2_with fail
      refine ct.out.mono ?_
      rintro e w' ⟨rfl, rfl⟩
      go_wp2_with fail
      go_ret
      exact ⟨⟨_, la, rfl, HR.out⟩, hbel⟩
    · have hp : 0 < k := by omega
      obtain ⟨d, ed, d0, d1, hI2, _⟩ := hH.out.1.down hp (by rw [EA.out]; omega)
      have hN := hidd (hH.out.next hp (by omega) d0 d1 hI2)
      obtain ⟨g, rfl, hg⟩ := (HA.out.step hbel).at (by rw [EA.out]; omega)
      have cg := hg (k - 1) (by rw [EA.out]; omega)
      rw [ed] at cg
      obtain ⟨cd, fd⟩ := own_cell hown hlen (k - 1) (by omega)
      have HO := hidd hown
      clear hg ed hI2 hH hown
      go_wp2
      go_roundw
      case rel => exact ⟨k - 1, _, _, D.set (k - 1) ((C * 10000 + d) / 2), by omega, by go_num, rfl, by omega, by omega, by simp [hlen], own_set HO.out _ _, hbel.setCell (Nat.le_refl _) _, hN⟩
      case measure => simp [RowKit.intOf]; omega
end Go.Proofs.YtjbkjeabobccaabGreatDoor
