import Derived.Test.YtjbkjeabobccaabGreatDoorNumBig0
import Derived.Test.YtjbkjeabobccaabGreatDoorRows
import Derived.WalkKit
import Derived.WalkSpells
import Derived.WalkLawsBesides
import Derived.Outline
import Derived.BigQuiet
import Derived.Handy
namespace Go.Proofs.YtjbkjeabobccaabGreatDoor
open Go.RowKit
set_option linter.unusedVariables false

/-- A slice that reads as these digits. -/
structure RowIs (w : World) (a : Option Addr) (cap : Nat) (ds : List Int) : Prop where
  le : ds.length ≤ cap
  lid : cap ≤ maxLen
  cells : ∀ j, j < ds.length → ∃ g, a = some ⟨g, 0, none⟩ ∧ w.cell? ⟨g, j, none⟩ = some (.int .i64 (ds.getD j 0))
theorem RowIs.step {w w' : World} {a : Option Addr} {cap : Nat} {ds : List Int} (h : RowIs w a cap ds) (hb : Below w.heap.size w w') : RowIs w' a cap ds :=
  ⟨h.le, h.lid, fun j hj => by
    obtain ⟨g, h1, h2⟩ := h.cells j hj
    exact ⟨g, h1, (hb.cell (World.block_lt_of_cell? w _ h2)).trans h2⟩⟩
theorem RowIs.at {w : World} {a : Option Addr} {cap : Nat} {ds : List Int} (h : RowIs w a cap ds) (hp : 0 < ds.length) : ∃ g, a = some ⟨g, 0, none⟩ ∧ ∀ j, j < ds.length → w.cell? ⟨g, j, none⟩ = some (.int .i64 (ds.getD j 0)) := by
  obtain ⟨g, h1, _⟩ := h.cells 0 hp
  refine ⟨g, h1, fun j hj => ?_⟩
  obtain ⟨g', h2, h3⟩ := h.cells j hj
  rw [h1] at h2
  cases h2
  exact h3
theorem RowIs.nil {w : World} {a : Option Addr} {cap : Nat} (h : cap ≤ maxLen) : RowIs w a cap [] := ⟨Nat.zero_le _, h, fun j hj => absurd hj (by simp)⟩

theorem trimD_take : ∀ (l : List Int), l.take (trimD l).length = trimD l
  | [] => rfl
  | d :: l => by
    rw [trimD]
    split
    · rfl
    · simp [trimD_take l]
theorem trimD_le (l : List Int) : (trimD l).length ≤ l.length := by
  have := congrArg List.length (trimD_take l)
  rw [List.length_take] at this
  omega
theorem RowIs.take {w : World} {a : Option Addr} {cap : Nat} {ds : List Int} (h : RowIs w a cap ds) (k : Nat) : RowIs w a cap (ds.take k) :=
  ⟨by rw [List.length_take]; have := h.le; omega, h.lid, fun j hj => by
    rw [List.length_take] at hj
    obtain ⟨g, h1, h2⟩ := h.cells j (by omega)
    refine ⟨g, h1, h2.trans ?_⟩
    rw [List.getD_eq_getElem?_getD, List.getD_eq_getElem?_getD, List.getElem?_take_of_lt (by omega)]⟩
theorem RowIs.trim {w : World} {a : Option Addr} {cap : Nat} {ds : List Int} (h : RowIs w a cap ds) : RowIs w a cap (trimD ds) := by
  rw [← trimD_take]; exact h.take _
theorem take_last {ds : List Int} {k : Nat} (h : 0 < k) (hk : k ≤ ds.length) : ds.take k = ds.take (k - 1) ++ [ds.getD (k - 1) 0] := by
  obtain ⟨m, rfl⟩ : ∃ m, k = m + 1 := ⟨k - 1, by omega⟩
  have : m < ds.length := by omega
  rw [Nat.add_sub_cancel, List.take_succ_eq_append_getElem this, List.getD_eq_getElem?_getD, List.getElem?_eq_getElem this]
  rfl

set_option maxHeartbeats 1000000 in
theorem trim_any (w : World) (a : Option Addr) (cap : Nat) (ds : List Int) (h : RowIs w a cap ds) :
    Calls Tryz.prog 103 #[.slice a ds.length cap] w fun e w' => e = .returned (.slice a (trimD ds).length cap) ∧ w' = w := by
  have hlid := h.lid
  have hle := h.le
  unfold maxLen at hlid
  have H : Hid (RowIs w a cap ds) := h
  clear h
  go_enter Tryz.func103, Tryz.ntmps103
  go_wp2
  go_loop [0] (fun d => ∃ k : Nat, k ≤ ds.length ∧ d = .slice a k cap ∧ Hid (trimD ds = trimD (ds.take k))) (fun d => match d with | .slice _ n _ => n | _ => 0)
  case atStart => exact ⟨ds.length, Nat.le_refl _, rfl, by show _ = _; rw [List.take_length]⟩
  case round =>
    obtain ⟨k, hk, rfl, hr⟩ := hrel
    by_cases h0 : k = 0
    · subst h0
      have hf : Hid ((trimD ds).length = 0) := by show _ = _; rw [hr.out]; rfl
      go_wp2
      rw [hf.out]
      go_ret
      exact ⟨rfl, rfl⟩
    · have hp : 0 < k := by omega
      obtain ⟨g, rfl, hc⟩ := H.out.at (by omega)
      have hcx := hc (k - 1) (by omega)
      have HL : Hid (ds.take k = ds.take (k - 1) ++ [ds.getD (k - 1) 0]) := take_last hp hk
      clear hc
      obtain ⟨d, ed⟩ : ∃ d, ds.getD (k - 1) 0 = d := ⟨_, rfl⟩
      rw [ed] at hcx HL
      clear ed
      by_cases hd : d = 0
      · subst hd
        have hn : Hid (trimD ds = trimD (ds.take (k - 1))) := by show _ = _; rw [hr.out, HL.out, trimD_snoc_zero]
        go_wp2
        go_round
        case rel => exact ⟨k - 1, by omega, by go_num, hn⟩
        case measure => simp; omega
      · have hf : Hid ((trimD ds).length = k) := by show _ = _; rw [hr.out, HL.out, trimD_snoc _ _ hd]; simp; omega
        have hd' : (d == 0) = false := by simpa using hd
        go_wp2
        rw [hf.out]
        go_ret
        exact ⟨rfl, rfl⟩
end Go.Proofs.YtjbkjeabobccaabGreatDoor
