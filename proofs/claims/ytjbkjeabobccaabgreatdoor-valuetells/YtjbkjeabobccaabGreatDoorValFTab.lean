import Derived.Test.YtjbkjeabobccaabGreatDoorValLift
import Derived.Test.YtjbkjeabobccaabGreatDoorValShow
namespace Go.Proofs.YtjbkjeabobccaabGreatDoor
open Go.ChangeShapes Go.WideShapes Go.ChangeAt Go.RowKit Go.Joins

/-- A table of texts as a row lists it. -/
def strData {H : Type} (zs : List (List UInt8)) : DataW H := .agg (zs.map fun z => .lit (.string z))
theorem cells_of_strs {H : Type} {enc : TypeId × Value → H} {P : Program} {w : World} {base : Nat} {sp : Nat → Bool} {held : Bool} {fuel : Nat} {t e : TypeId} {n : Nat} {cs : List Value} {zs : List (List UInt8)} {p : List MemPlace}
    (ht : P.underlying t = some (.array n e)) (he : P.underlying e = some .string) (hce : P.cellsOf e = 1) (hct : P.cellsOf t = n)
    (h : DataW.trod enc P w base sp held fuel t cs = some (strData zs, p)) : cs = zs.map fun z => Value.string ⟨z.toArray⟩ := by
  cases fuel with
  | zero => simp [DataW.trod] at h
  | succ fuel =>
    simp only [DataW.trod, ht, hce, hct, Nat.mul_one] at h
    split at h
    · rename_i hl
      obtain ⟨xs, hm, hx⟩ := Option.map_eq_some_iff.1 h
      have hxs : xs.map (·.1) = zs.map fun z => (DataW.lit (.string z) : DataW H) := by
        have := congrArg Prod.fst hx
        simpa [strData] using this
      have hxl : xs.length = n := by simpa using Lib.mapM_length hm
      have hzl : zs.length = n := by
        have := congrArg List.length hxs
        simp at this
        omega
      apply List.ext_getElem?
      intro i
      by_cases hi : i < n
      · obtain ⟨b, hb, hf⟩ := Lib.mapM_at hm i i (by simp [hi])
        obtain ⟨z, hc, rfl, _⟩ := DataW.trod_string he hf
        have h1 : cs[i]? = some (.string z) := by
          have := congrArg (·[0]?) hc
          simpa [List.getElem?_take, List.getElem?_drop] using this
        have h2 : (xs.map (·.1))[i]? = some (DataW.lit (.string z.data.toList) : DataW H) := by simp [hb]
        rw [hxs] at h2
        simp only [List.getElem?_map, Option.map_eq_some_iff, DataW.lit.injEq, Lit.string.injEq] at h2
        obtain ⟨z', hz', e⟩ := h2
        simp [h1, hz', e]
      · rw [List.getElem?_eq_none (by omega), List.getElem?_eq_none (by simp; omega)]
    · cases h
def faultL : List (List UInt8) := [[], [35, 68, 73, 86, 47, 48, 33], [35, 78, 85, 77, 33], [35, 86, 65, 76, 85, 69, 33], [35, 82, 69, 70, 33], [35, 78, 47, 65], [35, 67, 89, 67, 76, 69, 33]]
theorem faultData : (Rows.laid_sheet_value_faultNames : DataW Unit) = strData faultL := by kernel_rfl
theorem gFault : Tryz.prog.globalNamed "sheet/value.faultNames" = some 0 := by kernel_rfl
set_option maxRecDepth 100000 in
theorem ftab_of {W : World} (h : laidMetH Tryz.prog laidV W) : FTab W := by
  rw [MakeChecks.laidMetH_plain _ _ _ (by kernel_rfl)] at h
  have h5 := h.tail.tail.tail.tail
  rw [faultData] at h5
  obtain ⟨ps, ⟨g', t', cs, fuel, p, q, hg', ht', hvar, hd, _, _⟩, _⟩ := h5
  obtain rfl := Option.some.inj (gFault.symm.trans hg')
  obtain rfl := Option.some.inj ((show (Tryz.prog.globals[0]?).map (·.type) = some 61 by kernel_rfl).symm.trans ht')
  have hcs := cells_of_strs Tryz.underlying61 Tryz.underlying9 (by kernel_rfl) (by kernel_rfl) hd
  have hat : ∀ i : Nat, W.cell? ⟨0, i, none⟩ = (faultL.map fun z => Value.string ⟨z.toArray⟩)[i]? := fun i => by
    have := World.var?_cell gFault hvar i
    rw [this, ← hcs]
    simp
  intro w' hb
  have hcell : ∀ (i : Nat) (v : Value), (faultL.map fun z => Value.string ⟨z.toArray⟩)[i]? = some v → w'.cell? ⟨0, i, none⟩ = some v := fun i v hv => by
    have h1 := (hat i).trans hv
    exact (hb.cell (World.block_lt_of_cell? W _ h1)).trans h1
  exact ⟨hcell 1 _ rfl, hcell 2 _ rfl, hcell 3 _ rfl, hcell 4 _ rfl, hcell 5 _ rfl, hcell 6 _ rfl⟩
end Go.Proofs.YtjbkjeabobccaabGreatDoor
