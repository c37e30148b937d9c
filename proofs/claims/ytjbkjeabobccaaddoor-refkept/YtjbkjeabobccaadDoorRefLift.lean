import Derived.Test.YtjbkjeabobccaadDoorRows
import Derived.WalkKit
import Derived.ProofKit
import Derived.OpenShut
import Derived.Lay
import Derived.MakeChecks
import Derived.ChangeOld
import Derived.Below
import Derived.Lib.SmallJoins
namespace Go.Proofs.YtjbkjeabobccaadDoor
open Go.ChangeShapes Go.WideShapes Go.ChangeAt Go.RowKit Go.Joins

theorem own : ownKnob Tryd.prog.godebug = none := by kernel_rfl
theorem laidOut : laidOutB Tryd.prog = true := by kernel_rfl
def laidN : List (String × DataW Unit) := [("math/bits.deBruijn32tab", Rows.laid_math_bits_deBruijn32tab), ("math/bits.deBruijn64tab", Rows.laid_math_bits_deBruijn64tab), ("internal/strconv.uint64pow10", Rows.laid_internal_strconv_uint64pow10)]

theorem array8 {cs : Array Value} (h : cs.size = 8) : ∃ v0 v1 v2 v3 v4 v5 v6 v7, cs = #[v0, v1, v2, v3, v4, v5, v6, v7] := by
  obtain ⟨l⟩ := cs
  match l, h with
  | [v0, v1, v2, v3, v4, v5, v6, v7], _ => exact ⟨v0, v1, v2, v3, v4, v5, v6, v7, rfl⟩

section
variable {H : Type} {enc : TypeId × Value → H} {w : World} {base : Nat} {sp : Nat → Bool} {held : Bool}
theorem cells_ref : Tryd.prog.cellsOf 23 = 4 := by kernel_rfl
theorem cells_area : Tryd.prog.cellsOf 25 = 8 := by kernel_rfl
theorem cells_3 : Tryd.prog.cellsOf 3 = 1 := by kernel_rfl
theorem cells_4 : Tryd.prog.cellsOf 4 = 1 := by kernel_rfl

/-- A cell's four numbers and marks, read. -/
theorem read_ref {fuel : Nat} {v0 v1 v2 v3 : Value} {x : DataW H × List MemPlace} (h : DataW.trod enc Tryd.prog w base sp held fuel 23 [v0, v1, v2, v3] = some x) :
    ∃ (c r : Int) (f g : Bool), v0 = .int .i64 c ∧ v1 = .int .i64 r ∧ v2 = .bool f ∧ v3 = .bool g ∧ (Lit.int .i64 c).wf = true ∧ (Lit.int .i64 r).wf = true := by
  obtain ⟨y0, y1, y2, y3, n, _, _, h0, h1, h2, h3⟩ := trod_struct4 Tryd.underlying23 h
  simp only [cells_3, cells_4, List.drop_zero, List.drop_succ_cons, List.take_succ_cons, List.take_zero] at h0 h1 h2 h3
  obtain ⟨c, e0, _, wc⟩ := DataW.trod_int Tryd.underlying3 h0
  obtain ⟨r, e1, _, wr⟩ := DataW.trod_int Tryd.underlying3 h1
  obtain ⟨f, e2, _⟩ := DataW.trod_bool Tryd.underlying4 h2
  obtain ⟨g, e3, _⟩ := DataW.trod_bool Tryd.underlying4 h3
  simp at e0 e1 e2 e3
  exact ⟨c, r, f, g, e0, e1, e2, e3, wc, wr⟩

theorem open_ref {r : Reach} {b0 : Nat} {v : Value} {d : DataW H} {p : List MemPlace} (hv : Value.okWide Tryd.prog w r b0 23 v) (h : DataW.Trod enc Tryd.prog w base sp held 23 v d p) :
    ∃ (c r : Int) (f g : Bool), v = .agg #[.int .i64 c, .int .i64 r, .bool f, .bool g] ∧ (Lit.int .i64 c).wf = true ∧ (Lit.int .i64 r).wf = true := by
  obtain ⟨cs, rfl, hsz⟩ := okWide_struct Tryd.underlying23 hv
  obtain ⟨v0, v1, v2, v3, rfl⟩ := array4 (hsz.trans cells_ref)
  obtain ⟨fuel, hf⟩ := h
  obtain ⟨c, r, f, g, rfl, rfl, rfl, rfl, wc, wr⟩ := read_ref (by simpa [Value.cells] using hf)
  exact ⟨c, r, f, g, rfl, wc, wr⟩

theorem open_area {r : Reach} {b0 : Nat} {v : Value} {d : DataW H} {p : List MemPlace} (hv : Value.okWide Tryd.prog w r b0 25 v) (h : DataW.Trod enc Tryd.prog w base sp held 25 v d p) :
    ∃ (c1 r1 : Int) (f1 g1 : Bool) (c2 r2 : Int) (f2 g2 : Bool), v = .agg #[.int .i64 c1, .int .i64 r1, .bool f1, .bool g1, .int .i64 c2, .int .i64 r2, .bool f2, .bool g2] ∧
      (Lit.int .i64 c1).wf = true ∧ (Lit.int .i64 r1).wf = true ∧ (Lit.int .i64 c2).wf = true ∧ (Lit.int .i64 r2).wf = true := by
  obtain ⟨cs, rfl, hsz⟩ := okWide_struct Tryd.underlying25 hv
  obtain ⟨v0, v1, v2, v3, v4, v5, v6, v7, rfl⟩ := array8 (hsz.trans cells_area)
  obtain ⟨fuel, hf⟩ := h
  obtain ⟨y0, y1, n, _, _, h0, h1⟩ := trod_struct2 Tryd.underlying25 hf
  simp only [cells_ref, Value.cells, List.drop_zero, List.drop_succ_cons, List.take_succ_cons, List.take_zero] at h0 h1
  obtain ⟨c1, r1, f1, g1, rfl, rfl, rfl, rfl, a1, a2⟩ := read_ref h0
  obtain ⟨c2, r2, f2, g2, rfl, rfl, rfl, rfl, a3, a4⟩ := read_ref h1
  exact ⟨c1, r1, f1, g1, c2, r2, f2, g2, rfl, a1, a2, a3, a4⟩
end
end Go.Proofs.YtjbkjeabobccaadDoor
