import Derived.Test.YtjbkjeabobccaacGreatDoorValOper
namespace Go.Proofs.YtjbkjeabobccaacGreatDoor
open Go.RowKit Go.Sort Go.Lib
set_option linter.unusedVariables false

/-- Two texts joined, as a value (B6). -/
def joinV (a b : ByteArray) : Int × Int × ByteArray := if 1000 < (a ++ b).size then (4, 3, ⟨#[]⟩) else (2, 0, a ++ b)
set_option maxHeartbeats 2000000 in
set_option maxRecDepth 100000 in
theorem join_cn (K1 N1 : Int) (T1 : ByteArray) (K2 N2 : Int) (T2 : ByteArray) (c1 : Ci K1 N1 T1 K1 N1 T1) (c2 : Ci K2 N2 T2 K2 N2 T2) (hz : (txtI K1 N1 T1).1.size ≤ 1000 ∧ (txtI K2 N2 T2).1.size ≤ 1000) (w : World) (hE : Env w) :
    Calls Tryz.prog 39 #[.agg #[.int .i64 K1, .int .i64 N1, .string T1], .agg #[.int .i64 K2, .int .i64 N2, .string T2]] w fun e w' =>
      e = .returned (.agg #[.int .i64 (joinV (txtI K1 N1 T1).1 (txtI K2 N2 T2).1).1, .int .i64 (joinV (txtI K1 N1 T1).1 (txtI K2 N2 T2).1).2.1, .string (joinV (txtI K1 N1 T1).1 (txtI K2 N2 T2).1).2.2]) ∧ Below w.heap.size w w' := by
  have d1 := hidv (text_cn K1 N1 T1 K1 N1 T1 c1)
  have d2 := hidv (text_cn K2 N2 T2 K2 N2 T2 c2)
  have HE := hidv hE
  have HB := hidv (triB_new w 24 (.int .i64 K1) (.int .i64 N1) (.string T1) (.int .i64 K2) (.int .i64 N2) (.string T2) (.int .i64 0) (.int .i64 0) (.string ⟨#[]⟩) (((w.alloc (.cells #[.int .i64 K1, .int .i64 N1, .string T1] 24)).alloc (.cells #[.int .i64 K2, .int .i64 N2, .string T2] 24)).alloc (.cells #[.int .i64 0, .int .i64 0, .string ⟨#[]⟩] 24)) rfl (by go_grown))
  generalize (txtI K1 N1 T1).2 = y1 at d1
  generalize (txtI K2 N2 T2).2 = y2 at d2
  generalize (txtI K1 N1 T1).1 = x1 at d1 hz ⊢
  generalize (txtI K2 N2 T2).1 = x2 at d2 hz ⊢
  have hadd : ∀ W, (Op.stringOp .add x1 x2).run Tryz.prog W = .ok (.string (x1 ++ x2)) W := fun W => run_string_add_sum W _ _ (by omega)
  have cv0 := fun w => textValue_any (x1 ++ x2) w
  have hv : (if 1000 < (x1 ++ x2).size then Value.agg #[.int .i64 4, .int .i64 3, .string ⟨#[]⟩] else .agg #[.int .i64 2, .int .i64 0, .string (x1 ++ x2)]) = .agg #[.int .i64 (joinV x1 x2).1, .int .i64 (joinV x1 x2).2.1, .string (joinV x1 x2).2.2] := by
    unfold joinV
    split <;> rfl
  simp only [hv] at cv0
  have cv := hidv cv0
  generalize joinV x1 x2 = Z at cv ⊢
  obtain ⟨z1, z2, z3⟩ := Z
  generalize x1 ++ x2 = U at hadd cv
  clear cv0 hv hz hE c1 c2
  go_enter Tryz.func39, Tryz.ntmps39
  go_wp2_with fail
  refine (d1.out _ (HE.out.step HB.out.low)).mono ?_
  rintro e w1 ⟨rfl, hb1⟩
  have HB1 := hidv (HB.out.step hb1)
  obtain ⟨⟨x0, x1', x2'⟩, ⟨x3, x4, x5⟩, ⟨x6, x7, x8⟩, x9, xx, xy⟩ := HB1.out.cells
  clear hb1 HB
  go_wp2_with fail
  refine (d2.out _ (HE.out.step HB1.out.low)).mono ?_
  rintro e w2 ⟨rfl, hb2⟩
  have HB2 := hidv (HB1.out.step hb2)
  clear hb2 HB1 x0 x1' x2' x3 x4 x5 x6 x7 x8 x9 xx xy
  go_wp2_with fail
  refine (cv.out _).mono ?_
  rintro e w3 ⟨rfl, hb3⟩
  have HB3 := hidv (HB2.out.step hb3)
  obtain ⟨⟨x0, x1', x2'⟩, ⟨x3, x4, x5⟩, ⟨x6, x7, x8⟩, x9, xx, xy⟩ := HB3.out.cells
  obtain ⟨s0, s1, s2⟩ := HB3.out.sets
  clear hb3 HB2
  go_wp2_with fail
  refine bodyPost_ret (v := .agg #[.int .i64 z1, .int .i64 z2, .string z3]) (by simp [results, Tryz.results39, go_sem, *]) rfl ?_
  exact ⟨rfl, HB3.out.out _ _ _⟩
end Go.Proofs.YtjbkjeabobccaacGreatDoor
