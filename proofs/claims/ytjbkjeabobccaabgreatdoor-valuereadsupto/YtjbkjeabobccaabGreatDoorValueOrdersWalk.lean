import Derived.Test.YtjbkjeabobccaabGreatDoorValAlive
namespace Go.Proofs.YtjbkjeabobccaabGreatDoor
open Go.RowKit Go.Sort Go.Lib
set_option linter.unusedVariables false

set_option maxHeartbeats 800000 in
theorem given2_any (k n : Int) (t : ByteArray) (w : World) : Calls Tryz.prog 14 #[.agg #[.int .i64 k, .int .i64 n, .string t]] w fun e w' => e = .returned (.agg #[.int .i64 k, .int .i64 n, .string t]) ∧ Below w.heap.size w w' := by
  go_enter Tryz.func14, Tryz.ntmps14
  go_wp2
  refine bodyPost_ret (v := .agg #[.int .i64 k, .int .i64 n, .string t]) (by simp [results, Tryz.results14, go_sem]) rfl ?_
  exact ⟨rfl, by go_grown⟩

set_option maxHeartbeats 8000000 in
set_option maxRecDepth 100000 in
theorem valueOrders_walk (k1 n1 : Int) (t1 : ByteArray) (k2 n2 : Int) (t2 : ByteArray) (w : World) (hE : Env w) :
    Calls Tryz.prog 5 #[.agg #[.int .i64 k1, .int .i64 n1, .string t1], .agg #[.int .i64 k2, .int .i64 n2, .string t2]] w fun e w' => e = .returned (.bool true) ∧ Below w.heap.size w w' := by
  obtain ⟨⟨K1, N1, T1⟩, e1⟩ : ∃ c, cnt k1 n1 t1 = c := ⟨_, rfl⟩
  obtain ⟨⟨K2, N2, T2⟩, e2⟩ : ∃ c, cnt k2 n2 t2 = c := ⟨_, rfl⟩
  have co := hidv (order_cn k1 n1 t1 k2 n2 t2 K1 N1 T1 K2 N2 T2 ⟨e1⟩ ⟨e2⟩)
  have cr := hidv (rOrder_cn k1 n1 t1 k2 n2 t2 K1 N1 T1 K2 N2 T2 ⟨e1⟩ ⟨e2⟩)
  generalize ordI K1 N1 T1 K2 N2 T2 = R at co cr
  have cg := hidv given2_any
  have al := hidv alive2_any
  have HE := hidv hE
  have HX := hidv (twoB_new w 25 (.int .i64 k1) (.int .i64 n1) (.string t1) (.int .i64 k2) (.int .i64 n2) (.string t2) ((w.alloc (.cells #[.int .i64 k1, .int .i64 n1, .string t1] 25)).alloc (.cells #[.int .i64 k2, .int .i64 n2, .string t2] 25)) rfl (by go_grown))
  clear e1 e2 hE
  go_enter Tryz.func5, Tryz.ntmps5
  go_upto_region 1 with fail
  obtain ⟨⟨x0, x1, x2⟩, ⟨x3, x4, x5⟩, ⟨x6, x7, x8⟩, x9, xx, xy⟩ := HX.out.cells
  have B0 : Below w.heap.size w ((w.alloc (.cells #[.int .i64 k1, .int .i64 n1, .string t1] 25)).alloc (.cells #[.int .i64 k2, .int .i64 n2, .string t2] 25)).drew := HX.out.low.drew
  have hz : w.heap.size + 1 < ((w.alloc (.cells #[.int .i64 k1, .int .i64 n1, .string t1] 25)).alloc (.cells #[.int .i64 k2, .int .i64 n2, .string t2] 25)).heap.size := lt_blk HX.out.b
  clear HX x6 x7 x8 x9 xx xy
  generalize ((w.alloc (.cells #[.int .i64 k1, .int .i64 n1, .string t1] 25)).alloc (.cells #[.int .i64 k2, .int .i64 n2, .string t2] 25)) = wa at B0 hz x0 x1 x2 x3 x4 x5 ⊢
  go_region_held2 (fun w' => w'.cell? ⟨w.heap.size, 0, none⟩ = some (.int .i64 k1) ∧ w'.cell? ⟨w.heap.size, 1, none⟩ = some (.int .i64 n1) ∧ w'.cell? ⟨w.heap.size, 2, none⟩ = some (.string t1) ∧ w'.cell? ⟨w.heap.size + 1, 0, none⟩ = some (.int .i64 k2) ∧ w'.cell? ⟨w.heap.size + 1, 1, none⟩ = some (.int .i64 n2) ∧ w'.cell? ⟨w.heap.size + 1, 2, none⟩ = some (.string t2)) (go_keep)
    (first
      | (go_at_call 14; refine (cg.out _ _ _ _).mono ?_; rintro e w5 ⟨rfl, hb5⟩; have k5 : ∀ o, w5.cell? ⟨w.heap.size, o, none⟩ = _ := (fun o => hb5.cell (p := ⟨w.heap.size, o, none⟩) (by first | omega | (simp <;> omega))); have j5 : ∀ o, w5.cell? ⟨w.heap.size + 1, o, none⟩ = _ := (fun o => hb5.cell (p := ⟨w.heap.size + 1, o, none⟩) (by first | omega | (simp <;> omega))); have z5 : w.heap.size + 1 < w5.heap.size := Nat.lt_of_lt_of_le (by first | omega | (simp <;> omega)) hb5.size; have B5 : Below w.heap.size w w5 := key2v (by assumption) hb5; clear hb5)
      | (go_at_call 21; refine (co.out _).mono ?_; rintro e w6 ⟨rfl, hb6⟩; have k6 : ∀ o, w6.cell? ⟨w.heap.size, o, none⟩ = _ := (fun o => hb6.cell (p := ⟨w.heap.size, o, none⟩) (by first | omega | (simp <;> omega))); have j6 : ∀ o, w6.cell? ⟨w.heap.size + 1, o, none⟩ = _ := (fun o => hb6.cell (p := ⟨w.heap.size + 1, o, none⟩) (by first | omega | (simp <;> omega))); have z6 : w.heap.size + 1 < w6.heap.size := Nat.lt_of_lt_of_le (by omega) hb6.size; have B6 : Below w.heap.size w w6 := key2v (by assumption) hb6; clear hb6)
      | (go_at_call 22; refine (cr.out _).mono ?_; rintro e w7 ⟨rfl, hb7⟩; have k7 : ∀ o, w7.cell? ⟨w.heap.size, o, none⟩ = _ := (fun o => hb7.cell (p := ⟨w.heap.size, o, none⟩) (by first | omega | (simp <;> omega))); have j7 : ∀ o, w7.cell? ⟨w.heap.size + 1, o, none⟩ = _ := (fun o => hb7.cell (p := ⟨w.heap.size + 1, o, none⟩) (by first | omega | (simp <;> omega))); have z7 : w.heap.size + 1 < w7.heap.size := Nat.lt_of_lt_of_le (by omega) hb7.size; have B7 : Below w.heap.size w w7 := key2v (by assumption) hb7; clear hb7)
      | (go_at_call 13; refine (al.out _ (HE.out.step (by assumption))).mono ?_; rintro e w9 ⟨rfl, hb9⟩; have k9 : ∀ o, w9.cell? ⟨w.heap.size, o, none⟩ = _ := (fun o => hb9.cell (p := ⟨w.heap.size, o, none⟩) (by first | omega | (simp <;> omega))); have j9 : ∀ o, w9.cell? ⟨w.heap.size + 1, o, none⟩ = _ := (fun o => hb9.cell (p := ⟨w.heap.size + 1, o, none⟩) (by first | omega | (simp <;> omega))); have B9 : Below w.heap.size w w9 := key2v (by assumption) hb9; clear hb9))
  all_goals
    go_wp2_with fail
    go_ret
    exact ⟨rfl, B9⟩
end Go.Proofs.YtjbkjeabobccaabGreatDoor
