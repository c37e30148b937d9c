import Derived.Test.YtjbkjeabobccaabGreatDoorValTruth
import Derived.Test.YtjbkjeabobccaabGreatDoorValueOrdersWalk
namespace Go.Proofs.YtjbkjeabobccaabGreatDoor
open Go.RowKit Go.Sort Go.Lib
set_option linter.unusedVariables false

set_option maxHeartbeats 16000000 in
set_option maxRecDepth 100000 in
theorem valueTells_walk (k n : Int) (t : ByteArray) (w : World) (hE : Env w) (hF : FTab w) (hlo : -9223372036854775808 ≤ n) (hhi : n ≤ 9223372036854775807) :
    Calls Tryz.prog 4 #[.agg #[.int .i64 k, .int .i64 n, .string t]] w fun e w' => e = .returned (.bool true) ∧ Below w.heap.size w w' := by
  obtain ⟨⟨K, N, T⟩, e1⟩ : ∃ c, cnt k n t = c := ⟨_, rfl⟩
  have hci : Ci k n t K N T := ⟨⟨e1⟩, hlo, hhi⟩
  have HE := hidv hE
  have HF := hidv hF
  have cg := hidv given2_any
  have c1 := hidv (text_cn k n t K N T hci)
  have d1 := hidv (rText_cn k n t K N T hci)
  have c2 := hidv (number_cn k n t K N T hci.cn)
  have d2 := hidv (rNumber_cn k n t K N T hci.cn)
  have c3 := hidv (truth_cn k n t K N T hci)
  have d3 := hidv (rTruth_cn k n t K N T hci)
  have c4 := hidv (show_cn k n t K N T hci)
  have d4 := hidv (rShow_cn k n t K N T hci)
  have al := hidv alive2_any
  generalize (txtI K N T).1 = r1 at c1 d1
  generalize (txtI K N T).2 = r2 at c1 d1
  generalize (numI K N T).1 = r3 at c2 d2
  generalize (numI K N T).2 = r4 at c2 d2
  generalize (truI K N T).1 = r5 at c3 d3
  generalize (truI K N T).2 = r6 at c3 d3
  generalize shwI K N T = r7 at c4 d4
  clear hE hF hlo hhi hci e1
  have V0 := hidv (oneB_new w 25 (.int .i64 k) (.int .i64 n) (.string t))
  go_enter Tryz.func4, Tryz.ntmps4
  go_wp2_with fail
  refine (cg.out _ _ _ _).mono ?_
  rintro e w1 ⟨rfl, hb1⟩
  have V1 := hidv ((V0.out.step hb1).step ((Below.refl _ w1).alloc (Nat.le_refl _) (.cells #[.int .i64 k, .int .i64 n, .string t] 23)))
  have hz1 : w.heap.size ≤ w1.heap.size := (V0.out.step hb1).low.size
  have X1 := hidv (oneB_new w1 23 (.int .i64 k) (.int .i64 n) (.string t))
  clear hb1 V0
  obtain ⟨v0, v1, v2, v3, v4, v5⟩ := three V1.out.a
  obtain ⟨x0, x1, x2, x3, x4, x5⟩ := three X1.out.a
  go_wp2_with fail
  refine (c1.out _ (HE.out.step V1.out.low)).mono ?_
  rintro e w2 ⟨rfl, hb⟩
  have V2 := hidv (V1.out.step hb)
  have X2 := hidv (X1.out.step hb)
  clear hb V1 X1
  clear v0 v1 v2 v3 v4 v5 x0 x1 x2 x3 x4 x5
  obtain ⟨v0, v1, v2, v3, v4, v5⟩ := three V2.out.a
  obtain ⟨x0, x1, x2, x3, x4, x5⟩ := three X2.out.a
  go_wp2_with fail
  refine (c2.out _ (HE.out.step V2.out.low)).mono ?_
  rintro e w3 ⟨rfl, hb⟩
  have V3 := hidv (V2.out.step hb)
  have X3 := hidv (X2.out.step hb)
  clear hb V2 X2
  clear v0 v1 v2 v3 v4 v5 x0 x1 x2 x3 x4 x5
  obtain ⟨v0, v1, v2, v3, v4, v5⟩ := three V3.out.a
  obtain ⟨x0, x1, x2, x3, x4, x5⟩ := three X3.out.a
  go_wp2_with fail
  refine (c3.out _).mono ?_
  rintro e w4 ⟨rfl, hb⟩
  have V4 := hidv (V3.out.step hb)
  have X4 := hidv (X3.out.step hb)
  clear hb V3 X3
  clear v0 v1 v2 v3 v4 v5 x0 x1 x2 x3 x4 x5
  obtain ⟨v0, v1, v2, v3, v4, v5⟩ := three V4.out.a
  obtain ⟨x0, x1, x2, x3, x4, x5⟩ := three X4.out.a
  go_wp2_with fail
  refine (d1.out _).mono ?_
  rintro e w5 ⟨rfl, hb⟩
  have V5 := hidv (V4.out.step hb)
  have X5 := hidv (X4.out.step hb)
  clear hb V4 X4
  clear v0 v1 v2 v3 v4 v5 x0 x1 x2 x3 x4 x5
  obtain ⟨v0, v1, v2, v3, v4, v5⟩ := three V5.out.a
  obtain ⟨x0, x1, x2, x3, x4, x5⟩ := three X5.out.a
  go_wp2_with fail
  refine (d2.out _).mono ?_
  rintro e w6 ⟨rfl, hb⟩
  have V6 := hidv (V5.out.step hb)
  have X6 := hidv (X5.out.step hb)
  clear hb V5 X5
  clear v0 v1 v2 v3 v4 v5 x0 x1 x2 x3 x4 x5
  obtain ⟨v0, v1, v2, v3, v4, v5⟩ := three V6.out.a
  obtain ⟨x0, x1, x2, x3, x4, x5⟩ := three X6.out.a
  go_wp2_with fail
  refine (d3.out _).mono ?_
  rintro e w7 ⟨rfl, hb⟩
  have V7 := hidv (V6.out.step hb)
  have X7 := hidv (X6.out.step hb)
  clear hb V6 X6
  clear v0 v1 v2 v3 v4 v5 x0 x1 x2 x3 x4 x5
  obtain ⟨v0, v1, v2, v3, v4, v5⟩ := three V7.out.a
  obtain ⟨x0, x1, x2, x3, x4, x5⟩ := three X7.out.a
  go_upto_region 8 with fail
  have B0 : Below w.heap.size w w7.drew := V7.out.low.drew
  have hz : w1.heap.size < w7.heap.size := lt_blk X7.out.a
  have hz0 : w.heap.size < w7.heap.size := lt_blk V7.out.a
  clear V7 X7 v3 v4 v5 x3 x4 x5 c1 c2 c3 d1 d2 d3 cg
  go_region_held2 (fun w' => w'.cell? ⟨w.heap.size, 0, none⟩ = some (.int .i64 k) ∧ w'.cell? ⟨w.heap.size, 1, none⟩ = some (.int .i64 n) ∧ w'.cell? ⟨w.heap.size, 2, none⟩ = some (.string t) ∧ w'.cell? ⟨w1.heap.size, 0, none⟩ = some (.int .i64 k) ∧ w'.cell? ⟨w1.heap.size, 1, none⟩ = some (.int .i64 n) ∧ w'.cell? ⟨w1.heap.size, 2, none⟩ = some (.string t)) (go_keep)
    (first
      | (go_at_call 11; refine (c4.out _ (HE.out.step (by assumption)) (fun _ => HF.out.step (by assumption))).mono ?_; rintro e w10 ⟨rfl, hb10⟩; have kw10 : ∀ o, w10.cell? ⟨w.heap.size, o, none⟩ = _ := (fun o => hb10.cell (p := ⟨w.heap.size, o, none⟩) (by first | omega | (simp <;> omega))); have jw10 : ∀ o, w10.cell? ⟨w1.heap.size, o, none⟩ = _ := (fun o => hb10.cell (p := ⟨w1.heap.size, o, none⟩) (by first | omega | (simp <;> omega))); have zw10 : w1.heap.size < w10.heap.size := Nat.lt_of_lt_of_le (by first | omega | (simp <;> omega)) hb10.size; have Bw10 : Below w.heap.size w w10 := key2v (by assumption) hb10; clear hb10)
      | (go_at_call 12; refine (d4.out _).mono ?_; rintro e w20 ⟨rfl, hb20⟩; have kw20 : ∀ o, w20.cell? ⟨w.heap.size, o, none⟩ = _ := (fun o => hb20.cell (p := ⟨w.heap.size, o, none⟩) (by first | omega | (simp <;> omega))); have jw20 : ∀ o, w20.cell? ⟨w1.heap.size, o, none⟩ = _ := (fun o => hb20.cell (p := ⟨w1.heap.size, o, none⟩) (by first | omega | (simp <;> omega))); have zw20 : w1.heap.size < w20.heap.size := Nat.lt_of_lt_of_le (by first | omega | (simp <;> omega)) hb20.size; have Bw20 : Below w.heap.size w w20 := key2v (by assumption) hb20; clear hb20)
      | (go_at_call 13; refine (al.out _ (HE.out.step (by assumption))).mono ?_; rintro e w30 ⟨rfl, hb30⟩; have kw30 : ∀ o, w30.cell? ⟨w.heap.size, o, none⟩ = _ := (fun o => hb30.cell (p := ⟨w.heap.size, o, none⟩) (by first | omega | (simp <;> omega))); have jw30 : ∀ o, w30.cell? ⟨w1.heap.size, o, none⟩ = _ := (fun o => hb30.cell (p := ⟨w1.heap.size, o, none⟩) (by first | omega | (simp <;> omega))); have zw30 : w1.heap.size < w30.heap.size := Nat.lt_of_lt_of_le (by first | omega | (simp <;> omega)) hb30.size; have Bw30 : Below w.heap.size w w30 := key2v (by assumption) hb30; clear hb30))
  all_goals
    go_wp2_with fail
    go_ret
    exact ⟨rfl, Bw30⟩
end Go.Proofs.YtjbkjeabobccaabGreatDoor
