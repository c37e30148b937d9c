import Derived.Test.YtjbkjeabobccaacGreatDoorValWork0
namespace Go.Proofs.YtjbkjeabobccaacGreatDoor
open Go.RowKit Go.Sort Go.Lib
set_option linter.unusedVariables false

set_option maxHeartbeats 4000000 in
set_option maxRecDepth 100000 in
theorem work_Add (k1 n1 : Int) (t1 : ByteArray) (k2 n2 : Int) (t2 : ByteArray) (K1 N1 : Int) (T1 : ByteArray) (K2 N2 : Int) (T2 : ByteArray) (h1 : Cn k1 n1 t1 K1 N1 T1) (h2 : Cn k2 n2 t2 K2 N2 T2) (X E1 Y E2 R1 R2 : Int) (hx : numI K1 N1 T1 = (X, E1)) (hy : numI K2 N2 T2 = (Y, E2))
    (hg : E1 = 0 → E2 = 0 → ∀ w, Calls Tryz.prog 33 #[.int .i64 X, .int .i64 Y] w fun e w' => e = .returned (.tuple #[.int .i64 R1, .int .i64 R2]) ∧ Below w.heap.size w w') (w : World) (hE : Env w) (D : Int × Int × ByteArray)
    (hD : pick3 K1 N1 T1 K2 N2 T2 ((calcD E1 E2 R1 R2).1, (calcD E1 E2 R1 R2).2, ⟨#[]⟩) = D) :
    Calls Tryz.prog 8 #[.string ⟨#[43]⟩, .agg #[.int .i64 k1, .int .i64 n1, .string t1], .agg #[.int .i64 k2, .int .i64 n2, .string t2]] w fun e w' => e = .returned (.agg #[.int .i64 D.1, .int .i64 D.2.1, .string D.2.2]) ∧ Below w.heap.size w w' := by
  have ck := hidv (calculated_Add K1 N1 T1 K2 N2 T2 X E1 Y E2 R1 R2 (cn_self h1) (cn_self h2) hx hy hg)
  have HE := hidv hE
  generalize (calcD E1 E2 R1 R2).1 = D1 at ck hD
  generalize (calcD E1 E2 R1 R2).2 = D2 at ck hD
  obtain ⟨DD, eDD⟩ : ∃ DD : Int × Int × ByteArray, DD = (D1, D2, ⟨#[]⟩) := ⟨_, rfl⟩
  rw [← eDD] at hD
  have HD := hidv hD
  have HDD := hidv eDD
  clear hD eDD hx hy hg hE
  have cc := hidv counted_cn
  have H1 := hidv h1
  have H2 := hidv h2
  go_enter Tryz.func8, Tryz.ntmps8
  go_upto_region 1 with fail
  go_cut [] from 11 (fun wx => Hid (TriB w wx 24 (.int .i64 K1) (.int .i64 N1) (.string T1) (.int .i64 K2) (.int .i64 N2) (.string T2) (.int .i64 0) (.int .i64 0) (.string ⟨#[]⟩)))
  case first =>
    have HX := hidv (triB_new w 24 (.int .i64 k1) (.int .i64 n1) (.string t1) (.int .i64 k2) (.int .i64 n2) (.string t2) (.int .i64 0) (.int .i64 0) (.string ⟨#[]⟩) ((((w.alloc (.cells #[.int .i64 k1, .int .i64 n1, .string t1] 24)).alloc (.cells #[.int .i64 k2, .int .i64 n2, .string t2] 24)).alloc (.cells #[.int .i64 0, .int .i64 0, .string ⟨#[]⟩] 24)).drew) rfl (by go_grown))
    obtain ⟨⟨x0, x1, x2⟩, ⟨x3, x4, x5⟩, ⟨x6, x7, x8⟩, x9, xx, xy⟩ := HX.out.cells
    obtain ⟨⟨xu0, xu1, xu2⟩, xu3, xu4, xu5⟩ := HX.out.free
    go_region_with (first | (go_at_call 11; refine (cc.out _ _ _ _ _ _ (by exact H1.out) _).mono ?_; rintro e w1 ⟨rfl, hb1⟩; have HT1 := hidv (HX.out.step hb1); obtain ⟨⟨c0, c1, c2⟩, ⟨c3, c4, c5⟩, ⟨c6, c7, c8⟩, c9, cx, cy⟩ := HT1.out.cells; obtain ⟨⟨cu0, cu1, cu2⟩, cu3, cu4, cu5⟩ := HT1.out.free; clear hb1) | (go_at_call 11; refine (cc.out _ _ _ _ _ _ (by exact H2.out) _).mono ?_; rintro e w2 ⟨rfl, hb2⟩; have HT2 := hidv (HT1.out.step hb2); obtain ⟨⟨d0, d1, d2⟩, ⟨d3, d4, d5⟩, ⟨d6, d7, d8⟩, d9, dx, dy⟩ := HT2.out.cells; obtain ⟨⟨du0, du1, du2⟩, du3, du4, du5⟩ := HT2.out.free; clear hb2))
    all_goals
      go_wp2_with fail
      go_meet
      exact hidv ((HT2.out.seta _ _ _).setb _ _ _)
  case rest =>
  have HC := hcut
  clear hcut cc
  obtain ⟨⟨p0, p1, p2⟩, ⟨p3, p4, p5⟩, ⟨p6, p7, p8⟩, p9, px, py⟩ := HC.out.cells
  obtain ⟨s0, s1, s2⟩ := HC.out.sets
  by_cases g1 : K1 = 4
  · subst g1
    have VD : Hid (pick3 4 N1 T1 K2 N2 T2 DD = (4, N1, T1)) := by show _ = _; simp [pick3]
    go_wp2_with fail
    refine bodyPost_ret (v := .agg #[.int .i64 4, .int .i64 N1, .string T1]) (by simp [results, Tryz.results8, go_sem, *]) rfl ?_
    exact ⟨by rw [← HD.out]; simp [VD.out], HC.out.out _ _ _⟩
  have q1 : (K1 == 4) = false := by simpa using g1
  by_cases g2 : K2 = 4
  · subst g2
    have VD : Hid (pick3 K1 N1 T1 4 N2 T2 DD = (4, N2, T2)) := by show _ = _; simp [pick3, g1]
    clear g1
    go_wp2_with fail
    refine bodyPost_ret (v := .agg #[.int .i64 4, .int .i64 N2, .string T2]) (by simp [results, Tryz.results8, go_sem, *]) rfl ?_
    exact ⟨by rw [← HD.out]; simp [VD.out], HC.out.out _ _ _⟩
  have q2 : (K2 == 4) = false := by simpa using g2
  have VD : Hid (pick3 K1 N1 T1 K2 N2 T2 DD = DD) := by show _ = _; simp [pick3, g1, g2]
  clear g1 g2
  have cm := hidv calculations_any
  go_wp2_with fail
  refine (cm.out _).mono ?_
  rintro e wm ⟨rfl, hwm⟩
  have hm : wm.heap[wc.heap.size]? = some (.map calcMap 5) := by rw [hwm]; show (wc.heap.push _)[_]? = _; rw [Array.getElem?_push_size]
  have HM := hidv (HC.out.step (w1 := wm) (by rw [hwm]; exact (Below.refl _ _).alloc (Nat.le_refl _) _))
  have hl := run_lookup_now (P := Tryz.prog) Tryz.underlying45 Tryz.underlying9 wm wc.heap.size calcMap 5 hm ⟨#[43]⟩ 0 (.func (.func 33) #[] #[]) rfl
  clear hm hwm p0 p1 p2 p3 p4 p5 p6 p7 p8 p9 px py s0 s1 s2
  obtain ⟨⟨m0, m1, m2⟩, ⟨m3, m4, m5⟩, ⟨m6, m7, m8⟩, m9, mx, my⟩ := HM.out.cells
  go_wp2_with fail
  refine (ck.out _ (HE.out.step HM.out.low)).mono ?_
  rintro e w5 ⟨rfl, hb5⟩
  have H5 := hidv (HM.out.step hb5)
  clear hb5 hl m0 m1 m2 m3 m4 m5 m6 m7 m8 m9 mx my
  obtain ⟨⟨n0, n1, n2⟩, ⟨n3, n4, n5⟩, ⟨n6, n7, n8⟩, n9, nx, ny⟩ := H5.out.cells
  obtain ⟨s0, s1, s2⟩ := H5.out.sets
  go_wp2_with fail
  refine bodyPost_ret (v := .agg #[.int .i64 D1, .int .i64 D2, .string ⟨#[]⟩]) (by simp [results, Tryz.results8, go_sem, *]) rfl ?_
  exact ⟨by rw [← HD.out, VD.out, HDD.out], H5.out.out _ _ _⟩
end Go.Proofs.YtjbkjeabobccaacGreatDoor
