import Derived.Test.YtjbkjeabobccaacGreatDoorValueLaws0
namespace Go.Proofs.YtjbkjeabobccaacGreatDoor
open Go.RowKit Go.Sort Go.Lib
set_option linter.unusedVariables false

theorem kept_tri {w W : World} {T : TypeId} {a1 a2 a3 b1 b2 b3 p q r : Value} (h : TriB w W T a1 a2 a3 b1 b2 b3 p q r) :
    Kept [(w.heap.size + 2, .cells #[p, q, r] T), (w.heap.size + 1, .cells #[b1, b2, b3] T), (w.heap.size, .cells #[a1, a2, a3] T)] w W := by
  refine ⟨fun x hx => ?_, h.low⟩
  simp only [List.mem_cons, List.not_mem_nil, or_false] at hx
  rcases hx with e | e | e
  · subst e; exact h.c
  · subst e; exact h.b
  · subst e; exact h.a

set_option maxHeartbeats 32000000 in
set_option maxRecDepth 100000 in
theorem valueLaws_less (k1 n1 : Int) (t1 : ByteArray) (k2 n2 : Int) (t2 : ByteArray) (k3 n3 : Int) (t3 : ByteArray) (K1 N1 : Int) (T1 : ByteArray) (K2 N2 : Int) (T2 : ByteArray) (K3 N3 : Int) (T3 : ByteArray)
    (c1 : Ci k1 n1 t1 K1 N1 T1) (c2 : Ci k2 n2 t2 K2 N2 T2) (c3 : Ci k3 n3 t3 K3 N3 T3) (hR : ordI K1 N1 T1 K2 N2 T2 = -1) (w : World) (hE : Env w) :
    Calls Tryz.prog 3 #[.agg #[.int .i64 k1, .int .i64 n1, .string t1], .agg #[.int .i64 k2, .int .i64 n2, .string t2], .agg #[.int .i64 k3, .int .i64 n3, .string t3]] w fun e w' => e = .returned (.bool true) ∧ Below w.heap.size w w' := by
  have HE := hidv hE
  have HC := hidv (And.intro c1 (And.intro c2 c3))
  have cg := hidv given3_any
  have al := hidv alive2_any
  have o12 := hidv (order_cn k1 n1 t1 k2 n2 t2 K1 N1 T1 K2 N2 T2 c1.cn c2.cn)
  have o21 := hidv (order_cn k2 n2 t2 k1 n1 t1 K2 N2 T2 K1 N1 T1 c2.cn c1.cn)
  have o11 := hidv (order_cn k1 n1 t1 k1 n1 t1 K1 N1 T1 K1 N1 T1 c1.cn c1.cn)
  have o23 := hidv (order_cn k2 n2 t2 k3 n3 t3 K2 N2 T2 K3 N3 T3 c2.cn c3.cn)
  have o13 := hidv (order_cn k1 n1 t1 k3 n3 t3 K1 N1 T1 K3 N3 T3 c1.cn c3.cn)
  have as1 := hidv (as_cn k1 n1 t1 K1 N1 T1 c1.cn)
  have as2 := hidv (as_cn k2 n2 t2 K2 N2 T2 c2.cn)
  have as3 := hidv (as_cn k3 n3 t3 K3 N3 T3 c3.cn)
  rw [ord_self] at o11
  rw [ord_anti K2 N2 T2 K1 N1 T1] at o21
  rw [hR] at o12 o21
  have HO := hidv hR
  clear hR c1 c2 c3 hE
  have H0 := hidv (kept_tri (triB_new w 23 (.int .i64 k1) (.int .i64 n1) (.string t1) (.int .i64 k2) (.int .i64 n2) (.string t2) (.int .i64 k3) (.int .i64 n3) (.string t3) (((w.alloc (.cells #[.int .i64 k1, .int .i64 n1, .string t1] 23)).alloc (.cells #[.int .i64 k2, .int .i64 n2, .string t2] 23)).alloc (.cells #[.int .i64 k3, .int .i64 n3, .string t3] 23)) rfl (by go_grown)))
  rw [show -(-1 : Int) = 1 by rfl] at o21
  go_enter Tryz.func3, Tryz.ntmps3
  obtain ⟨a0, a1, a2, af0, af1, af2⟩ := three (b := w.heap.size) (H0.out.has (w.heap.size, .cells #[.int .i64 k1, .int .i64 n1, .string t1] 23) (List.Mem.tail _ (List.Mem.tail _ (List.Mem.head _))))
  clear af0 af1 af2
  go_wp2_with fail
  refine (cg.out _ _ _ _).mono ?_
  rintro e w1 ⟨rfl, hbx⟩
  have H1 := hidv ((H0.out.step hbx).add (.cells #[.int .i64 k1, .int .i64 n1, .string t1] 24))
  clear hbx H0
  clear a0 a1 a2
  obtain ⟨b0, b1, b2, bf0, bf1, bf2⟩ := three (b := w.heap.size + 1) (H1.out.has (w.heap.size + 1, .cells #[.int .i64 k2, .int .i64 n2, .string t2] 23) (List.Mem.tail _ (List.Mem.tail _ (List.Mem.head _))))
  clear bf0 bf1 bf2
  obtain ⟨x0, x1, x2, xf0, xf1, xf2⟩ := three (b := w1.heap.size) (H1.out.has (w1.heap.size, .cells #[.int .i64 k1, .int .i64 n1, .string t1] 24) (List.Mem.head _))
  clear xf0 xf1 xf2
  go_wp2_with fail
  refine (cg.out _ _ _ _).mono ?_
  rintro e w2 ⟨rfl, hbx⟩
  have H2 := hidv ((H1.out.step hbx).add (.cells #[.int .i64 k2, .int .i64 n2, .string t2] 24))
  clear hbx H1
  clear b0 b1 b2 x0 x1 x2
  obtain ⟨c0, c1, c2, cf0, cf1, cf2⟩ := three (b := w.heap.size + 2) (H2.out.has (w.heap.size + 2, .cells #[.int .i64 k3, .int .i64 n3, .string t3] 23) (List.Mem.tail _ (List.Mem.tail _ (List.Mem.head _))))
  clear cf0 cf1 cf2
  obtain ⟨x0, x1, x2, xf0, xf1, xf2⟩ := three (b := w1.heap.size) (H2.out.has (w1.heap.size, .cells #[.int .i64 k1, .int .i64 n1, .string t1] 24) (List.Mem.tail _ (List.Mem.head _)))
  clear xf0 xf1 xf2
  obtain ⟨y0, y1, y2, yf0, yf1, yf2⟩ := three (b := w2.heap.size) (H2.out.has (w2.heap.size, .cells #[.int .i64 k2, .int .i64 n2, .string t2] 24) (List.Mem.head _))
  clear yf0 yf1 yf2
  go_wp2_with fail
  refine (cg.out _ _ _ _).mono ?_
  rintro e w3 ⟨rfl, hbx⟩
  have H3 := hidv ((H2.out.step hbx).add (.cells #[.int .i64 k3, .int .i64 n3, .string t3] 24))
  clear hbx H2
  clear c0 c1 c2 x0 x1 x2 y0 y1 y2
  obtain ⟨x0, x1, x2, xf0, xf1, xf2⟩ := three (b := w1.heap.size) (H3.out.has (w1.heap.size, .cells #[.int .i64 k1, .int .i64 n1, .string t1] 24) (List.Mem.tail _ (List.Mem.tail _ (List.Mem.head _))))
  clear xf0 xf1 xf2
  obtain ⟨y0, y1, y2, yf0, yf1, yf2⟩ := three (b := w2.heap.size) (H3.out.has (w2.heap.size, .cells #[.int .i64 k2, .int .i64 n2, .string t2] 24) (List.Mem.tail _ (List.Mem.head _)))
  clear yf0 yf1 yf2
  go_wp2_with fail
  refine (o12.out _).mono ?_
  rintro e w4 ⟨rfl, hbx⟩
  have H4 := hidv (H3.out.step hbx)
  clear hbx H3
  clear x0 x1 x2 y0 y1 y2
  obtain ⟨x0, x1, x2, xf0, xf1, xf2⟩ := three (b := w1.heap.size) (H4.out.has (w1.heap.size, .cells #[.int .i64 k1, .int .i64 n1, .string t1] 24) (List.Mem.tail _ (List.Mem.tail _ (List.Mem.head _))))
  clear xf0 xf1 xf2
  obtain ⟨y0, y1, y2, yf0, yf1, yf2⟩ := three (b := w2.heap.size) (H4.out.has (w2.heap.size, .cells #[.int .i64 k2, .int .i64 n2, .string t2] 24) (List.Mem.tail _ (List.Mem.head _)))
  clear yf0 yf1 yf2
  go_wp2_with fail
  refine (o21.out _).mono ?_
  rintro e w5 ⟨rfl, hbx⟩
  have H5 := hidv (H4.out.step hbx)
  clear hbx H4
  clear x0 x1 x2 y0 y1 y2
  obtain ⟨x0, x1, x2, xf0, xf1, xf2⟩ := three (b := w1.heap.size) (H5.out.has (w1.heap.size, .cells #[.int .i64 k1, .int .i64 n1, .string t1] 24) (List.Mem.tail _ (List.Mem.tail _ (List.Mem.head _))))
  clear xf0 xf1 xf2
  obtain ⟨y0, y1, y2, yf0, yf1, yf2⟩ := three (b := w2.heap.size) (H5.out.has (w2.heap.size, .cells #[.int .i64 k2, .int .i64 n2, .string t2] 24) (List.Mem.tail _ (List.Mem.head _)))
  clear yf0 yf1 yf2
  go_wp2_with fail
  refine (o11.out _).mono ?_
  rintro e w6 ⟨rfl, hbx⟩
  have H6 := hidv (H5.out.step hbx)
  clear hbx H5
  clear x0 x1 x2 y0 y1 y2
  obtain ⟨a0, a1, a2, af0, af1, af2⟩ := three (b := w.heap.size) (H6.out.has (w.heap.size, .cells #[.int .i64 k1, .int .i64 n1, .string t1] 23) (List.Mem.tail _ (List.Mem.tail _ (List.Mem.tail _ (List.Mem.tail _ (List.Mem.tail _ (List.Mem.head _)))))))
  clear af0 af1 af2
  obtain ⟨b0, b1, b2, bf0, bf1, bf2⟩ := three (b := w.heap.size + 1) (H6.out.has (w.heap.size + 1, .cells #[.int .i64 k2, .int .i64 n2, .string t2] 23) (List.Mem.tail _ (List.Mem.tail _ (List.Mem.tail _ (List.Mem.tail _ (List.Mem.head _))))))
  clear bf0 bf1 bf2
  obtain ⟨c0, c1, c2, cf0, cf1, cf2⟩ := three (b := w.heap.size + 2) (H6.out.has (w.heap.size + 2, .cells #[.int .i64 k3, .int .i64 n3, .string t3] 23) (List.Mem.tail _ (List.Mem.tail _ (List.Mem.tail _ (List.Mem.head _)))))
  clear cf0 cf1 cf2
  go_wp2_with fail
  refine (as1.out _).mono ?_
  rintro e w7 ⟨rfl, hbx⟩
  have H7 := hidv ((H6.out.step hbx).add (.cells #[.int .i64 K1, .int .i64 N1, .string T1] 23))
  clear hbx H6
  clear a0 a1 a2 b0 b1 b2 c0 c1 c2
  obtain ⟨b0, b1, b2, bf0, bf1, bf2⟩ := three (b := w.heap.size + 1) (H7.out.has (w.heap.size + 1, .cells #[.int .i64 k2, .int .i64 n2, .string t2] 23) (List.Mem.tail _ (List.Mem.tail _ (List.Mem.tail _ (List.Mem.tail _ (List.Mem.tail _ (List.Mem.head _)))))))
  clear bf0 bf1 bf2
  obtain ⟨c0, c1, c2, cf0, cf1, cf2⟩ := three (b := w.heap.size + 2) (H7.out.has (w.heap.size + 2, .cells #[.int .i64 k3, .int .i64 n3, .string t3] 23) (List.Mem.tail _ (List.Mem.tail _ (List.Mem.tail _ (List.Mem.tail _ (List.Mem.head _))))))
  clear cf0 cf1 cf2
  obtain ⟨p0, p1, p2, pf0, pf1, pf2⟩ := three (b := w7.heap.size) (H7.out.has (w7.heap.size, .cells #[.int .i64 K1, .int .i64 N1, .string T1] 23) (List.Mem.head _))
  clear pf0 pf1 pf2
  go_wp2_with fail
  refine (as2.out _).mono ?_
  rintro e w8 ⟨rfl, hbx⟩
  have H8 := hidv ((H7.out.step hbx).add (.cells #[.int .i64 K2, .int .i64 N2, .string T2] 23))
  clear hbx H7
  clear b0 b1 b2 c0 c1 c2 p0 p1 p2
  obtain ⟨c0, c1, c2, cf0, cf1, cf2⟩ := three (b := w.heap.size + 2) (H8.out.has (w.heap.size + 2, .cells #[.int .i64 k3, .int .i64 n3, .string t3] 23) (List.Mem.tail _ (List.Mem.tail _ (List.Mem.tail _ (List.Mem.tail _ (List.Mem.tail _ (List.Mem.head _)))))))
  clear cf0 cf1 cf2
  obtain ⟨p0, p1, p2, pf0, pf1, pf2⟩ := three (b := w7.heap.size) (H8.out.has (w7.heap.size, .cells #[.int .i64 K1, .int .i64 N1, .string T1] 23) (List.Mem.tail _ (List.Mem.head _)))
  clear pf0 pf1 pf2
  obtain ⟨q0, q1, q2, qf0, qf1, qf2⟩ := three (b := w8.heap.size) (H8.out.has (w8.heap.size, .cells #[.int .i64 K2, .int .i64 N2, .string T2] 23) (List.Mem.head _))
  clear qf0 qf1 qf2
  go_wp2_with fail
  refine (as3.out _).mono ?_
  rintro e w9 ⟨rfl, hbx⟩
  have H9 := hidv ((H8.out.step hbx).add (.cells #[.int .i64 K3, .int .i64 N3, .string T3] 23))
  clear hbx H8
  clear c0 c1 c2 p0 p1 p2 q0 q1 q2
  obtain ⟨p0, p1, p2, pf0, pf1, pf2⟩ := three (b := w7.heap.size) (H9.out.has (w7.heap.size, .cells #[.int .i64 K1, .int .i64 N1, .string T1] 23) (List.Mem.tail _ (List.Mem.tail _ (List.Mem.head _))))
  clear pf0 pf1 pf2
  obtain ⟨q0, q1, q2, qf0, qf1, qf2⟩ := three (b := w8.heap.size) (H9.out.has (w8.heap.size, .cells #[.int .i64 K2, .int .i64 N2, .string T2] 23) (List.Mem.tail _ (List.Mem.head _)))
  clear qf0 qf1 qf2
  obtain ⟨r0, r1, r2, rf0, rf1, rf2⟩ := three (b := w9.heap.size) (H9.out.has (w9.heap.size, .cells #[.int .i64 K3, .int .i64 N3, .string T3] 23) (List.Mem.head _))
  clear rf0 rf1 rf2
  by_cases g1 : K1 = 4
  · subst g1
    go_wp2_with fail
    refine (al.out _ (HE.out.step H9.out.low)).mono ?_
    rintro e w101 ⟨rfl, hbx⟩
    have H101 := hidv (H9.out.step hbx)
    clear hbx H9
    go_wp2_with fail
    go_ret
    exact ⟨rfl, H101.out.low⟩
  by_cases g2 : K2 = 4
  · subst g2
    have gq1 : (K1 == 4) = false := by simpa using g1
    go_wp2_with fail
    refine (al.out _ (HE.out.step H9.out.low)).mono ?_
    rintro e w101 ⟨rfl, hbx⟩
    have H101 := hidv (H9.out.step hbx)
    clear hbx H9
    go_wp2_with fail
    go_ret
    exact ⟨rfl, H101.out.low⟩
  have gq1 : (K1 == 4) = false := by simpa using g1
  have gq2 : (K2 == 4) = false := by simpa using g2
  obtain ⟨dA, eA, fA, hA, wA1, wA2⟩ := work_twoAdd HC.out.1 HC.out.2.1 g1 g2
  obtain ⟨dM, eM, fM, hM, wM1, wM2⟩ := work_twoMul HC.out.1 HC.out.2.1 g1 g2
  have WA1 := hidv wA1
  have WA2 := hidv wA2
  have WM1 := hidv wM1
  have WM2 := hidv wM2
  have m1 := hidv (fun w => work_cmp1 k1 n1 t1 k2 n2 t2 K1 N1 T1 K2 N2 T2 HC.out.1.cn HC.out.2.1.cn w (3, 0, ⟨#[]⟩) (by simp [pick3, g1, g2, HO.out, tst]))
  have m2 := hidv (fun w => work_cmp2 k1 n1 t1 k2 n2 t2 K1 N1 T1 K2 N2 T2 HC.out.1.cn HC.out.2.1.cn w (3, 1, ⟨#[]⟩) (by simp [pick3, g1, g2, HO.out, tst]))
  have m3 := hidv (fun w => work_cmp3 k1 n1 t1 k2 n2 t2 K1 N1 T1 K2 N2 T2 HC.out.1.cn HC.out.2.1.cn w (3, 1, ⟨#[]⟩) (by simp [pick3, g1, g2, HO.out, tst]))
  have m4 := hidv (fun w => work_cmp4 k1 n1 t1 k2 n2 t2 K1 N1 T1 K2 N2 T2 HC.out.1.cn HC.out.2.1.cn w (3, 1, ⟨#[]⟩) (by simp [pick3, g1, g2, HO.out, tst]))
  have m5 := hidv (fun w => work_cmp5 k1 n1 t1 k2 n2 t2 K1 N1 T1 K2 N2 T2 HC.out.1.cn HC.out.2.1.cn w (3, 0, ⟨#[]⟩) (by simp [pick3, g1, g2, HO.out, tst]))
  have m6 := hidv (fun w => work_cmp6 k1 n1 t1 k2 n2 t2 K1 N1 T1 K2 N2 T2 HC.out.1.cn HC.out.2.1.cn w (3, 0, ⟨#[]⟩) (by simp [pick3, g1, g2, HO.out, tst]))
  have cof := hidv ofb_any
  have wj0 := fun w hE => work_join k1 n1 t1 k2 n2 t2 K1 N1 T1 K2 N2 T2 HC.out.1.cn HC.out.2.1.cn (ci_self HC.out.1) (ci_self HC.out.2.1) ⟨txt_size HC.out.1, txt_size HC.out.2.1⟩ w hE _ rfl
  have hpk : ∀ d, pick3 K1 N1 T1 K2 N2 T2 d = d := fun d => by simp [pick3, g1, g2]
  simp only [hpk] at wj0
  have tx1 := hidv (text_cn k1 n1 t1 K1 N1 T1 HC.out.1)
  have tx2 := hidv (text_cn k2 n2 t2 K2 N2 T2 HC.out.2.1)
  have hz1 := txt_size HC.out.1
  have hz2 := txt_size HC.out.2.1
  generalize (txtI K1 N1 T1).1 = S1 at wj0 tx1 hz1
  generalize (txtI K2 N2 T2).1 = S2 at wj0 tx2 hz2
  generalize (txtI K1 N1 T1).2 = U1 at tx1
  generalize (txtI K2 N2 T2).2 = U2 at tx2
  have wj := hidv wj0
  have HZ := hidv (And.intro hz1 hz2)
  have HA := hidv hA
  have HM := hidv hM
  clear wA1 wA2 wM1 wM2 wj0 hpk hz1 hz2 hA hM g1 g2 as1 as2 as3 o11 o12 o21
  go_wp2_with fail
  go_loopw [65] (fun i wr => ∃ j : Nat, j ≤ 2 ∧ i = .int .i64 j ∧ Hid (Kept ((w9.heap.size + 1, .cells #[.string ⟨#[43]⟩, .string ⟨#[42]⟩] 9) :: [(w9.heap.size, .cells #[.int .i64 K3, .int .i64 N3, .string T3] 23), (w8.heap.size, .cells #[.int .i64 K2, .int .i64 N2, .string T2] 23), (w7.heap.size, .cells #[.int .i64 K1, .int .i64 N1, .string T1] 23), (w3.heap.size, .cells #[.int .i64 k3, .int .i64 n3, .string t3] 24), (w2.heap.size, .cells #[.int .i64 k2, .int .i64 n2, .string t2] 24), (w1.heap.size, .cells #[.int .i64 k1, .int .i64 n1, .string t1] 24), (w.heap.size + 2, .cells #[.int .i64 k3, .int .i64 n3, .string t3] 23), (w.heap.size + 1, .cells #[.int .i64 k2, .int .i64 n2, .string t2] 23), (w.heap.size, .cells #[.int .i64 k1, .int .i64 n1, .string t1] 23)]) w wr)) (fun i _ => 2 - (RowKit.intOf i).toNat)
  case atStart => exact ⟨0, by omega, rfl, by have h := H9.out.add (.cells #[.string ⟨#[43]⟩, .string ⟨#[42]⟩] 9); simp only [World.size_alloc] at h; exact h⟩
  case round =>
    as_aux_lemma =>
    clear H9 p0 p1 p2 q0 q1 q2 r0 r1 r2
    obtain ⟨j, hj, rfl, HK⟩ := hrel
    obtain ⟨l0, l1⟩ := slc (b := w9.heap.size + 1) (HK.out.has (w9.heap.size + 1, .cells #[.string ⟨#[43]⟩, .string ⟨#[42]⟩] 9) (List.Mem.head _))
    have hc : j = 0 ∨ j = 1 ∨ j = 2 := by omega
    rcases hc with h | h | h
    · subst h
      by_cases hd : dA = 1
      · obtain h2 := HA.out hd
        subst hd
        subst h2
        obtain ⟨x0, x1, x2, xf0, xf1, xf2⟩ := three (b := w1.heap.size) (HK.out.has (w1.heap.size, .cells #[.int .i64 k1, .int .i64 n1, .string t1] 24) (List.Mem.tail _ (List.Mem.tail _ (List.Mem.tail _ (List.Mem.tail _ (List.Mem.tail _ (List.Mem.tail _ (List.Mem.head _))))))))
        clear xf0 xf1 xf2
        obtain ⟨y0, y1, y2, yf0, yf1, yf2⟩ := three (b := w2.heap.size) (HK.out.has (w2.heap.size, .cells #[.int .i64 k2, .int .i64 n2, .string t2] 24) (List.Mem.tail _ (List.Mem.tail _ (List.Mem.tail _ (List.Mem.tail _ (List.Mem.tail _ (List.Mem.head _)))))))
        clear yf0 yf1 yf2
        go_wp2_with fail
        refine (WA1.out _ (HE.out.step HK.out.low)).mono ?_
        rintro e w11 ⟨rfl, hbx⟩
        have H11 := hidv ((HK.out.step hbx).add (.cells #[.int .i64 1, .int .i64 eA, .string ⟨#[]⟩] 24))
        clear hbx HK
        clear x0 x1 x2 y0 y1 y2
        obtain ⟨x0, x1, x2, xf0, xf1, xf2⟩ := three (b := w1.heap.size) (H11.out.has (w1.heap.size, .cells #[.int .i64 k1, .int .i64 n1, .string t1] 24) (List.Mem.tail _ (List.Mem.tail _ (List.Mem.tail _ (List.Mem.tail _ (List.Mem.tail _ (List.Mem.tail _ (List.Mem.tail _ (List.Mem.head _)))))))))
        clear xf0 xf1 xf2
        obtain ⟨y0, y1, y2, yf0, yf1, yf2⟩ := three (b := w2.heap.size) (H11.out.has (w2.heap.size, .cells #[.int .i64 k2, .int .i64 n2, .string t2] 24) (List.Mem.tail _ (List.Mem.tail _ (List.Mem.tail _ (List.Mem.tail _ (List.Mem.tail _ (List.Mem.tail _ (List.Mem.head _))))))))
        clear yf0 yf1 yf2
        obtain ⟨s0, s1, s2, sf0, sf1, sf2⟩ := three (b := w11.heap.size) (H11.out.has (w11.heap.size, .cells #[.int .i64 1, .int .i64 eA, .string ⟨#[]⟩] 24) (List.Mem.head _))
        clear sf0 sf1 sf2
        go_wp2_with fail
        refine (WA2.out _ (HE.out.step H11.out.low)).mono ?_
        rintro e w12 ⟨rfl, hbx⟩
        have H12 := hidv ((H11.out.step hbx).add (.cells #[.int .i64 1, .int .i64 eA, .string ⟨#[]⟩] 24))
        clear hbx H11
        clear x0 x1 x2 y0 y1 y2 s0 s1 s2
        obtain ⟨s0, s1, s2, sf0, sf1, sf2⟩ := three (b := w11.heap.size) (H12.out.has (w11.heap.size, .cells #[.int .i64 1, .int .i64 eA, .string ⟨#[]⟩] 24) (List.Mem.tail _ (List.Mem.head _)))
        clear sf0 sf1 sf2
        obtain ⟨u0, u1, u2, uf0, uf1, uf2⟩ := three (b := w12.heap.size) (H12.out.has (w12.heap.size, .cells #[.int .i64 1, .int .i64 eA, .string ⟨#[]⟩] 24) (List.Mem.head _))
        clear uf0 uf1 uf2
        go_wp2_with fail
        go_roundw
        case rel => exact ⟨1, by omega, by go_num, ⟨fun p hp => H12.out.has p (List.Mem.tail _ (List.Mem.tail _ hp)), H12.out.low⟩⟩
        case measure => simp [RowKit.intOf]
      · have hd' : (dA == 1) = false := by simpa using hd
        obtain ⟨x0, x1, x2, xf0, xf1, xf2⟩ := three (b := w1.heap.size) (HK.out.has (w1.heap.size, .cells #[.int .i64 k1, .int .i64 n1, .string t1] 24) (List.Mem.tail _ (List.Mem.tail _ (List.Mem.tail _ (List.Mem.tail _ (List.Mem.tail _ (List.Mem.tail _ (List.Mem.head _))))))))
        clear xf0 xf1 xf2
        obtain ⟨y0, y1, y2, yf0, yf1, yf2⟩ := three (b := w2.heap.size) (HK.out.has (w2.heap.size, .cells #[.int .i64 k2, .int .i64 n2, .string t2] 24) (List.Mem.tail _ (List.Mem.tail _ (List.Mem.tail _ (List.Mem.tail _ (List.Mem.tail _ (List.Mem.head _)))))))
        clear yf0 yf1 yf2
        go_wp2_with fail
        refine (WA1.out _ (HE.out.step HK.out.low)).mono ?_
        rintro e w11 ⟨rfl, hbx⟩
        have H11 := hidv ((HK.out.step hbx).add (.cells #[.int .i64 dA, .int .i64 eA, .string ⟨#[]⟩] 24))
        clear hbx HK
        clear x0 x1 x2 y0 y1 y2
        obtain ⟨x0, x1, x2, xf0, xf1, xf2⟩ := three (b := w1.heap.size) (H11.out.has (w1.heap.size, .cells #[.int .i64 k1, .int .i64 n1, .string t1] 24) (List.Mem.tail _ (List.Mem.tail _ (List.Mem.tail _ (List.Mem.tail _ (List.Mem.tail _ (List.Mem.tail _ (List.Mem.tail _ (List.Mem.head _)))))))))
        clear xf0 xf1 xf2
        obtain ⟨y0, y1, y2, yf0, yf1, yf2⟩ := three (b := w2.heap.size) (H11.out.has (w2.heap.size, .cells #[.int .i64 k2, .int .i64 n2, .string t2] 24) (List.Mem.tail _ (List.Mem.tail _ (List.Mem.tail _ (List.Mem.tail _ (List.Mem.tail _ (List.Mem.tail _ (List.Mem.head _))))))))
        clear yf0 yf1 yf2
        obtain ⟨s0, s1, s2, sf0, sf1, sf2⟩ := three (b := w11.heap.size) (H11.out.has (w11.heap.size, .cells #[.int .i64 dA, .int .i64 eA, .string ⟨#[]⟩] 24) (List.Mem.head _))
        clear sf0 sf1 sf2
        go_wp2_with fail
        refine (WA2.out _ (HE.out.step H11.out.low)).mono ?_
        rintro e w12 ⟨rfl, hbx⟩
        have H12 := hidv ((H11.out.step hbx).add (.cells #[.int .i64 dA, .int .i64 fA, .string ⟨#[]⟩] 24))
        clear hbx H11
        clear x0 x1 x2 y0 y1 y2 s0 s1 s2
        obtain ⟨s0, s1, s2, sf0, sf1, sf2⟩ := three (b := w11.heap.size) (H12.out.has (w11.heap.size, .cells #[.int .i64 dA, .int .i64 eA, .string ⟨#[]⟩] 24) (List.Mem.tail _ (List.Mem.head _)))
        clear sf0 sf1 sf2
        obtain ⟨u0, u1, u2, uf0, uf1, uf2⟩ := three (b := w12.heap.size) (H12.out.has (w12.heap.size, .cells #[.int .i64 dA, .int .i64 fA, .string ⟨#[]⟩] 24) (List.Mem.head _))
        clear uf0 uf1 uf2
        go_wp2_with fail
        go_roundw
        case rel => exact ⟨1, by omega, by go_num, ⟨fun p hp => H12.out.has p (List.Mem.tail _ (List.Mem.tail _ hp)), H12.out.low⟩⟩
        case measure => simp [RowKit.intOf]
    · subst h
      by_cases hd : dM = 1
      · obtain h2 := HM.out hd
        subst hd
        subst h2
        obtain ⟨x0, x1, x2, xf0, xf1, xf2⟩ := three (b := w1.heap.size) (HK.out.has (w1.heap.size, .cells #[.int .i64 k1, .int .i64 n1, .string t1] 24) (List.Mem.tail _ (List.Mem.tail _ (List.Mem.tail _ (List.Mem.tail _ (List.Mem.tail _ (List.Mem.tail _ (List.Mem.head _))))))))
        clear xf0 xf1 xf2
        obtain ⟨y0, y1, y2, yf0, yf1, yf2⟩ := three (b := w2.heap.size) (HK.out.has (w2.heap.size, .cells #[.int .i64 k2, .int .i64 n2, .string t2] 24) (List.Mem.tail _ (List.Mem.tail _ (List.Mem.tail _ (List.Mem.tail _ (List.Mem.tail _ (List.Mem.head _)))))))
        clear yf0 yf1 yf2
        go_wp2_with fail
        refine (WM1.out _ (HE.out.step HK.out.low)).mono ?_
        rintro e w11 ⟨rfl, hbx⟩
        have H11 := hidv ((HK.out.step hbx).add (.cells #[.int .i64 1, .int .i64 eM, .string ⟨#[]⟩] 24))
        clear hbx HK
        clear x0 x1 x2 y0 y1 y2
        obtain ⟨x0, x1, x2, xf0, xf1, xf2⟩ := three (b := w1.heap.size) (H11.out.has (w1.heap.size, .cells #[.int .i64 k1, .int .i64 n1, .string t1] 24) (List.Mem.tail _ (List.Mem.tail _ (List.Mem.tail _ (List.Mem.tail _ (List.Mem.tail _ (List.Mem.tail _ (List.Mem.tail _ (List.Mem.head _)))))))))
        clear xf0 xf1 xf2
        obtain ⟨y0, y1, y2, yf0, yf1, yf2⟩ := three (b := w2.heap.size) (H11.out.has (w2.heap.size, .cells #[.int .i64 k2, .int .i64 n2, .string t2] 24) (List.Mem.tail _ (List.Mem.tail _ (List.Mem.tail _ (List.Mem.tail _ (List.Mem.tail _ (List.Mem.tail _ (List.Mem.head _))))))))
        clear yf0 yf1 yf2
        obtain ⟨s0, s1, s2, sf0, sf1, sf2⟩ := three (b := w11.heap.size) (H11.out.has (w11.heap.size, .cells #[.int .i64 1, .int .i64 eM, .string ⟨#[]⟩] 24) (List.Mem.head _))
        clear sf0 sf1 sf2
        go_wp2_with fail
        refine (WM2.out _ (HE.out.step H11.out.low)).mono ?_
        rintro e w12 ⟨rfl, hbx⟩
        have H12 := hidv ((H11.out.step hbx).add (.cells #[.int .i64 1, .int .i64 eM, .string ⟨#[]⟩] 24))
        clear hbx H11
        clear x0 x1 x2 y0 y1 y2 s0 s1 s2
        obtain ⟨s0, s1, s2, sf0, sf1, sf2⟩ := three (b := w11.heap.size) (H12.out.has (w11.heap.size, .cells #[.int .i64 1, .int .i64 eM, .string ⟨#[]⟩] 24) (List.Mem.tail _ (List.Mem.head _)))
        clear sf0 sf1 sf2
        obtain ⟨u0, u1, u2, uf0, uf1, uf2⟩ := three (b := w12.heap.size) (H12.out.has (w12.heap.size, .cells #[.int .i64 1, .int .i64 eM, .string ⟨#[]⟩] 24) (List.Mem.head _))
        clear uf0 uf1 uf2
        go_wp2_with fail
        go_roundw
        case rel => exact ⟨2, by omega, by go_num, ⟨fun p hp => H12.out.has p (List.Mem.tail _ (List.Mem.tail _ hp)), H12.out.low⟩⟩
        case measure => simp [RowKit.intOf]
      · have hd' : (dM == 1) = false := by simpa using hd
        obtain ⟨x0, x1, x2, xf0, xf1, xf2⟩ := three (b := w1.heap.size) (HK.out.has (w1.heap.size, .cells #[.int .i64 k1, .int .i64 n1, .string t1] 24) (List.Mem.tail _ (List.Mem.tail _ (List.Mem.tail _ (List.Mem.tail _ (List.Mem.tail _ (List.Mem.tail _ (List.Mem.head _))))))))
        clear xf0 xf1 xf2
        obtain ⟨y0, y1, y2, yf0, yf1, yf2⟩ := three (b := w2.heap.size) (HK.out.has (w2.heap.size, .cells #[.int .i64 k2, .int .i64 n2, .string t2] 24) (List.Mem.tail _ (List.Mem.tail _ (List.Mem.tail _ (List.Mem.tail _ (List.Mem.tail _ (List.Mem.head _)))))))
        clear yf0 yf1 yf2
        go_wp2_with fail
        refine (WM1.out _ (HE.out.step HK.out.low)).mono ?_
        rintro e w11 ⟨rfl, hbx⟩
        have H11 := hidv ((HK.out.step hbx).add (.cells #[.int .i64 dM, .int .i64 eM, .string ⟨#[]⟩] 24))
        clear hbx HK
        clear x0 x1 x2 y0 y1 y2
        obtain ⟨x0, x1, x2, xf0, xf1, xf2⟩ := three (b := w1.heap.size) (H11.out.has (w1.heap.size, .cells #[.int .i64 k1, .int .i64 n1, .string t1] 24) (List.Mem.tail _ (List.Mem.tail _ (List.Mem.tail _ (List.Mem.tail _ (List.Mem.tail _ (List.Mem.tail _ (List.Mem.tail _ (List.Mem.head _)))))))))
        clear xf0 xf1 xf2
        obtain ⟨y0, y1, y2, yf0, yf1, yf2⟩ := three (b := w2.heap.size) (H11.out.has (w2.heap.size, .cells #[.int .i64 k2, .int .i64 n2, .string t2] 24) (List.Mem.tail _ (List.Mem.tail _ (List.Mem.tail _ (List.Mem.tail _ (List.Mem.tail _ (List.Mem.tail _ (List.Mem.head _))))))))
        clear yf0 yf1 yf2
        obtain ⟨s0, s1, s2, sf0, sf1, sf2⟩ := three (b := w11.heap.size) (H11.out.has (w11.heap.size, .cells #[.int .i64 dM, .int .i64 eM, .string ⟨#[]⟩] 24) (List.Mem.head _))
        clear sf0 sf1 sf2
        go_wp2_with fail
        refine (WM2.out _ (HE.out.step H11.out.low)).mono ?_
        rintro e w12 ⟨rfl, hbx⟩
        have H12 := hidv ((H11.out.step hbx).add (.cells #[.int .i64 dM, .int .i64 fM, .string ⟨#[]⟩] 24))
        clear hbx H11
        clear x0 x1 x2 y0 y1 y2 s0 s1 s2
        obtain ⟨s0, s1, s2, sf0, sf1, sf2⟩ := three (b := w11.heap.size) (H12.out.has (w11.heap.size, .cells #[.int .i64 dM, .int .i64 eM, .string ⟨#[]⟩] 24) (List.Mem.tail _ (List.Mem.head _)))
        clear sf0 sf1 sf2
        obtain ⟨u0, u1, u2, uf0, uf1, uf2⟩ := three (b := w12.heap.size) (H12.out.has (w12.heap.size, .cells #[.int .i64 dM, .int .i64 fM, .string ⟨#[]⟩] 24) (List.Mem.head _))
        clear uf0 uf1 uf2
        go_wp2_with fail
        go_roundw
        case rel => exact ⟨2, by omega, by go_num, ⟨fun p hp => H12.out.has p (List.Mem.tail _ (List.Mem.tail _ hp)), H12.out.low⟩⟩
        case measure => simp [RowKit.intOf]
    · subst h
      clear l0 l1
      obtain ⟨x0, x1, x2, xf0, xf1, xf2⟩ := three (b := w1.heap.size) (HK.out.has (w1.heap.size, .cells #[.int .i64 k1, .int .i64 n1, .string t1] 24) (List.Mem.tail _ (List.Mem.tail _ (List.Mem.tail _ (List.Mem.tail _ (List.Mem.tail _ (List.Mem.tail _ (List.Mem.head _))))))))
      clear xf0 xf1 xf2
      obtain ⟨y0, y1, y2, yf0, yf1, yf2⟩ := three (b := w2.heap.size) (HK.out.has (w2.heap.size, .cells #[.int .i64 k2, .int .i64 n2, .string t2] 24) (List.Mem.tail _ (List.Mem.tail _ (List.Mem.tail _ (List.Mem.tail _ (List.Mem.tail _ (List.Mem.head _)))))))
      clear yf0 yf1 yf2
      go_wp2_with fail
      refine (m1.out _).mono ?_
      rintro e w21 ⟨rfl, hbx⟩
      have H21 := hidv (HK.out.step hbx)
      clear hbx HK
      clear x0 x1 x2 y0 y1 y2
      obtain ⟨x0, x1, x2, xf0, xf1, xf2⟩ := three (b := w1.heap.size) (H21.out.has (w1.heap.size, .cells #[.int .i64 k1, .int .i64 n1, .string t1] 24) (List.Mem.tail _ (List.Mem.tail _ (List.Mem.tail _ (List.Mem.tail _ (List.Mem.tail _ (List.Mem.tail _ (List.Mem.head _))))))))
      clear xf0 xf1 xf2
      obtain ⟨y0, y1, y2, yf0, yf1, yf2⟩ := three (b := w2.heap.size) (H21.out.has (w2.heap.size, .cells #[.int .i64 k2, .int .i64 n2, .string t2] 24) (List.Mem.tail _ (List.Mem.tail _ (List.Mem.tail _ (List.Mem.tail _ (List.Mem.tail _ (List.Mem.head _)))))))
      clear yf0 yf1 yf2
      go_wp2_with fail
      refine (cof.out _ _).mono ?_
      rintro e w22 ⟨rfl, hbx⟩
      have H22 := hidv (H21.out.step hbx)
      clear hbx H21
      clear x0 x1 x2 y0 y1 y2
      obtain ⟨x0, x1, x2, xf0, xf1, xf2⟩ := three (b := w1.heap.size) (H22.out.has (w1.heap.size, .cells #[.int .i64 k1, .int .i64 n1, .string t1] 24) (List.Mem.tail _ (List.Mem.tail _ (List.Mem.tail _ (List.Mem.tail _ (List.Mem.tail _ (List.Mem.tail _ (List.Mem.head _))))))))
      clear xf0 xf1 xf2
      obtain ⟨y0, y1, y2, yf0, yf1, yf2⟩ := three (b := w2.heap.size) (H22.out.has (w2.heap.size, .cells #[.int .i64 k2, .int .i64 n2, .string t2] 24) (List.Mem.tail _ (List.Mem.tail _ (List.Mem.tail _ (List.Mem.tail _ (List.Mem.tail _ (List.Mem.head _)))))))
      clear yf0 yf1 yf2
      go_wp2_with fail
      refine (cg.out _ _ _ _).mono ?_
      rintro e w23 ⟨rfl, hbx⟩
      have H23 := hidv (H22.out.step hbx)
      clear hbx H22
      clear x0 x1 x2 y0 y1 y2
      obtain ⟨x0, x1, x2, xf0, xf1, xf2⟩ := three (b := w1.heap.size) (H23.out.has (w1.heap.size, .cells #[.int .i64 k1, .int .i64 n1, .string t1] 24) (List.Mem.tail _ (List.Mem.tail _ (List.Mem.tail _ (List.Mem.tail _ (List.Mem.tail _ (List.Mem.tail _ (List.Mem.head _))))))))
      clear xf0 xf1 xf2
      obtain ⟨y0, y1, y2, yf0, yf1, yf2⟩ := three (b := w2.heap.size) (H23.out.has (w2.heap.size, .cells #[.int .i64 k2, .int .i64 n2, .string t2] 24) (List.Mem.tail _ (List.Mem.tail _ (List.Mem.tail _ (List.Mem.tail _ (List.Mem.tail _ (List.Mem.head _)))))))
      clear yf0 yf1 yf2
      go_wp2_with fail
      refine (m2.out _).mono ?_
      rintro e w24 ⟨rfl, hbx⟩
      have H24 := hidv (H23.out.step hbx)
      clear hbx H23
      clear x0 x1 x2 y0 y1 y2
      obtain ⟨x0, x1, x2, xf0, xf1, xf2⟩ := three (b := w1.heap.size) (H24.out.has (w1.heap.size, .cells #[.int .i64 k1, .int .i64 n1, .string t1] 24) (List.Mem.tail _ (List.Mem.tail _ (List.Mem.tail _ (List.Mem.tail _ (List.Mem.tail _ (List.Mem.tail _ (List.Mem.head _))))))))
      clear xf0 xf1 xf2
      obtain ⟨y0, y1, y2, yf0, yf1, yf2⟩ := three (b := w2.heap.size) (H24.out.has (w2.heap.size, .cells #[.int .i64 k2, .int .i64 n2, .string t2] 24) (List.Mem.tail _ (List.Mem.tail _ (List.Mem.tail _ (List.Mem.tail _ (List.Mem.tail _ (List.Mem.head _)))))))
      clear yf0 yf1 yf2
      go_wp2_with fail
      refine (cof.out _ _).mono ?_
      rintro e w25 ⟨rfl, hbx⟩
      have H25 := hidv (H24.out.step hbx)
      clear hbx H24
      clear x0 x1 x2 y0 y1 y2
      obtain ⟨x0, x1, x2, xf0, xf1, xf2⟩ := three (b := w1.heap.size) (H25.out.has (w1.heap.size, .cells #[.int .i64 k1, .int .i64 n1, .string t1] 24) (List.Mem.tail _ (List.Mem.tail _ (List.Mem.tail _ (List.Mem.tail _ (List.Mem.tail _ (List.Mem.tail _ (List.Mem.head _))))))))
      clear xf0 xf1 xf2
      obtain ⟨y0, y1, y2, yf0, yf1, yf2⟩ := three (b := w2.heap.size) (H25.out.has (w2.heap.size, .cells #[.int .i64 k2, .int .i64 n2, .string t2] 24) (List.Mem.tail _ (List.Mem.tail _ (List.Mem.tail _ (List.Mem.tail _ (List.Mem.tail _ (List.Mem.head _)))))))
      clear yf0 yf1 yf2
      go_wp2_with fail
      refine (cg.out _ _ _ _).mono ?_
      rintro e w26 ⟨rfl, hbx⟩
      have H26 := hidv (H25.out.step hbx)
      clear hbx H25
      clear x0 x1 x2 y0 y1 y2
      obtain ⟨x0, x1, x2, xf0, xf1, xf2⟩ := three (b := w1.heap.size) (H26.out.has (w1.heap.size, .cells #[.int .i64 k1, .int .i64 n1, .string t1] 24) (List.Mem.tail _ (List.Mem.tail _ (List.Mem.tail _ (List.Mem.tail _ (List.Mem.tail _ (List.Mem.tail _ (List.Mem.head _))))))))
      clear xf0 xf1 xf2
      obtain ⟨y0, y1, y2, yf0, yf1, yf2⟩ := three (b := w2.heap.size) (H26.out.has (w2.heap.size, .cells #[.int .i64 k2, .int .i64 n2, .string t2] 24) (List.Mem.tail _ (List.Mem.tail _ (List.Mem.tail _ (List.Mem.tail _ (List.Mem.tail _ (List.Mem.head _)))))))
      clear yf0 yf1 yf2
      go_wp2_with fail
      refine (m3.out _).mono ?_
      rintro e w27 ⟨rfl, hbx⟩
      have H27 := hidv (H26.out.step hbx)
      clear hbx H26
      clear x0 x1 x2 y0 y1 y2
      obtain ⟨x0, x1, x2, xf0, xf1, xf2⟩ := three (b := w1.heap.size) (H27.out.has (w1.heap.size, .cells #[.int .i64 k1, .int .i64 n1, .string t1] 24) (List.Mem.tail _ (List.Mem.tail _ (List.Mem.tail _ (List.Mem.tail _ (List.Mem.tail _ (List.Mem.tail _ (List.Mem.head _))))))))
      clear xf0 xf1 xf2
      obtain ⟨y0, y1, y2, yf0, yf1, yf2⟩ := three (b := w2.heap.size) (H27.out.has (w2.heap.size, .cells #[.int .i64 k2, .int .i64 n2, .string t2] 24) (List.Mem.tail _ (List.Mem.tail _ (List.Mem.tail _ (List.Mem.tail _ (List.Mem.tail _ (List.Mem.head _)))))))
      clear yf0 yf1 yf2
      go_wp2_with fail
      refine (cof.out _ _).mono ?_
      rintro e w28 ⟨rfl, hbx⟩
      have H28 := hidv (H27.out.step hbx)
      clear hbx H27
      clear x0 x1 x2 y0 y1 y2
      obtain ⟨x0, x1, x2, xf0, xf1, xf2⟩ := three (b := w1.heap.size) (H28.out.has (w1.heap.size, .cells #[.int .i64 k1, .int .i64 n1, .string t1] 24) (List.Mem.tail _ (List.Mem.tail _ (List.Mem.tail _ (List.Mem.tail _ (List.Mem.tail _ (List.Mem.tail _ (List.Mem.head _))))))))
      clear xf0 xf1 xf2
      obtain ⟨y0, y1, y2, yf0, yf1, yf2⟩ := three (b := w2.heap.size) (H28.out.has (w2.heap.size, .cells #[.int .i64 k2, .int .i64 n2, .string t2] 24) (List.Mem.tail _ (List.Mem.tail _ (List.Mem.tail _ (List.Mem.tail _ (List.Mem.tail _ (List.Mem.head _)))))))
      clear yf0 yf1 yf2
      go_wp2_with fail
      refine (cg.out _ _ _ _).mono ?_
      rintro e w29 ⟨rfl, hbx⟩
      have H29 := hidv (H28.out.step hbx)
      clear hbx H28
      clear x0 x1 x2 y0 y1 y2
      obtain ⟨x0, x1, x2, xf0, xf1, xf2⟩ := three (b := w1.heap.size) (H29.out.has (w1.heap.size, .cells #[.int .i64 k1, .int .i64 n1, .string t1] 24) (List.Mem.tail _ (List.Mem.tail _ (List.Mem.tail _ (List.Mem.tail _ (List.Mem.tail _ (List.Mem.tail _ (List.Mem.head _))))))))
      clear xf0 xf1 xf2
      obtain ⟨y0, y1, y2, yf0, yf1, yf2⟩ := three (b := w2.heap.size) (H29.out.has (w2.heap.size, .cells #[.int .i64 k2, .int .i64 n2, .string t2] 24) (List.Mem.tail _ (List.Mem.tail _ (List.Mem.tail _ (List.Mem.tail _ (List.Mem.tail _ (List.Mem.head _)))))))
      clear yf0 yf1 yf2
      go_wp2_with fail
      refine (m6.out _).mono ?_
      rintro e w30 ⟨rfl, hbx⟩
      have H30 := hidv (H29.out.step hbx)
      clear hbx H29
      clear x0 x1 x2 y0 y1 y2
      obtain ⟨x0, x1, x2, xf0, xf1, xf2⟩ := three (b := w1.heap.size) (H30.out.has (w1.heap.size, .cells #[.int .i64 k1, .int .i64 n1, .string t1] 24) (List.Mem.tail _ (List.Mem.tail _ (List.Mem.tail _ (List.Mem.tail _ (List.Mem.tail _ (List.Mem.tail _ (List.Mem.head _))))))))
      clear xf0 xf1 xf2
      obtain ⟨y0, y1, y2, yf0, yf1, yf2⟩ := three (b := w2.heap.size) (H30.out.has (w2.heap.size, .cells #[.int .i64 k2, .int .i64 n2, .string t2] 24) (List.Mem.tail _ (List.Mem.tail _ (List.Mem.tail _ (List.Mem.tail _ (List.Mem.tail _ (List.Mem.head _)))))))
      clear yf0 yf1 yf2
      go_wp2_with fail
      refine (cof.out _ _).mono ?_
      rintro e w31 ⟨rfl, hbx⟩
      have H31 := hidv (H30.out.step hbx)
      clear hbx H30
      clear x0 x1 x2 y0 y1 y2
      obtain ⟨x0, x1, x2, xf0, xf1, xf2⟩ := three (b := w1.heap.size) (H31.out.has (w1.heap.size, .cells #[.int .i64 k1, .int .i64 n1, .string t1] 24) (List.Mem.tail _ (List.Mem.tail _ (List.Mem.tail _ (List.Mem.tail _ (List.Mem.tail _ (List.Mem.tail _ (List.Mem.head _))))))))
      clear xf0 xf1 xf2
      obtain ⟨y0, y1, y2, yf0, yf1, yf2⟩ := three (b := w2.heap.size) (H31.out.has (w2.heap.size, .cells #[.int .i64 k2, .int .i64 n2, .string t2] 24) (List.Mem.tail _ (List.Mem.tail _ (List.Mem.tail _ (List.Mem.tail _ (List.Mem.tail _ (List.Mem.head _)))))))
      clear yf0 yf1 yf2
      go_wp2_with fail
      refine (cg.out _ _ _ _).mono ?_
      rintro e w32 ⟨rfl, hbx⟩
      have H32 := hidv (H31.out.step hbx)
      clear hbx H31
      clear x0 x1 x2 y0 y1 y2
      obtain ⟨x0, x1, x2, xf0, xf1, xf2⟩ := three (b := w1.heap.size) (H32.out.has (w1.heap.size, .cells #[.int .i64 k1, .int .i64 n1, .string t1] 24) (List.Mem.tail _ (List.Mem.tail _ (List.Mem.tail _ (List.Mem.tail _ (List.Mem.tail _ (List.Mem.tail _ (List.Mem.head _))))))))
      clear xf0 xf1 xf2
      obtain ⟨y0, y1, y2, yf0, yf1, yf2⟩ := three (b := w2.heap.size) (H32.out.has (w2.heap.size, .cells #[.int .i64 k2, .int .i64 n2, .string t2] 24) (List.Mem.tail _ (List.Mem.tail _ (List.Mem.tail _ (List.Mem.tail _ (List.Mem.tail _ (List.Mem.head _)))))))
      clear yf0 yf1 yf2
      go_wp2_with fail
      refine (m5.out _).mono ?_
      rintro e w33 ⟨rfl, hbx⟩
      have H33 := hidv (H32.out.step hbx)
      clear hbx H32
      clear x0 x1 x2 y0 y1 y2
      obtain ⟨x0, x1, x2, xf0, xf1, xf2⟩ := three (b := w1.heap.size) (H33.out.has (w1.heap.size, .cells #[.int .i64 k1, .int .i64 n1, .string t1] 24) (List.Mem.tail _ (List.Mem.tail _ (List.Mem.tail _ (List.Mem.tail _ (List.Mem.tail _ (List.Mem.tail _ (List.Mem.head _))))))))
      clear xf0 xf1 xf2
      obtain ⟨y0, y1, y2, yf0, yf1, yf2⟩ := three (b := w2.heap.size) (H33.out.has (w2.heap.size, .cells #[.int .i64 k2, .int .i64 n2, .string t2] 24) (List.Mem.tail _ (List.Mem.tail _ (List.Mem.tail _ (List.Mem.tail _ (List.Mem.tail _ (List.Mem.head _)))))))
      clear yf0 yf1 yf2
      go_wp2_with fail
      refine (cof.out _ _).mono ?_
      rintro e w34 ⟨rfl, hbx⟩
      have H34 := hidv (H33.out.step hbx)
      clear hbx H33
      clear x0 x1 x2 y0 y1 y2
      obtain ⟨x0, x1, x2, xf0, xf1, xf2⟩ := three (b := w1.heap.size) (H34.out.has (w1.heap.size, .cells #[.int .i64 k1, .int .i64 n1, .string t1] 24) (List.Mem.tail _ (List.Mem.tail _ (List.Mem.tail _ (List.Mem.tail _ (List.Mem.tail _ (List.Mem.tail _ (List.Mem.head _))))))))
      clear xf0 xf1 xf2
      obtain ⟨y0, y1, y2, yf0, yf1, yf2⟩ := three (b := w2.heap.size) (H34.out.has (w2.heap.size, .cells #[.int .i64 k2, .int .i64 n2, .string t2] 24) (List.Mem.tail _ (List.Mem.tail _ (List.Mem.tail _ (List.Mem.tail _ (List.Mem.tail _ (List.Mem.head _)))))))
      clear yf0 yf1 yf2
      go_wp2_with fail
      refine (cg.out _ _ _ _).mono ?_
      rintro e w35 ⟨rfl, hbx⟩
      have H35 := hidv (H34.out.step hbx)
      clear hbx H34
      clear x0 x1 x2 y0 y1 y2
      obtain ⟨x0, x1, x2, xf0, xf1, xf2⟩ := three (b := w1.heap.size) (H35.out.has (w1.heap.size, .cells #[.int .i64 k1, .int .i64 n1, .string t1] 24) (List.Mem.tail _ (List.Mem.tail _ (List.Mem.tail _ (List.Mem.tail _ (List.Mem.tail _ (List.Mem.tail _ (List.Mem.head _))))))))
      clear xf0 xf1 xf2
      obtain ⟨y0, y1, y2, yf0, yf1, yf2⟩ := three (b := w2.heap.size) (H35.out.has (w2.heap.size, .cells #[.int .i64 k2, .int .i64 n2, .string t2] 24) (List.Mem.tail _ (List.Mem.tail _ (List.Mem.tail _ (List.Mem.tail _ (List.Mem.tail _ (List.Mem.head _)))))))
      clear yf0 yf1 yf2
      go_wp2_with fail
      refine (m4.out _).mono ?_
      rintro e w36 ⟨rfl, hbx⟩
      have H36 := hidv (H35.out.step hbx)
      clear hbx H35
      clear x0 x1 x2 y0 y1 y2
      obtain ⟨x0, x1, x2, xf0, xf1, xf2⟩ := three (b := w1.heap.size) (H36.out.has (w1.heap.size, .cells #[.int .i64 k1, .int .i64 n1, .string t1] 24) (List.Mem.tail _ (List.Mem.tail _ (List.Mem.tail _ (List.Mem.tail _ (List.Mem.tail _ (List.Mem.tail _ (List.Mem.head _))))))))
      clear xf0 xf1 xf2
      obtain ⟨y0, y1, y2, yf0, yf1, yf2⟩ := three (b := w2.heap.size) (H36.out.has (w2.heap.size, .cells #[.int .i64 k2, .int .i64 n2, .string t2] 24) (List.Mem.tail _ (List.Mem.tail _ (List.Mem.tail _ (List.Mem.tail _ (List.Mem.tail _ (List.Mem.head _)))))))
      clear yf0 yf1 yf2
      go_wp2_with fail
      refine (cof.out _ _).mono ?_
      rintro e w37 ⟨rfl, hbx⟩
      have H37 := hidv (H36.out.step hbx)
      clear hbx H36
      clear x0 x1 x2 y0 y1 y2
      obtain ⟨x0, x1, x2, xf0, xf1, xf2⟩ := three (b := w1.heap.size) (H37.out.has (w1.heap.size, .cells #[.int .i64 k1, .int .i64 n1, .string t1] 24) (List.Mem.tail _ (List.Mem.tail _ (List.Mem.tail _ (List.Mem.tail _ (List.Mem.tail _ (List.Mem.tail _ (List.Mem.head _))))))))
      clear xf0 xf1 xf2
      obtain ⟨y0, y1, y2, yf0, yf1, yf2⟩ := three (b := w2.heap.size) (H37.out.has (w2.heap.size, .cells #[.int .i64 k2, .int .i64 n2, .string t2] 24) (List.Mem.tail _ (List.Mem.tail _ (List.Mem.tail _ (List.Mem.tail _ (List.Mem.tail _ (List.Mem.head _)))))))
      clear yf0 yf1 yf2
      go_wp2_with fail
      refine (cg.out _ _ _ _).mono ?_
      rintro e w38 ⟨rfl, hbx⟩
      have H38 := hidv (H37.out.step hbx)
      clear hbx H37
      clear x0 x1 x2 y0 y1 y2
      obtain ⟨p0, p1, p2, pf0, pf1, pf2⟩ := three (b := w7.heap.size) (H38.out.has (w7.heap.size, .cells #[.int .i64 K1, .int .i64 N1, .string T1] 23) (List.Mem.tail _ (List.Mem.tail _ (List.Mem.tail _ (List.Mem.head _)))))
      clear pf0 pf1 pf2
      obtain ⟨q0, q1, q2, qf0, qf1, qf2⟩ := three (b := w8.heap.size) (H38.out.has (w8.heap.size, .cells #[.int .i64 K2, .int .i64 N2, .string T2] 23) (List.Mem.tail _ (List.Mem.tail _ (List.Mem.head _))))
      clear qf0 qf1 qf2
      obtain ⟨r0, r1, r2, rf0, rf1, rf2⟩ := three (b := w9.heap.size) (H38.out.has (w9.heap.size, .cells #[.int .i64 K3, .int .i64 N3, .string T3] 23) (List.Mem.tail _ (List.Mem.head _)))
      clear rf0 rf1 rf2
      obtain ⟨ok, eok⟩ : ∃ b, decide (0 < K1 ∧ 0 < K2 ∧ 0 < K3 ∧ ¬ K3 = 4) = b := ⟨_, rfl⟩
      have HOK := hidv eok
      clear eok
      go_upto_region 25 with fail
      go_cut [166] from 26 (fun t wx => t = .bool ok ∧ w38 = wx)
      case first =>
        as_aux_lemma =>
        by_cases u1 : 0 < K1
        · by_cases u2 : 0 < K2
          · by_cases u3 : 0 < K3
            · by_cases u4 : K3 = 4
              · have u4' : (K3 != 4) = false := by simpa using u4
                have HB : Hid (false = ok) := by show _ = _; rw [← HOK.out]; simp; omega
                go_wp2_with fail
                go_meet
                exact ⟨by rw [HB.out], rfl⟩
              · have u4' : (K3 != 4) = true := by simpa using u4
                have HB : Hid (true = ok) := by show _ = _; rw [← HOK.out]; simp; omega
                go_wp2_with fail
                go_meet
                exact ⟨by rw [HB.out], rfl⟩
            · have HB : Hid (false = ok) := by show _ = _; rw [← HOK.out]; simp; omega
              go_wp2_with fail
              go_meet
              exact ⟨by rw [HB.out], rfl⟩
          · have HB : Hid (false = ok) := by show _ = _; rw [← HOK.out]; simp; omega
            go_wp2_with fail
            go_meet
            exact ⟨by rw [HB.out], rfl⟩
        · have HB : Hid (false = ok) := by show _ = _; rw [← HOK.out]; simp; omega
          go_wp2_with fail
          go_meet
          exact ⟨by rw [HB.out], rfl⟩
      case rest =>
      as_aux_lemma =>
      obtain ⟨rfl, rfl⟩ := hcut
      go_upto_if 166 with fail
      go_cut [19, 20] from 26 (fun k l wx => Hid (Kept [(w9.heap.size + 1, .cells #[.string ⟨#[43]⟩, .string ⟨#[42]⟩] 9), (w9.heap.size, .cells #[.int .i64 K3, .int .i64 N3, .string T3] 23), (w8.heap.size, .cells #[.int .i64 K2, .int .i64 N2, .string T2] 23), (w7.heap.size, .cells #[.int .i64 K1, .int .i64 N1, .string T1] 23), (w3.heap.size, .cells #[.int .i64 k3, .int .i64 n3, .string t3] 24), (w2.heap.size, .cells #[.int .i64 k2, .int .i64 n2, .string t2] 24), (w1.heap.size, .cells #[.int .i64 k1, .int .i64 n1, .string t1] 24), (w.heap.size + 2, .cells #[.int .i64 k3, .int .i64 n3, .string t3] 23), (w.heap.size + 1, .cells #[.int .i64 k2, .int .i64 n2, .string t2] 23), (w.heap.size, .cells #[.int .i64 k1, .int .i64 n1, .string t1] 23)] w wx))
      case first =>
        as_aux_lemma =>
        cases ok
        · go_wp2_with fail
          go_meet
          exact H38
        · have hk : 0 < K1 ∧ 0 < K2 ∧ 0 < K3 ∧ ¬ K3 = 4 := by simpa using HOK.out
          have HT := hidv (fun a b => ord_trans K1 N1 T1 K2 N2 T2 K3 N3 T3 hk.1 hk.2.1 hk.2.2.1 (by simpa using gq1) (by simpa using gq2) hk.2.2.2 a b)
          rw [HO.out] at HT
          have hr2 := ord_range K2 N2 T2 K3 N3 T3
          have hr3 := ord_range K1 N1 T1 K3 N3 T3
          generalize ordI K2 N2 T2 K3 N3 T3 = R2 at o23 HT hr2
          generalize ordI K1 N1 T1 K3 N3 T3 = R3 at o13 HT hr3
          clear hk
          rcases hr2 with h | h | h <;> rcases hr3 with h' | h' | h' <;> subst h <;> subst h'
          · skip
            clear p0 p1 p2 q0 q1 q2 r0 r1 r2
            obtain ⟨y0, y1, y2, yf0, yf1, yf2⟩ := three (b := w2.heap.size) (H38.out.has (w2.heap.size, .cells #[.int .i64 k2, .int .i64 n2, .string t2] 24) (List.Mem.tail _ (List.Mem.tail _ (List.Mem.tail _ (List.Mem.tail _ (List.Mem.tail _ (List.Mem.head _)))))))
            clear yf0 yf1 yf2
            obtain ⟨z0, z1, z2, zf0, zf1, zf2⟩ := three (b := w3.heap.size) (H38.out.has (w3.heap.size, .cells #[.int .i64 k3, .int .i64 n3, .string t3] 24) (List.Mem.tail _ (List.Mem.tail _ (List.Mem.tail _ (List.Mem.tail _ (List.Mem.head _))))))
            clear zf0 zf1 zf2
            go_wp2_with fail
            refine (o23.out _).mono ?_
            rintro e w61 ⟨rfl, hbx⟩
            have H61 := hidv (H38.out.step hbx)
            clear hbx H38
            clear y0 y1 y2 z0 z1 z2
            obtain ⟨x0, x1, x2, xf0, xf1, xf2⟩ := three (b := w1.heap.size) (H61.out.has (w1.heap.size, .cells #[.int .i64 k1, .int .i64 n1, .string t1] 24) (List.Mem.tail _ (List.Mem.tail _ (List.Mem.tail _ (List.Mem.tail _ (List.Mem.tail _ (List.Mem.tail _ (List.Mem.head _))))))))
            clear xf0 xf1 xf2
            obtain ⟨z0, z1, z2, zf0, zf1, zf2⟩ := three (b := w3.heap.size) (H61.out.has (w3.heap.size, .cells #[.int .i64 k3, .int .i64 n3, .string t3] 24) (List.Mem.tail _ (List.Mem.tail _ (List.Mem.tail _ (List.Mem.tail _ (List.Mem.head _))))))
            clear zf0 zf1 zf2
            go_wp2_with fail
            refine (o13.out _).mono ?_
            rintro e w62 ⟨rfl, hbx⟩
            have H62 := hidv (H61.out.step hbx)
            clear hbx H61
            go_wp2_with fail
            go_meet
            exact H62
          · exact absurd ((HT.out (by decide) (by decide)).2 rfl) (by decide)
          · exact absurd (HT.out (by decide) (by decide)).1 (by decide)
          · skip
            clear p0 p1 p2 q0 q1 q2 r0 r1 r2
            obtain ⟨y0, y1, y2, yf0, yf1, yf2⟩ := three (b := w2.heap.size) (H38.out.has (w2.heap.size, .cells #[.int .i64 k2, .int .i64 n2, .string t2] 24) (List.Mem.tail _ (List.Mem.tail _ (List.Mem.tail _ (List.Mem.tail _ (List.Mem.tail _ (List.Mem.head _)))))))
            clear yf0 yf1 yf2
            obtain ⟨z0, z1, z2, zf0, zf1, zf2⟩ := three (b := w3.heap.size) (H38.out.has (w3.heap.size, .cells #[.int .i64 k3, .int .i64 n3, .string t3] 24) (List.Mem.tail _ (List.Mem.tail _ (List.Mem.tail _ (List.Mem.tail _ (List.Mem.head _))))))
            clear zf0 zf1 zf2
            go_wp2_with fail
            refine (o23.out _).mono ?_
            rintro e w61 ⟨rfl, hbx⟩
            have H61 := hidv (H38.out.step hbx)
            clear hbx H38
            clear y0 y1 y2 z0 z1 z2
            obtain ⟨x0, x1, x2, xf0, xf1, xf2⟩ := three (b := w1.heap.size) (H61.out.has (w1.heap.size, .cells #[.int .i64 k1, .int .i64 n1, .string t1] 24) (List.Mem.tail _ (List.Mem.tail _ (List.Mem.tail _ (List.Mem.tail _ (List.Mem.tail _ (List.Mem.tail _ (List.Mem.head _))))))))
            clear xf0 xf1 xf2
            obtain ⟨z0, z1, z2, zf0, zf1, zf2⟩ := three (b := w3.heap.size) (H61.out.has (w3.heap.size, .cells #[.int .i64 k3, .int .i64 n3, .string t3] 24) (List.Mem.tail _ (List.Mem.tail _ (List.Mem.tail _ (List.Mem.tail _ (List.Mem.head _))))))
            clear zf0 zf1 zf2
            go_wp2_with fail
            refine (o13.out _).mono ?_
            rintro e w62 ⟨rfl, hbx⟩
            have H62 := hidv (H61.out.step hbx)
            clear hbx H61
            go_wp2_with fail
            go_meet
            exact H62
          · exact absurd ((HT.out (by decide) (by decide)).2 rfl) (by decide)
          · exact absurd (HT.out (by decide) (by decide)).1 (by decide)
          · skip
            clear p0 p1 p2 q0 q1 q2 r0 r1 r2
            obtain ⟨y0, y1, y2, yf0, yf1, yf2⟩ := three (b := w2.heap.size) (H38.out.has (w2.heap.size, .cells #[.int .i64 k2, .int .i64 n2, .string t2] 24) (List.Mem.tail _ (List.Mem.tail _ (List.Mem.tail _ (List.Mem.tail _ (List.Mem.tail _ (List.Mem.head _)))))))
            clear yf0 yf1 yf2
            obtain ⟨z0, z1, z2, zf0, zf1, zf2⟩ := three (b := w3.heap.size) (H38.out.has (w3.heap.size, .cells #[.int .i64 k3, .int .i64 n3, .string t3] 24) (List.Mem.tail _ (List.Mem.tail _ (List.Mem.tail _ (List.Mem.tail _ (List.Mem.head _))))))
            clear zf0 zf1 zf2
            go_wp2_with fail
            refine (o23.out _).mono ?_
            rintro e w61 ⟨rfl, hbx⟩
            have H61 := hidv (H38.out.step hbx)
            clear hbx H38
            clear y0 y1 y2 z0 z1 z2
            obtain ⟨x0, x1, x2, xf0, xf1, xf2⟩ := three (b := w1.heap.size) (H61.out.has (w1.heap.size, .cells #[.int .i64 k1, .int .i64 n1, .string t1] 24) (List.Mem.tail _ (List.Mem.tail _ (List.Mem.tail _ (List.Mem.tail _ (List.Mem.tail _ (List.Mem.tail _ (List.Mem.head _))))))))
            clear xf0 xf1 xf2
            obtain ⟨z0, z1, z2, zf0, zf1, zf2⟩ := three (b := w3.heap.size) (H61.out.has (w3.heap.size, .cells #[.int .i64 k3, .int .i64 n3, .string t3] 24) (List.Mem.tail _ (List.Mem.tail _ (List.Mem.tail _ (List.Mem.tail _ (List.Mem.head _))))))
            clear zf0 zf1 zf2
            go_wp2_with fail
            refine (o13.out _).mono ?_
            rintro e w62 ⟨rfl, hbx⟩
            have H62 := hidv (H61.out.step hbx)
            clear hbx H61
            go_wp2_with fail
            go_meet
            exact H62
          · skip
            clear p0 p1 p2 q0 q1 q2 r0 r1 r2
            obtain ⟨y0, y1, y2, yf0, yf1, yf2⟩ := three (b := w2.heap.size) (H38.out.has (w2.heap.size, .cells #[.int .i64 k2, .int .i64 n2, .string t2] 24) (List.Mem.tail _ (List.Mem.tail _ (List.Mem.tail _ (List.Mem.tail _ (List.Mem.tail _ (List.Mem.head _)))))))
            clear yf0 yf1 yf2
            obtain ⟨z0, z1, z2, zf0, zf1, zf2⟩ := three (b := w3.heap.size) (H38.out.has (w3.heap.size, .cells #[.int .i64 k3, .int .i64 n3, .string t3] 24) (List.Mem.tail _ (List.Mem.tail _ (List.Mem.tail _ (List.Mem.tail _ (List.Mem.head _))))))
            clear zf0 zf1 zf2
            go_wp2_with fail
            refine (o23.out _).mono ?_
            rintro e w61 ⟨rfl, hbx⟩
            have H61 := hidv (H38.out.step hbx)
            clear hbx H38
            clear y0 y1 y2 z0 z1 z2
            obtain ⟨x0, x1, x2, xf0, xf1, xf2⟩ := three (b := w1.heap.size) (H61.out.has (w1.heap.size, .cells #[.int .i64 k1, .int .i64 n1, .string t1] 24) (List.Mem.tail _ (List.Mem.tail _ (List.Mem.tail _ (List.Mem.tail _ (List.Mem.tail _ (List.Mem.tail _ (List.Mem.head _))))))))
            clear xf0 xf1 xf2
            obtain ⟨z0, z1, z2, zf0, zf1, zf2⟩ := three (b := w3.heap.size) (H61.out.has (w3.heap.size, .cells #[.int .i64 k3, .int .i64 n3, .string t3] 24) (List.Mem.tail _ (List.Mem.tail _ (List.Mem.tail _ (List.Mem.tail _ (List.Mem.head _))))))
            clear zf0 zf1 zf2
            go_wp2_with fail
            refine (o13.out _).mono ?_
            rintro e w62 ⟨rfl, hbx⟩
            have H62 := hidv (H61.out.step hbx)
            clear hbx H61
            go_wp2_with fail
            go_meet
            exact H62
          · skip
            clear p0 p1 p2 q0 q1 q2 r0 r1 r2
            obtain ⟨y0, y1, y2, yf0, yf1, yf2⟩ := three (b := w2.heap.size) (H38.out.has (w2.heap.size, .cells #[.int .i64 k2, .int .i64 n2, .string t2] 24) (List.Mem.tail _ (List.Mem.tail _ (List.Mem.tail _ (List.Mem.tail _ (List.Mem.tail _ (List.Mem.head _)))))))
            clear yf0 yf1 yf2
            obtain ⟨z0, z1, z2, zf0, zf1, zf2⟩ := three (b := w3.heap.size) (H38.out.has (w3.heap.size, .cells #[.int .i64 k3, .int .i64 n3, .string t3] 24) (List.Mem.tail _ (List.Mem.tail _ (List.Mem.tail _ (List.Mem.tail _ (List.Mem.head _))))))
            clear zf0 zf1 zf2
            go_wp2_with fail
            refine (o23.out _).mono ?_
            rintro e w61 ⟨rfl, hbx⟩
            have H61 := hidv (H38.out.step hbx)
            clear hbx H38
            clear y0 y1 y2 z0 z1 z2
            obtain ⟨x0, x1, x2, xf0, xf1, xf2⟩ := three (b := w1.heap.size) (H61.out.has (w1.heap.size, .cells #[.int .i64 k1, .int .i64 n1, .string t1] 24) (List.Mem.tail _ (List.Mem.tail _ (List.Mem.tail _ (List.Mem.tail _ (List.Mem.tail _ (List.Mem.tail _ (List.Mem.head _))))))))
            clear xf0 xf1 xf2
            obtain ⟨z0, z1, z2, zf0, zf1, zf2⟩ := three (b := w3.heap.size) (H61.out.has (w3.heap.size, .cells #[.int .i64 k3, .int .i64 n3, .string t3] 24) (List.Mem.tail _ (List.Mem.tail _ (List.Mem.tail _ (List.Mem.tail _ (List.Mem.head _))))))
            clear zf0 zf1 zf2
            go_wp2_with fail
            refine (o13.out _).mono ?_
            rintro e w62 ⟨rfl, hbx⟩
            have H62 := hidv (H61.out.step hbx)
            clear hbx H61
            go_wp2_with fail
            go_meet
            exact H62
      case rest =>
      as_aux_lemma =>
      have HW := hcut
      clear hcut H38 p0 p1 p2 q0 q1 q2 r0 r1 r2
      have hzz := HZ.out
      have hw : IntKind.i64.wrap ((S1.size : Int) + (S2.size : Int)) = (S1.size : Int) + (S2.size : Int) := by simp [IntKind.wrap, IntKind.bits, IntKind.signed]; omega
      have hadd : ∀ W, (Op.stringOp .add S1 S2).run Tryz.prog W = .ok (.string (S1 ++ S2)) W := fun W => run_string_add_sum W _ _ (by omega)
      have hsa : (S1 ++ S2).size = S1.size + S2.size := ByteArray.size_append
      by_cases hl : 1000 < (S1 ++ S2).size
      · have hJ : joinV S1 S2 = (4, 3, ⟨#[]⟩) := by unfold joinV; rw [if_pos hl]
        rw [hJ] at wj
        have hl' : (1000 : Int) < (S1.size : Int) + (S2.size : Int) := by omega
        generalize S1 ++ S2 = U at hadd wj hl hsa hJ
        clear hJ hl hsa hzz
        obtain ⟨x0, x1, x2, xf0, xf1, xf2⟩ := three (b := w1.heap.size) (HW.out.has (w1.heap.size, .cells #[.int .i64 k1, .int .i64 n1, .string t1] 24) (List.Mem.tail _ (List.Mem.tail _ (List.Mem.tail _ (List.Mem.tail _ (List.Mem.tail _ (List.Mem.tail _ (List.Mem.head _))))))))
        clear xf0 xf1 xf2
        obtain ⟨y0, y1, y2, yf0, yf1, yf2⟩ := three (b := w2.heap.size) (HW.out.has (w2.heap.size, .cells #[.int .i64 k2, .int .i64 n2, .string t2] 24) (List.Mem.tail _ (List.Mem.tail _ (List.Mem.tail _ (List.Mem.tail _ (List.Mem.tail _ (List.Mem.head _)))))))
        clear yf0 yf1 yf2
        go_wp2_with fail
        refine (wj.out _ (HE.out.step HW.out.low)).mono ?_
        rintro e w71 ⟨rfl, hbx⟩
        have H71 := hidv ((HW.out.step hbx).add (.cells #[.int .i64 4, .int .i64 3, .string ⟨#[]⟩] 24))
        clear hbx HW
        clear x0 x1 x2 y0 y1 y2
        obtain ⟨x0, x1, x2, xf0, xf1, xf2⟩ := three (b := w1.heap.size) (H71.out.has (w1.heap.size, .cells #[.int .i64 k1, .int .i64 n1, .string t1] 24) (List.Mem.tail _ (List.Mem.tail _ (List.Mem.tail _ (List.Mem.tail _ (List.Mem.tail _ (List.Mem.tail _ (List.Mem.tail _ (List.Mem.head _)))))))))
        clear xf0 xf1 xf2
        obtain ⟨y0, y1, y2, yf0, yf1, yf2⟩ := three (b := w2.heap.size) (H71.out.has (w2.heap.size, .cells #[.int .i64 k2, .int .i64 n2, .string t2] 24) (List.Mem.tail _ (List.Mem.tail _ (List.Mem.tail _ (List.Mem.tail _ (List.Mem.tail _ (List.Mem.tail _ (List.Mem.head _))))))))
        clear yf0 yf1 yf2
        obtain ⟨jj0, jj1, jj2, jjf0, jjf1, jjf2⟩ := three (b := w71.heap.size) (H71.out.has (w71.heap.size, .cells #[.int .i64 4, .int .i64 3, .string ⟨#[]⟩] 24) (List.Mem.head _))
        clear jjf0 jjf1 jjf2
        go_wp2_with fail
        refine (tx1.out _ (HE.out.step H71.out.low)).mono ?_
        rintro e w72 ⟨rfl, hbx⟩
        have H72 := hidv (H71.out.step hbx)
        clear hbx H71
        clear x0 x1 x2 y0 y1 y2 jj0 jj1 jj2
        obtain ⟨y0, y1, y2, yf0, yf1, yf2⟩ := three (b := w2.heap.size) (H72.out.has (w2.heap.size, .cells #[.int .i64 k2, .int .i64 n2, .string t2] 24) (List.Mem.tail _ (List.Mem.tail _ (List.Mem.tail _ (List.Mem.tail _ (List.Mem.tail _ (List.Mem.tail _ (List.Mem.head _))))))))
        clear yf0 yf1 yf2
        obtain ⟨jj0, jj1, jj2, jjf0, jjf1, jjf2⟩ := three (b := w71.heap.size) (H72.out.has (w71.heap.size, .cells #[.int .i64 4, .int .i64 3, .string ⟨#[]⟩] 24) (List.Mem.head _))
        clear jjf0 jjf1 jjf2
        go_wp2_with fail
        refine (tx2.out _ (HE.out.step H72.out.low)).mono ?_
        rintro e w73 ⟨rfl, hbx⟩
        have H73 := hidv (H72.out.step hbx)
        clear hbx H72
        clear y0 y1 y2 jj0 jj1 jj2
        obtain ⟨jj0, jj1, jj2, jjf0, jjf1, jjf2⟩ := three (b := w71.heap.size) (H73.out.has (w71.heap.size, .cells #[.int .i64 4, .int .i64 3, .string ⟨#[]⟩] 24) (List.Mem.head _))
        clear jjf0 jjf1 jjf2
        go_wp2_with fail
        refine (al.out _ (HE.out.step H73.out.low)).mono ?_
        rintro e w74 ⟨rfl, hbx⟩
        have H74 := hidv (H73.out.step hbx)
        clear hbx H73
        go_wp2_with fail
        go_ret
        exact ⟨rfl, H74.out.low⟩
      · have hJ : joinV S1 S2 = (2, 0, S1 ++ S2) := by unfold joinV; rw [if_neg hl]
        rw [hJ] at wj
        have hl' : ¬ (1000 : Int) < (S1.size : Int) + (S2.size : Int) := by omega
        generalize S1 ++ S2 = U at hadd wj hl hsa hJ
        clear hJ hl hsa hzz
        obtain ⟨x0, x1, x2, xf0, xf1, xf2⟩ := three (b := w1.heap.size) (HW.out.has (w1.heap.size, .cells #[.int .i64 k1, .int .i64 n1, .string t1] 24) (List.Mem.tail _ (List.Mem.tail _ (List.Mem.tail _ (List.Mem.tail _ (List.Mem.tail _ (List.Mem.tail _ (List.Mem.head _))))))))
        clear xf0 xf1 xf2
        obtain ⟨y0, y1, y2, yf0, yf1, yf2⟩ := three (b := w2.heap.size) (HW.out.has (w2.heap.size, .cells #[.int .i64 k2, .int .i64 n2, .string t2] 24) (List.Mem.tail _ (List.Mem.tail _ (List.Mem.tail _ (List.Mem.tail _ (List.Mem.tail _ (List.Mem.head _)))))))
        clear yf0 yf1 yf2
        go_wp2_with fail
        refine (wj.out _ (HE.out.step HW.out.low)).mono ?_
        rintro e w71 ⟨rfl, hbx⟩
        have H71 := hidv ((HW.out.step hbx).add (.cells #[.int .i64 2, .int .i64 0, .string U] 24))
        clear hbx HW
        clear x0 x1 x2 y0 y1 y2
        obtain ⟨x0, x1, x2, xf0, xf1, xf2⟩ := three (b := w1.heap.size) (H71.out.has (w1.heap.size, .cells #[.int .i64 k1, .int .i64 n1, .string t1] 24) (List.Mem.tail _ (List.Mem.tail _ (List.Mem.tail _ (List.Mem.tail _ (List.Mem.tail _ (List.Mem.tail _ (List.Mem.tail _ (List.Mem.head _)))))))))
        clear xf0 xf1 xf2
        obtain ⟨y0, y1, y2, yf0, yf1, yf2⟩ := three (b := w2.heap.size) (H71.out.has (w2.heap.size, .cells #[.int .i64 k2, .int .i64 n2, .string t2] 24) (List.Mem.tail _ (List.Mem.tail _ (List.Mem.tail _ (List.Mem.tail _ (List.Mem.tail _ (List.Mem.tail _ (List.Mem.head _))))))))
        clear yf0 yf1 yf2
        obtain ⟨jj0, jj1, jj2, jjf0, jjf1, jjf2⟩ := three (b := w71.heap.size) (H71.out.has (w71.heap.size, .cells #[.int .i64 2, .int .i64 0, .string U] 24) (List.Mem.head _))
        clear jjf0 jjf1 jjf2
        go_wp2_with fail
        refine (tx1.out _ (HE.out.step H71.out.low)).mono ?_
        rintro e w72 ⟨rfl, hbx⟩
        have H72 := hidv (H71.out.step hbx)
        clear hbx H71
        clear x0 x1 x2 y0 y1 y2 jj0 jj1 jj2
        obtain ⟨y0, y1, y2, yf0, yf1, yf2⟩ := three (b := w2.heap.size) (H72.out.has (w2.heap.size, .cells #[.int .i64 k2, .int .i64 n2, .string t2] 24) (List.Mem.tail _ (List.Mem.tail _ (List.Mem.tail _ (List.Mem.tail _ (List.Mem.tail _ (List.Mem.tail _ (List.Mem.head _))))))))
        clear yf0 yf1 yf2
        obtain ⟨jj0, jj1, jj2, jjf0, jjf1, jjf2⟩ := three (b := w71.heap.size) (H72.out.has (w71.heap.size, .cells #[.int .i64 2, .int .i64 0, .string U] 24) (List.Mem.head _))
        clear jjf0 jjf1 jjf2
        go_wp2_with fail
        refine (tx2.out _ (HE.out.step H72.out.low)).mono ?_
        rintro e w73 ⟨rfl, hbx⟩
        have H73 := hidv (H72.out.step hbx)
        clear hbx H72
        clear y0 y1 y2 jj0 jj1 jj2
        obtain ⟨jj0, jj1, jj2, jjf0, jjf1, jjf2⟩ := three (b := w71.heap.size) (H73.out.has (w71.heap.size, .cells #[.int .i64 2, .int .i64 0, .string U] 24) (List.Mem.head _))
        clear jjf0 jjf1 jjf2
        go_wp2_with fail
        refine (al.out _ (HE.out.step H73.out.low)).mono ?_
        rintro e w74 ⟨rfl, hbx⟩
        have H74 := hidv (H73.out.step hbx)
        clear hbx H73
        go_wp2_with fail
        go_ret
        exact ⟨rfl, H74.out.low⟩
end Go.Proofs.YtjbkjeabobccaacGreatDoor
