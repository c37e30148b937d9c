import Derived.Test.YtjbkjeabobccaaaDoorNumBig16
namespace Go.Proofs.YtjbkjeabobccaaaDoor
open Go.RowKit
set_option linter.unusedVariables false

set_option maxHeartbeats 16000000 in
set_option maxRecDepth 100000 in
theorem down_rows (w : World) (a b : Option Addr) (ca cb x y : Nat) (ma mb : Bool) (ha : RowIs w a ca (repr x)) (hb : RowIs w b cb (repr y)) (hx : x < 10000 ^ 30) (hy : y < 10000 ^ 30) (hy0 : 0 < y) (Q : Nat) (hQ : Q = if (ma != mb) && decide (x / y * y ≠ x) then x / y + 1 else x / y) :
    Calls Tryd.prog 45 #[.agg #[.slice a (repr x).length ca, .bool ma], .agg #[.slice b (repr y).length cb, .bool mb]] w fun e w' =>
      (∃ v cap, e = .returned (.agg #[.slice v (repr Q).length cap, .bool ((ma != mb) && decide (Q ≠ 0))]) ∧ RowIs w' v cap (repr Q)) ∧ Below w.heap.size w w' := by
  obtain ⟨m, em⟩ : ∃ m, ((ma != mb) && decide (Q ≠ 0)) = m := ⟨_, rfl⟩
  rw [em]
  have EM := hidd em
  have HA := hidd ha
  have HB := hidd hb
  have HX := hidd hx
  have HY := hidd hy
  have HY0 := hidd hy0
  have HQ0 := hidd hQ
  clear ha hb hx hy hy0 hQ em
  obtain ⟨la, ea⟩ : ∃ l, (repr x).length = l := ⟨_, rfl⟩
  obtain ⟨lb, eb⟩ : ∃ l, (repr y).length = l := ⟨_, rfl⟩
  rw [ea, eb]
  have EA := hidd ea
  have EB := hidd eb
  clear ea eb
  have hW : Below w.heap.size w (((w.alloc (.cells #[.slice a la ca, .bool ma] 49)).alloc (.cells #[.slice b lb cb, .bool mb] 49)).alloc (.cells #[.slice none 0 0, .bool false] 49)) := (((Below.refl _ _).alloc (Nat.le_refl _) _).alloc (by simp) _).alloc (by simp <;> omega) _
  have c10 := quo_any (((w.alloc (.cells #[.slice a la ca, .bool ma] 49)).alloc (.cells #[.slice b lb cb, .bool mb] 49)).alloc (.cells #[.slice none 0 0, .bool false] 49)) a b ca cb x y (HA.out.step hW) (HB.out.step hW) HX.out HY.out HY0.out
  rw [EA.out, EB.out] at c10
  have c1 := hidd c10
  have HW := hidd hW
  clear c10 hW
  go_enter Tryd.func45, Tryd.ntmps45
  go_wp2_with fail
  refine c1.out.mono ?_
  rintro e w1 ⟨⟨vq, cq, rfl, hRq⟩, hb1⟩
  have c20 := times_rows w1 vq b cq cb (x / y) y false false hRq (HB.out.step (key2 HW.out hb1)) (times_len (by have := quo_len (y := y) HX.out; omega) (by have := HY.out; omega))
  rw [EB.out, show ((false != false) && decide (x / y * y ≠ 0)) = false from rfl] at c20
  obtain ⟨lq, elq⟩ : ∃ l, (repr (x / y)).length = l := ⟨_, rfl⟩
  rw [elq] at c20 ⊢
  have c2 := hidd c20
  obtain ⟨g0, g1, g2, g3⟩ := box3 (W := (((w.alloc (.cells #[.slice a la ca, .bool ma] 49)).alloc (.cells #[.slice b lb cb, .bool mb] 49)).alloc (.cells #[.slice none 0 0, .bool false] 49))) rfl hb1
  have p0 := two_cell0 g0
  have p1 := two_cell0 g1
  have ELQ := hidd elq
  have HRq := hidd hRq
  have HB1 := hidd hb1
  clear c20 elq hRq hb1 g0 g1 g2 c1
  go_wp2_with fail
  refine c2.out.mono ?_
  rintro e w2 ⟨⟨vp, cp, rfl, hRp⟩, hb2⟩
  obtain ⟨lp, elp⟩ : ∃ l, (repr (x / y * y)).length = l := ⟨_, rfl⟩
  rw [elp]
  have hb2' := HB1.out.trans (hb2.mono HB1.out.size)
  have hb2a := hb2'.alloc hb2'.size (.cells #[.slice vp lp cp, .bool false] 49)
  obtain ⟨g0, g1, g2, g3⟩ := box3 (W := (((w.alloc (.cells #[.slice a la ca, .bool ma] 49)).alloc (.cells #[.slice b lb cb, .bool mb] 49)).alloc (.cells #[.slice none 0 0, .bool false] 49))) (w9 := w2) rfl hb2'
  have HB2a := hidd hb2a
  have HRp := hidd (hRp.step (gr3 w2 (.cells #[.slice vp lp cp, .bool false] 49)))
  have HRq2 := hidd ((HRq.out.step hb2).step (gr3 w2 (.cells #[.slice vp lp cp, .bool false] 49)))
  have ELP := hidd elp
  clear elp hRp hb2 hb2' hb2a c2 p0 p1 HRq
  have p0 := two_cell0 g0
  have p1 := two_cell1 g0
  have p2 := two_cell1 g1
  have g4 : w.heap.size < w2.heap.size := by omega
  have g5 : w.heap.size + 1 < w2.heap.size := by omega
  have c30 := order_any (w2.alloc (.cells #[.slice vp lp cp, .bool false] 49)) vp a cp ca (x / y * y) x HRp.out (HA.out.step (key2 HW.out HB2a.out))
  rw [EA.out, ELP.out] at c30
  obtain ⟨cc, ecc⟩ : ∃ c, cmpN (x / y * y) x = c := ⟨_, rfl⟩
  rw [ecc] at c30
  have c3 := hidd c30
  have HCC := hidd ecc
  clear c30 ecc g0 g1 g2
  go_upto_region 3 with fail
  go_cut [30] from 7 (fun s wx => s = .bool ((ma != mb) && decide (x / y * y ≠ x)) ∧ ∃ n, wx = (w2.alloc (.cells #[.slice vp lp cp, .bool false] 49)).drewN n)
  case first =>
    cases hc : (ma == mb)
    · have hnc : (ma != mb) = true := by simp only [bne, hc, Bool.not_false]
      have hle := Nat.div_mul_le_self x y
      by_cases he : x / y * y = x
      · have HU : Hid (((ma != mb) && decide (x / y * y ≠ x)) = false) := by show _ = _; rw [hnc, show decide (x / y * y ≠ x) = false by simpa using he]; rfl
        have hcc := HCC.out
        unfold cmpN at hcc
        rw [if_neg (by omega), if_neg (by omega)] at hcc
        subst hcc
        clear he hle hnc
        go_wp2_with (go_at_call 57; refine c3.out.mono ?_; rintro e w' ⟨rfl, n, rfl⟩)
        go_meet
        exact ⟨by rw [HU.out], n, rfl⟩
      · have HU : Hid (((ma != mb) && decide (x / y * y ≠ x)) = true) := by show _ = _; rw [hnc, show decide (x / y * y ≠ x) = true by simpa using he]; rfl
        have hcc := HCC.out
        unfold cmpN at hcc
        rw [if_pos (by omega)] at hcc
        subst hcc
        clear he hle hnc
        go_wp2_with (go_at_call 57; refine c3.out.mono ?_; rintro e w' ⟨rfl, n, rfl⟩)
        go_meet
        exact ⟨by rw [HU.out], n, rfl⟩
    · have hnc : (ma != mb) = false := by simp only [bne, hc, Bool.not_true]
      have HU : Hid (((ma != mb) && decide (x / y * y ≠ x)) = false) := by show _ = _; rw [hnc, Bool.false_and]
      clear hnc
      go_wp2_with fail
      go_meet
      exact ⟨by rw [HU.out], 0, by simp [World.drewN_zero]⟩
  case rest =>
  obtain ⟨rfl, n, rfl⟩ := hcut
  obtain ⟨up, eup⟩ : ∃ u, ((ma != mb) && decide (x / y * y ≠ x)) = u := ⟨_, rfl⟩
  rw [eup]
  have HUP := hidd eup
  have HB5 := hidd (drewN_below HB2a.out n)
  have HRq5 := hidd (HRq2.out.drewN n)
  clear eup c3 p0 p1 p2
  go_upto_if 30 with fail
  go_cut [5] from 7 (fun s wx => ∃ v c, s = .slice v (repr Q).length c ∧ Hid (RowIs wx v c (repr Q) ∧ Below ((((w.alloc (.cells #[.slice a la ca, .bool ma] 49)).alloc (.cells #[.slice b lb cb, .bool mb] 49)).alloc (.cells #[.slice none 0 0, .bool false] 49))).heap.size ((((w.alloc (.cells #[.slice a la ca, .bool ma] 49)).alloc (.cells #[.slice b lb cb, .bool mb] 49)).alloc (.cells #[.slice none 0 0, .bool false] 49))) wx))
  case first =>
    cases hu : up
    · have HQ1 : Hid (Q = x / y) := by show _ = _; rw [HQ0.out, HUP.out, hu]; rfl
      have HF : Hid (RowIs ((w2.alloc (.cells #[.slice vp lp cp, .bool false] 49)).drewN n) vq cq (repr Q) ∧ Below ((((w.alloc (.cells #[.slice a la ca, .bool ma] 49)).alloc (.cells #[.slice b lb cb, .bool mb] 49)).alloc (.cells #[.slice none 0 0, .bool false] 49))).heap.size ((((w.alloc (.cells #[.slice a la ca, .bool ma] 49)).alloc (.cells #[.slice b lb cb, .bool mb] 49)).alloc (.cells #[.slice none 0 0, .bool false] 49))) ((w2.alloc (.cells #[.slice vp lp cp, .bool false] 49)).drewN n)) := ⟨by rw [HQ1.out]; exact HRq5.out, HB5.out⟩
      have HL : Hid (lq = (repr Q).length) := by show _ = _; rw [HQ1.out]; exact ELQ.out.symm
      subst hu
      go_wp2_with fail
      go_meet
      exact ⟨vq, cq, by rw [HL.out], HF⟩
    · have HQ1 : Hid (Q = x / y + 1) := by show _ = _; rw [HQ0.out, HUP.out, hu]; rfl
      have hW4 := gr3 (w2.alloc (.cells #[.slice vp lp cp, .bool false] 49)) (.cells #[.int .i64 1] 3)
      have cu0 := plus_any (((w2.alloc (.cells #[.slice vp lp cp, .bool false] 49)).alloc (.cells #[.int .i64 1] 3)).drewN n) vq (some ⟨w2.heap.size + 1, 0, none⟩) cq 1 (x / y) 1 ((HRq2.out.step hW4).drewN n) ((rowIs_one (w2.alloc (.cells #[.slice vp lp cp, .bool false] 49)) 3 (by simp)).drewN n) (len_small _ (by have := quo_len (y := y) HX.out; omega))
      rw [ELQ.out, len_one, ← HQ1.out] at cu0
      have cu := hidd cu0
      have HW4 := hidd (HB2a.out.trans ((drewN_below hW4 n).mono HB2a.out.size))
      clear cu0 hW4
      subst hu
      go_wp2_with fail
      refine cu.out.mono ?_
      rintro e w6 ⟨⟨vu, cv, rfl, hRu⟩, hb6⟩
      have HF : Hid (RowIs w6 vu cv (repr Q) ∧ Below ((((w.alloc (.cells #[.slice a la ca, .bool ma] 49)).alloc (.cells #[.slice b lb cb, .bool mb] 49)).alloc (.cells #[.slice none 0 0, .bool false] 49))).heap.size ((((w.alloc (.cells #[.slice a la ca, .bool ma] 49)).alloc (.cells #[.slice b lb cb, .bool mb] 49)).alloc (.cells #[.slice none 0 0, .bool false] 49))) w6) := ⟨hRu, HW4.out.trans (hb6.mono HW4.out.size)⟩
      clear hRu hb6 cu
      go_wp2_with fail
      go_meet
      exact ⟨vu, cv, rfl, HF⟩
  case rest =>
  obtain ⟨v, c, rfl, HF⟩ := hcut
  obtain ⟨g0, g1, g2, g3⟩ := box3 (W := (((w.alloc (.cells #[.slice a la ca, .bool ma] 49)).alloc (.cells #[.slice b lb cb, .bool mb] 49)).alloc (.cells #[.slice none 0 0, .bool false] 49))) (w9 := wc) rfl HF.out.2
  have k1 := two_cell1 g0
  have k2 := two_cell1 g1
  have k3 := two_cell0 g2
  have k4 := two_cell1 g2
  have k5 := two_free g2 0
  have k6 := two_free g2 1
  have HQ : Hid (∀ x y, _ ∧ _) := two_both g2
  have HG := hidd g2
  have HBW := hidd (key2 HW.out HF.out.2)
  have HR := hidd HF.out.1
  have hS0 : 0 < (repr Q).length ↔ Q ≠ 0 := by
    constructor
    · rintro h rfl
      simp [repr_zero] at h
    · exact repr_len_pos
  obtain ⟨S, eS⟩ : ∃ S, (repr Q).length = S := ⟨_, rfl⟩
  rw [eS] at hS0 ⊢
  have ES := hidd eS
  have HS0 := hidd hS0
  clear g0 g1 g2 HF eS hS0
  cases hc : (ma == mb)
  · have hnc : (ma != mb) = true := by simp only [bne, hc, Bool.not_false]
    have em := EM.out
    rw [hnc, Bool.true_and] at em
    by_cases hS : 0 < S
    · rw [show decide (Q ≠ 0) = true by have := HS0.out.1 hS; simpa using this] at em
      subst em
      clear EM
      go_wp2_with fail
      refine bodyPost_ret (v := .agg #[.slice v S c, .bool true]) (by simp [results, Tryd.results45, go_sem, HQ.out]) rfl ?_
      exact ⟨⟨v, c, by rw [ES.out], HR.out.store2 HG.out _ _⟩, (HBW.out.setCell (Nat.le_add_right _ 2) _).setCell (Nat.le_add_right _ 2) _⟩
    · rw [show decide (Q ≠ 0) = false by have : ¬ Q ≠ 0 := fun h => hS (HS0.out.2 h); simpa using this] at em
      subst em
      clear EM
      go_wp2_with fail
      refine bodyPost_ret (v := .agg #[.slice v S c, .bool false]) (by simp [results, Tryd.results45, go_sem, HQ.out]) rfl ?_
      exact ⟨⟨v, c, by rw [ES.out], HR.out.store2 HG.out _ _⟩, (HBW.out.setCell (Nat.le_add_right _ 2) _).setCell (Nat.le_add_right _ 2) _⟩
  · have hnc : (ma != mb) = false := by simp only [bne, hc, Bool.not_true]
    have em := EM.out
    rw [hnc, Bool.false_and] at em
    subst em
    clear EM
    go_wp2_with fail
    refine bodyPost_ret (v := .agg #[.slice v S c, .bool false]) (by simp [results, Tryd.results45, go_sem, HQ.out]) rfl ?_
    exact ⟨⟨v, c, by rw [ES.out], HR.out.store2 HG.out _ _⟩, (HBW.out.setCell (Nat.le_add_right _ 2) _).setCell (Nat.le_add_right _ 2) _⟩
end Go.Proofs.YtjbkjeabobccaaaDoor
