import Derived.Test.YtjbkjeabobccaaaDoorNumBig15
import Derived.Deep.CutRange
namespace Go.Proofs.YtjbkjeabobccaaaDoor
open Go.RowKit
set_option linter.unusedVariables false

/-- The nearest whole number to x divided by y; of two the even one. -/
def upN (x y : Nat) : Bool := decide (y < x % y + x % y ∨ (x % y + x % y = y ∧ x / y % 2 = 1))
def nearN (x y : Nat) : Nat := if upN x y then x / y + 1 else x / y
theorem quo_len {x y : Nat} (hx : x < 10000 ^ 30) : x / y + 1 < 10000 ^ 31 := by
  have : x / y ≤ x := Nat.div_le_self _ _
  omega
theorem drewN_below {w w' : World} {B : Nat} (h : Below B w w') (n : Nat) : Below B w (w'.drewN n) := ⟨h.os, h.tape, h.output, h.size, h.block⟩
theorem RowIs.of_heap {w w' : World} {a : Option Addr} {cap : Nat} {ds : List Int} (h : RowIs w a cap ds) (e : w'.heap = w.heap) : RowIs w' a cap ds :=
  ⟨h.le, h.lid, fun j hj => by
    obtain ⟨g, h1, h2⟩ := h.cells j hj
    exact ⟨g, h1, by rw [World.cell?_of_block (w := w) (by rw [e])]; exact h2⟩⟩
/-- A row's lowest digit. -/
theorem low_digit {w : World} {v : Option Addr} {c q : Nat} (h : RowIs w v c (repr q)) (hq : q ≠ 0) : ∃ g, v = some ⟨g, 0, none⟩ ∧ w.cell? ⟨g, 0, none⟩ = some (.int .i64 ((q % 10000 : Nat) : Int)) := by
  obtain ⟨g, e, hg⟩ := h.at (repr_len_pos hq)
  refine ⟨g, e, ?_⟩
  rw [hg 0 (repr_len_pos hq), repr_pos hq]
  rfl

set_option maxHeartbeats 16000000 in
set_option maxRecDepth 100000 in
theorem nearest_rows (w : World) (a b : Option Addr) (ca cb x y : Nat) (ma mb : Bool) (ha : RowIs w a ca (repr x)) (hb : RowIs w b cb (repr y)) (hx : x < 10000 ^ 30) (hy : y < 10000 ^ 30) (hy0 : 0 < y) (Q : Nat) (hQ : Q = nearN x y) :
    Calls Tryd.prog 44 #[.agg #[.slice a (repr x).length ca, .bool ma], .agg #[.slice b (repr y).length cb, .bool mb]] w fun e w' =>
      (∃ v cap, e = .returned (.agg #[.slice v (repr Q).length cap, .bool ((ma != mb) && decide (Q ≠ 0))]) ∧ RowIs w' v cap (repr Q)) ∧ Below w.heap.size w w' := by
  obtain ⟨m, em⟩ : ∃ m, ((ma != mb) && decide (Q ≠ 0)) = m := ⟨_, rfl⟩
  rw [em]
  have EM := hidd em
  have HA := hidd ha
  have HB := hidd hb
  have HX := hidd hx
  have HY := hidd hy
  have HY0 := hidd hy0
  have HQ0 := hidd hQ
  clear ha hb hx hy hy0 hQ em
  obtain ⟨la, ea⟩ : ∃ l, (repr x).length = l := ⟨_, rfl⟩
  obtain ⟨lb, eb⟩ : ∃ l, (repr y).length = l := ⟨_, rfl⟩
  rw [ea, eb]
  have EA := hidd ea
  have EB := hidd eb
  clear ea eb
  have hW : Below w.heap.size w (((w.alloc (.cells #[.slice a la ca, .bool ma] 49)).alloc (.cells #[.slice b lb cb, .bool mb] 49)).alloc (.cells #[.slice none 0 0, .bool false] 49)) := (((Below.refl _ _).alloc (Nat.le_refl _) _).alloc (by simp) _).alloc (by simp <;> omega) _
  have c10 := quo_any (((w.alloc (.cells #[.slice a la ca, .bool ma] 49)).alloc (.cells #[.slice b lb cb, .bool mb] 49)).alloc (.cells #[.slice none 0 0, .bool false] 49)) a b ca cb x y (HA.out.step hW) (HB.out.step hW) HX.out HY.out HY0.out
  rw [EA.out, EB.out] at c10
  have c1 := hidd c10
  have HW := hidd hW
  clear c10 hW
  go_enter Tryd.func44, Tryd.ntmps44
  go_wp2_with fail
  refine c1.out.mono ?_
  rintro e w1 ⟨⟨vq, cq, rfl, hRq⟩, hb1⟩
  have c20 := times_rows w1 vq b cq cb (x / y) y false false hRq (HB.out.step (key2 HW.out hb1)) (times_len (by have := quo_len (y := y) HX.out; omega) (by have := HY.out; omega))
  rw [EB.out, show ((false != false) && decide (x / y * y ≠ 0)) = false from rfl] at c20
  obtain ⟨lq, elq⟩ : ∃ l, (repr (x / y)).length = l := ⟨_, rfl⟩
  rw [elq] at c20 ⊢
  have c2 := hidd c20
  obtain ⟨g0, g1, g2, g3⟩ := box3 (W := (((w.alloc (.cells #[.slice a la ca, .bool ma] 49)).alloc (.cells #[.slice b lb cb, .bool mb] 49)).alloc (.cells #[.slice none 0 0, .bool false] 49))) rfl hb1
  have p0 := two_cell0 g0
  have p1 := two_cell0 g1
  have ELQ := hidd elq
  have HRq := hidd hRq
  have HB1 := hidd hb1
  clear c20 elq hRq hb1 g0 g1 g2 c1
  go_wp2_with fail
  refine c2.out.mono ?_
  rintro e w2 ⟨⟨vp, cp, rfl, hRp⟩, hb2⟩
  obtain ⟨lp, elp⟩ : ∃ l, (repr (x / y * y)).length = l := ⟨_, rfl⟩
  rw [elp]
  have hb2' := HB1.out.trans (hb2.mono HB1.out.size)
  have hb2a := hb2'.alloc hb2'.size (.cells #[.slice vp lp cp, .bool false] 49)
  obtain ⟨g0, g1, g2, g3⟩ := box3 (W := (((w.alloc (.cells #[.slice a la ca, .bool ma] 49)).alloc (.cells #[.slice b lb cb, .bool mb] 49)).alloc (.cells #[.slice none 0 0, .bool false] 49))) (w9 := w2) rfl hb2'
  have HB2a := hidd hb2a
  have HRp := hidd (hRp.step (gr3 w2 (.cells #[.slice vp lp cp, .bool false] 49)))
  have HRq2 := hidd ((HRq.out.step hb2).step (gr3 w2 (.cells #[.slice vp lp cp, .bool false] 49)))
  have ELP := hidd elp
  clear elp hRp hb2 hb2' hb2a c2 p0 p1 HRq
  have p0 := two_cell0 g0
  have p1 := two_cell0 g1
  have g4 : w.heap.size < w2.heap.size := by omega
  have c30 := minus_any (w2.alloc (.cells #[.slice vp lp cp, .bool false] 49)) a vp ca cp x (x / y * y) (HA.out.step (key2 HW.out HB2a.out)) HRp.out (Nat.div_mul_le_self _ _) (len_small _ (by have := HX.out; omega))
  rw [EA.out, ELP.out] at c30
  have hrest : x - x / y * y = x % y := by have := Nat.div_add_mod x y; rw [Nat.mul_comm] at this; omega
  rw [hrest] at c30
  have c3 := hidd c30
  clear c30 hrest g0 g1 g2
  go_wp2_with fail
  refine c3.out.mono ?_
  rintro e w3 ⟨⟨vr, cr, rfl, hRr⟩, hb3⟩
  have hb3' := HB2a.out.trans (hb3.mono HB2a.out.size)
  have c40 := plus_any w3 vr vr cr cr (x % y) (x % y) hRr hRr (len_small _ (by have := HX.out; have := Nat.mod_le x y; omega))
  obtain ⟨lr, elr⟩ : ∃ l, (repr (x % y)).length = l := ⟨_, rfl⟩
  rw [elr] at c40 ⊢
  have c4 := hidd c40
  have HB3 := hidd hb3'
  have HRq3 := hidd (HRq2.out.step hb3)
  clear c40 elr hRr hb3 hb3' c3 HRp HRq2 p0 p1
  go_wp2_with fail
  refine c4.out.mono ?_
  rintro e w4 ⟨⟨vt, ct, rfl, hRt⟩, hb4⟩
  have hb4' := HB3.out.trans (hb4.mono HB3.out.size)
  obtain ⟨g0, g1, g2, g3⟩ := box3 (W := (((w.alloc (.cells #[.slice a la ca, .bool ma] 49)).alloc (.cells #[.slice b lb cb, .bool mb] 49)).alloc (.cells #[.slice none 0 0, .bool false] 49))) (w9 := w4) rfl hb4'
  have p1 := two_cell0 g1
  have c50 := order_any w4 vt b ct cb (x % y + x % y) y hRt (HB.out.step (key2 HW.out hb4'))
  obtain ⟨lt, elt⟩ : ∃ l, (repr (x % y + x % y)).length = l := ⟨_, rfl⟩
  rw [elt, EB.out] at c50
  rw [elt]
  obtain ⟨cc, ecc⟩ : ∃ c, cmpN (x % y + x % y) y = c := ⟨_, rfl⟩
  rw [ecc] at c50
  have c5 := hidd c50
  have HCC := hidd ecc
  have HB4 := hidd hb4'
  have HRq4 := hidd (HRq3.out.step hb4)
  clear c50 elt ecc hRt hb4 hb4' c4 HRq3 g0 g1 g2
  go_wp2_with fail
  refine c5.out.mono ?_
  rintro e w' ⟨rfl, n, rfl⟩
  have HB5 := hidd (drewN_below HB4.out n)
  have HRq5 := hidd (HRq4.out.drewN n)
  clear c5 p1
  go_upto_region 6 with fail
  go_cut [10] from 11 (fun s wx => s = .bool (decide (x / y % 2 = 1)) ∧ wx = w4.drewN n)
  case first =>
    by_cases hq : x / y = 0
    · have hl0 : lq = 0 := by rw [← ELQ.out, hq]; rfl
      have HB0 : Hid (decide (x / y % 2 = 1) = false) := by show _ = _; simp [hq]
      subst hl0
      clear hq
      go_wp2_with fail
      go_meet
      exact ⟨by rw [HB0.out], rfl⟩
    · have hl0 : 0 < lq := by rw [← ELQ.out]; exact repr_len_pos hq
      obtain ⟨gq, rfl, cq0⟩ := low_digit HRq4.out hq
      obtain ⟨d, ed⟩ : ∃ d : Int, ((x / y % 10000 : Nat) : Int) = d := ⟨_, rfl⟩
      rw [ed] at cq0
      have d0 : 0 ≤ d := by omega
      by_cases hd : d % 2 = 1
      · have hb1 : (d % 2 == 1) = true := by simpa using hd
        have HB0 : Hid (decide (x / y % 2 = 1) = true) := by show _ = _; simp; omega
        clear hq hd ed
        go_wp2_with fail
        go_meet
        exact ⟨by rw [HB0.out], rfl⟩
      · have hb1 : (d % 2 == 1) = false := by simpa using hd
        have HB0 : Hid (decide (x / y % 2 = 1) = false) := by show _ = _; simp; omega
        clear hq hd ed
        go_wp2_with fail
        go_meet
        exact ⟨by rw [HB0.out], rfl⟩
  case rest =>
  obtain ⟨rfl, rfl⟩ := hcut
  obtain ⟨o, eo⟩ : ∃ o, decide (x / y % 2 = 1) = o := ⟨_, rfl⟩
  rw [eo]
  have HOD := hidd eo
  clear eo
  go_upto_region 7 with fail
  go_cut [52] from 11 (fun s wx => s = .bool (upN x y) ∧ wx = w4.drewN n)
  case first =>
    have hcc := HCC.out
    unfold cmpN at hcc
    rcases Nat.lt_trichotomy (x % y + x % y) y with hlt | heq | hgt
    · rw [if_pos hlt] at hcc
      subst hcc
      have HU : Hid (upN x y = false) := by show _ = _; unfold upN; simp; omega
      clear hlt
      go_wp2_with fail
      go_meet
      exact ⟨by rw [HU.out], rfl⟩
    · rw [if_neg (by omega), if_neg (by omega)] at hcc
      subst hcc
      have HU : Hid (upN x y = o) := by show _ = _; rw [← HOD.out]; unfold upN; exact decide_eq_decide.2 (by omega)
      clear heq
      go_wp2_with fail
      go_meet
      exact ⟨by rw [HU.out], rfl⟩
    · rw [if_neg (by omega), if_pos (by omega)] at hcc
      subst hcc
      have HU : Hid (upN x y = true) := by show _ = _; unfold upN; simp; omega
      clear hgt
      go_wp2_with fail
      go_meet
      exact ⟨by rw [HU.out], rfl⟩
  case rest =>
  obtain ⟨rfl, rfl⟩ := hcut
  obtain ⟨up, eup⟩ : ∃ u, upN x y = u := ⟨_, rfl⟩
  rw [eup]
  have HUP := hidd eup
  clear eup
  go_upto_if 52 with fail
  go_cut [5] from 11 (fun s wx => ∃ v c, s = .slice v (repr Q).length c ∧ Hid (RowIs wx v c (repr Q) ∧ Below ((((w.alloc (.cells #[.slice a la ca, .bool ma] 49)).alloc (.cells #[.slice b lb cb, .bool mb] 49)).alloc (.cells #[.slice none 0 0, .bool false] 49))).heap.size ((((w.alloc (.cells #[.slice a la ca, .bool ma] 49)).alloc (.cells #[.slice b lb cb, .bool mb] 49)).alloc (.cells #[.slice none 0 0, .bool false] 49))) wx))
  case first =>
    cases hu : up
    · have HQ1 : Hid (Q = x / y) := by show _ = _; rw [HQ0.out]; unfold nearN; rw [HUP.out, hu]; rfl
      have HF : Hid (RowIs (w4.drewN n) vq cq (repr Q) ∧ Below ((((w.alloc (.cells #[.slice a la ca, .bool ma] 49)).alloc (.cells #[.slice b lb cb, .bool mb] 49)).alloc (.cells #[.slice none 0 0, .bool false] 49))).heap.size ((((w.alloc (.cells #[.slice a la ca, .bool ma] 49)).alloc (.cells #[.slice b lb cb, .bool mb] 49)).alloc (.cells #[.slice none 0 0, .bool false] 49))) (w4.drewN n)) := ⟨by rw [HQ1.out]; exact HRq5.out, HB5.out⟩
      have HL : Hid (lq = (repr Q).length) := by show _ = _; rw [HQ1.out]; exact ELQ.out.symm
      go_wp2_with fail
      go_meet
      exact ⟨vq, cq, by rw [HL.out], HF⟩
    · have HQ1 : Hid (Q = x / y + 1) := by show _ = _; rw [HQ0.out]; unfold nearN; rw [HUP.out, hu]; rfl
      have hW4 := gr3 w4 (.cells #[.int .i64 1] 3)
      have cu0 := plus_any ((w4.alloc (.cells #[.int .i64 1] 3)).drewN n) vq (some ⟨w4.heap.size, 0, none⟩) cq 1 (x / y) 1 ((HRq4.out.step hW4).drewN n) ((rowIs_one w4 3 rfl).drewN n) (len_small _ (by have := quo_len (y := y) HX.out; omega))
      rw [ELQ.out, len_one, ← HQ1.out] at cu0
      have cu := hidd cu0
      have HW4 := hidd (HB4.out.trans ((drewN_below hW4 n).mono HB4.out.size))
      clear cu0 hW4
      go_wp2_with fail
      refine cu.out.mono ?_
      rintro e w6 ⟨⟨vu, cv, rfl, hRu⟩, hb6⟩
      have HF : Hid (RowIs w6 vu cv (repr Q) ∧ Below ((((w.alloc (.cells #[.slice a la ca, .bool ma] 49)).alloc (.cells #[.slice b lb cb, .bool mb] 49)).alloc (.cells #[.slice none 0 0, .bool false] 49))).heap.size ((((w.alloc (.cells #[.slice a la ca, .bool ma] 49)).alloc (.cells #[.slice b lb cb, .bool mb] 49)).alloc (.cells #[.slice none 0 0, .bool false] 49))) w6) := ⟨hRu, HW4.out.trans (hb6.mono HW4.out.size)⟩
      clear hRu hb6 cu
      go_wp2_with fail
      go_meet
      exact ⟨vu, cv, rfl, HF⟩
  case rest =>
  obtain ⟨v, c, rfl, HF⟩ := hcut
  obtain ⟨g0, g1, g2, g3⟩ := box3 (W := (((w.alloc (.cells #[.slice a la ca, .bool ma] 49)).alloc (.cells #[.slice b lb cb, .bool mb] 49)).alloc (.cells #[.slice none 0 0, .bool false] 49))) (w9 := wc) rfl HF.out.2
  have k1 := two_cell1 g0
  have k2 := two_cell1 g1
  have k3 := two_cell0 g2
  have k4 := two_cell1 g2
  have k5 := two_free g2 0
  have k6 := two_free g2 1
  have HQ : Hid (∀ x y, _ ∧ _) := two_both g2
  have HG := hidd g2
  have HBW := hidd (key2 HW.out HF.out.2)
  have HR := hidd HF.out.1
  have hS0 : 0 < (repr Q).length ↔ Q ≠ 0 := by
    constructor
    · rintro h rfl
      simp [repr_zero] at h
    · exact repr_len_pos
  obtain ⟨S, eS⟩ : ∃ S, (repr Q).length = S := ⟨_, rfl⟩
  rw [eS] at hS0 ⊢
  have ES := hidd eS
  have HS0 := hidd hS0
  clear g0 g1 g2 HF eS hS0
  cases hc : (ma == mb)
  · have hnc : (ma != mb) = true := by simp only [bne, hc, Bool.not_false]
    have em := EM.out
    rw [hnc, Bool.true_and] at em
    by_cases hS : 0 < S
    · rw [show decide (Q ≠ 0) = true by have := HS0.out.1 hS; simpa using this] at em
      subst em
      clear EM
      go_wp2_with fail
      refine bodyPost_ret (v := .agg #[.slice v S c, .bool true]) (by simp [results, Tryd.results44, go_sem, HQ.out]) rfl ?_
      exact ⟨⟨v, c, by rw [ES.out], HR.out.store2 HG.out _ _⟩, (HBW.out.setCell (Nat.le_add_right _ 2) _).setCell (Nat.le_add_right _ 2) _⟩
    · rw [show decide (Q ≠ 0) = false by have : ¬ Q ≠ 0 := fun h => hS (HS0.out.2 h); simpa using this] at em
      subst em
      clear EM
      go_wp2_with fail
      refine bodyPost_ret (v := .agg #[.slice v S c, .bool false]) (by simp [results, Tryd.results44, go_sem, HQ.out]) rfl ?_
      exact ⟨⟨v, c, by rw [ES.out], HR.out.store2 HG.out _ _⟩, (HBW.out.setCell (Nat.le_add_right _ 2) _).setCell (Nat.le_add_right _ 2) _⟩
  · have hnc : (ma != mb) = false := by simp only [bne, hc, Bool.not_true]
    have em := EM.out
    rw [hnc, Bool.false_and] at em
    subst em
    clear EM
    go_wp2_with fail
    refine bodyPost_ret (v := .agg #[.slice v S c, .bool false]) (by simp [results, Tryd.results44, go_sem, HQ.out]) rfl ?_
    exact ⟨⟨v, c, by rw [ES.out], HR.out.store2 HG.out _ _⟩, (HBW.out.setCell (Nat.le_add_right _ 2) _).setCell (Nat.le_add_right _ 2) _⟩
end Go.Proofs.YtjbkjeabobccaaaDoor
