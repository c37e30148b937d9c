import Derived.Test.YtjbkjeabobccaabGreatDoorNumBig15
import Derived.Deep.CutRange
import Derived.Test.YtjbkjeabobccaabGreatDoorNumAlive
import Derived.Test.YtjbkjeabobccaabGreatDoorNumBig5
namespace Go.Proofs.YtjbkjeabobccaabGreatDoor
open Go.RowKit
set_option linter.unusedVariables false

/-- The nearest whole number to x divided by y; of two the even one. -/
def upN (x y : Nat) : Bool := decide (y < x % y + x % y ∨ (x % y + x % y = y ∧ x / y % 2 = 1))
def nearN (x y : Nat) : Nat := if upN x y then x / y + 1 else x / y
theorem quo_len {x y : Nat} (hx : x < 10000 ^ 30) : x / y + 1 < 10000 ^ 31 := by
  have : x / y ≤ x := Nat.div_le_self _ _
  omega
theorem drewN_below {w w' : World} {B : Nat} (h : Below B w w') (n : Nat) : Below B w (w'.drewN n) := ⟨h.os, h.tape, h.output, h.size, h.block⟩
theorem RowIs.of_heap {w w' : World} {a : Option Addr} {cap : Nat} {ds : List Int} (h : RowIs w a cap ds) (e : w'.heap = w.heap) : RowIs w' a cap ds :=
  ⟨h.le, h.lid, fun j hj => by
    obtain ⟨g, h1, h2⟩ := h.cells j hj
    exact ⟨g, h1, by rw [World.cell?_of_block (w := w) (by rw [e])]; exact h2⟩⟩
/-- A row's lowest digit. -/
theorem low_digit {w : World} {v : Option Addr} {c q : Nat} (h : RowIs w v c (repr q)) (hq : q ≠ 0) : ∃ g, v = some ⟨g, 0, none⟩ ∧ w.cell? ⟨g, 0, none⟩ = some (.int .i64 ((q % 10000 : Nat) : Int)) := by
  obtain ⟨g, e, hg⟩ := h.at (repr_len_pos hq)
  refine ⟨g, e, ?_⟩
  rw [hg 0 (repr_len_pos hq), repr_pos hq]
  rfl

set_option maxHeartbeats 16000000 in
set_option maxRecDepth 100000 in
theorem nearest_rows (w : World) (a b : Option Addr) (ca cb x y : Nat) (ma mb : Bool) (ha : RowIs w a ca (repr x)) (hb : RowIs w b cb (repr y)) (hx : x < 10000 ^ 30) (hy : y < 10000 ^ 30) (hy0 : 0 < y) (Q : Nat) (hQ : Q = nearN x y) :
    Calls Tryz.prog 89 #[.agg #[.slice a (repr x).length ca, .bool ma], .agg #[.slice b (repr y).length cb, .bool mb]] w fun e w' =>
      (∃ v cap, e = .returned (.agg #[.slice v (repr Q).length cap, .bool ((ma != mb) && decide (Q ≠ 0))]) ∧ RowIs w' v cap (repr Q)) ∧ Below w.heap.size w w' := by
  obtain ⟨m, em⟩ : ∃ m, ((ma != mb) && decide (Q ≠ 0)) = m := ⟨_, rfl⟩
  rw [em]
  have EM := hidd em
  have HA := hidd ha
  have HB := hidd hb
  have HX := hidd hx
  have HY := hidd hy
  have HY0 := hidd hy0
  have HQ0 := hidd hQ
  clear ha hb hx hy hy0 hQ em
  obtain ⟨la, ea⟩ : ∃ l, (repr x).length = l := ⟨_, rfl⟩
  obtain ⟨lb, eb⟩ : ∃ l, (repr y).length = l := ⟨_, rfl⟩
  rw [ea, eb]
  have EA := hidd ea
  have EB := hidd eb
  clear ea eb
  have hW : Below w.heap.size w (((w.alloc (.cells #[.slice a la ca, .bool ma] 91)).alloc (.cells #[.slice b lb cb, .bool mb] 91)).alloc (.cells #[.slice none 0 0, .bool false] 91)) := (((Below.refl _ _).alloc (Nat.le_refl _) _).alloc (by simp) _).alloc (by simp <;> omega) _
  have c10 := quo_any (((w.alloc (.cells #[.slice a la ca, .bool ma] 91)).alloc (.cells #[.slice b lb cb, .bool mb] 91)).alloc (.cells #[.slice none 0 0, .bool false] 91)) a b ca cb x y (HA.out.step hW) (HB.out.step hW) HX.out HY.out HY0.out
  rw [EA.out, EB.out] at c10
  have c1 := hidd c10
  have HW := hidd hW
  clear c10 hW
  go_enter Tryz.func89, Tryz.ntmps89
  go_wp2_with fail
  refine c1.out.mono ?_
  rintro e w1 ⟨⟨vq, cq, rfl, hRq⟩, hb1⟩
  have c20 := times_rows w1 vq b cq cb (x / y) y false false hRq (HB.out.step (key2 HW.out hb1)) (times_len (by have := quo_len (y := y) HX.out; omega) (by have := HY.out; omega))
  rw [EB.out, show ((false != false) && decide (x / y * y ≠ 0)) = false from rfl] at c20
  obtain ⟨lq, elq⟩ : ∃ l, (repr (x / y)).length = l := ⟨_, rfl⟩
  rw [elq] at c20 ⊢
  have c2 := hidd c20
  obtain ⟨g0, g1, g2, g3⟩ := box3 (W := (((w.alloc (.cells #[.slice a la ca, .bool ma] 91)).alloc (.cells #[.slice b lb cb, .bool mb] 91)).alloc (.cells #[.slice none 0 0, .bool false] 91))) rfl hb1
  have p0 := two_cell0 g0
  have p1 := two_cell0 g1
  have ELQ := hidd elq
  have HRq := hidd hRq
  have HB1 := hidd hb1
  clear c20 elq hRq hb1 g0 g1 g2 c1
  go_wp2_with fail
  refine c2.out.mono ?_
  rintro e w2 ⟨⟨vp, cp, rfl, hRp⟩, hb2⟩
  obtain ⟨lp, elp⟩ : ∃ l, (repr (x / y * y)).length = l := ⟨_, rfl⟩
  rw [elp]
  have hb2' := HB1.out.trans (hb2.mono HB1.out.size)
  have hb2a := hb2'.alloc hb2'.size (.cells #[.slice vp lp cp, .bool false] 91)
  obtain ⟨g0, g1, g2, g3⟩ := box3 (W := (((w.alloc (.cells #[.slice a la ca, .bool ma] 91)).alloc (.cells #[.slice b lb cb, .bool mb] 91)).alloc (.cells #[.slice none 0 0, .bool false] 91))) (w9 := w2) rfl hb2'
  have HB2a := hidd hb2a
  have HRp := hidd (hRp.step (gr3 w2 (.cells #[.slice vp lp cp, .bool false] 91)))
  have HRq2 := hidd ((HRq.out.step hb2).step (gr3 w2 (.cells #[.slice vp lp cp, .bool false] 91)))
  have ELP := hidd elp
  clear elp hRp hb2 hb2' hb2a c2 p0 p1 HRq
  have p0 := two_cell0 g0
  have p1 := two_cell0 g1
  have g4 : w.heap.size < w2.heap.size := by omega
  have c30 := minus_any (w2.alloc (.cells #[.slice vp lp cp, .bool false] 91)) a vp ca cp x (x / y * y) (HA.out.step (key2 HW.out HB2a.out)) HRp.out (Nat.div_mul_le_self _ _) (len_small _ (by have := HX.out; omega))
  rw [EA.out, ELP.out] at c30
  have hrest : x - x / y * y = x % y := by have := Nat.div_add_mod x y; rw [Nat.mul_comm] at this; omega
  rw [hrest] at c30
  have c3 := hidd c30
  clear c30 hrest g0 g1 g2
  go_wp2_with fail
  refine c3.out.mono ?_
  rintro e w3 ⟨⟨vr, cr, rfl, hRr⟩, hb3⟩
  have hb3' := HB2a.out.trans (hb3.mono HB2a.out.size)
  have c40 := plus_any w3 vr vr cr cr (x % y) (x % y) hRr hRr (len_small _ (by have := HX.out; have := Nat.mod_le x y; omega))
  obtain ⟨lr, elr⟩ : ∃ l, (repr (x % y)).length = l := ⟨_, rfl⟩
  rw [elr] at c40 ⊢
  have c4 := hidd c40
  have HB3 := hidd hb3'
  have HRq3 := hidd (HRq2.out.step hb3)
  clear c40 elr hRr hb3 hb3' c3 HRp HRq2 p0 p1
  go_wp2_with fail
  refine c4.out.mono ?_
  rintro e w4 ⟨⟨vt, ct, rfl, hRt⟩, hb4⟩
  have hb4' := HB3.out.trans (hb4.mono HB3.out.size)
  obtain ⟨g0, g1, g2, g3⟩ := box3 (W := (((w.alloc (.cells #[.slice a la ca, .bool ma] 91)).alloc (.cells #[.slice b lb cb, .bool mb] 91)).alloc (.cells #[.slice none 0 0, .bool false] 91))) (w9 := w4) rfl hb4'
  have p1 := two_cell0 g1
  have c50 := order_any w4 vt b ct cb (x % y + x % y) y hRt (HB.out.step (key2 HW.out hb4'))
  obtain ⟨lt, elt⟩ : ∃ l, (repr (x % y + x % y)).length = l := ⟨_, rfl⟩
  rw [elt, EB.out] at c50
  rw [elt]
  obtain ⟨cc, ecc⟩ : ∃ c, cmpN (x % y + x % y) y = c := ⟨_, rfl⟩
  rw [ecc] at c50
  have c5 := hidd c50
  have HCC := hidd ecc
  have HB4 := hidd hb4'
  have HRq4 := hidd (HRq3.out.step hb4)
  clear c50 elt ecc hRt hb4 hb4' c4 HRq3 g0 g1 g2
  go_wp2_with fail
  refine c5.out.mono ?_
  rintro e w' ⟨rfl, n, rfl⟩
  have HB5 := hidd (drewN_below HB4.out n)
  have HRq5 := hidd (HRq4.out.drewN n)
  clear c5 p1
  go_upto_region 6 with fail
  go_cut [10] from 11 (fun s wx => s = .bool (decide (x / y % 2 = 1)) ∧ wx = w4.drewN n)
  case first =>
    by_cases hq : x / y = 0
    · have hl0 : lq = 0 := by rw [← ELQ.out, hq]; rfl
      have HB0 : Hid (decide (x / y % 2 = 1) = false) := by show _ = _; simp [hq]
      subst hl0
      clear hq
      go_wp2_with fail
      go_meet
      exact ⟨by rw [HB0.out], rfl⟩
    · have hl0 : 0 < lq := by rw [← ELQ.out]; exact repr_len_pos hq
      obtain ⟨gq, rfl, cq0⟩ := low_digit HRq4.out hq
      obtain ⟨d, ed⟩ : ∃ d : Int, ((x / y % 10000 : Nat) : Int) = d := ⟨_, rfl⟩
      rw [ed] at cq0
      have d0 : 0 ≤ d := by omega
      by_cases hd : d % 2 = 1
      · have hb1 : (d % 2 == 1) = true := by simpa using hd
        have HB0 : Hid (decide (x / y % 2 = 1) = true) := by show _ = _; simp; omega
        clear hq hd ed
        go_wp2_with fail
        go_meet
        exact ⟨by rw [HB0.out], rfl⟩
      · have hb1 : (d % 2 == 1) = false := by simpa using hd
        have HB0 : Hid (decide (x / y % 2 = 1) = false) := by show _ = _; simp; omega
        clear hq hd ed
        go_wp2_with fail
        go_meet
        exact ⟨by rw [HB0.out], rfl⟩
  case rest =>
  obtain ⟨rfl, rfl⟩ := hcut
  obtain ⟨o, eo⟩ : ∃ o, decide (x / y % 2 = 1) = o := ⟨_, rfl⟩
  rw [eo]
  have HOD := hidd eo
  clear eo
  go_upto_region 7 with fail
  go_cut [52] from 11 (fun s wx => s = .bool (upN x y) ∧ wx = w4.drewN n)
  case first =>
    have hcc := HCC.out
    unfold cmpN at hcc
    rcases Nat.lt_trichotomy (x % y + x % y) y with hlt | heq | hgt
    · rw [if_pos hlt] at hcc
      subst hcc
      have HU : Hid (upN x y = false) := by show _ = _; unfold upN; simp; omega
      clear hlt
      go_wp2_with fail
      go_meet
      exact ⟨by rw [HU.out], rfl⟩
    · rw [if_neg (by omega), if_neg (by omega)] at hcc
      subst hcc
      have HU : Hid (upN x y = o) := by show _ = _; rw [← HOD.out]; unfold upN; exact decide_eq_decide.2 (by omega)
      clear heq
      go_wp2_with fail
      go_meet
      exact ⟨by rw [HU.out], rfl⟩
    · rw [if_neg (by omega), if_pos (by omega)] at hcc
      subst hcc
      have HU : Hid (upN x y = true) := by show _ = _; unfold upN; simp; omega
      clear hgt
      go_wp2_with fail
      go_meet
      exact ⟨by rw [HU.out], rfl⟩
  case rest =>
  obtain ⟨rfl, rfl⟩ := hcut
  obtain ⟨up, eup⟩ : ∃ u, upN x y = u := ⟨_, rfl⟩
  rw [eup]
  have HUP := hidd eup
  clear eup
  go_upto_if 52 with fail
  go_cut [5] from 11 (fun s wx => ∃ v c, s = .slice v (repr Q).length c ∧ Hid (RowIs wx v c (repr Q) ∧ Below ((((w.alloc (.cells #[.slice a la ca, .bool ma] 91)).alloc (.cells #[.slice b lb cb, .bool mb] 91)).alloc (.cells #[.slice none 0 0, .bool false] 91))).heap.size ((((w.alloc (.cells #[.slice a la ca, .bool ma] 91)).alloc (.cells #[.slice b lb cb, .bool mb] 91)).alloc (.cells #[.slice none 0 0, .bool false] 91))) wx))
  case first =>
    cases hu : up
    · have HQ1 : Hid (Q = x / y) := by show _ = _; rw [HQ0.out]; unfold nearN; rw [HUP.out, hu]; rfl
      have HF : Hid (RowIs (w4.drewN n) vq cq (repr Q) ∧ Below ((((w.alloc (.cells #[.slice a la ca, .bool ma] 91)).alloc (.cells #[.slice b lb cb, .bool mb] 91)).alloc (.cells #[.slice none 0 0, .bool false] 91))).heap.size ((((w.alloc (.cells #[.slice a la ca, .bool ma] 91)).alloc (.cells #[.slice b lb cb, .bool mb] 91)).alloc (.cells #[.slice none 0 0, .bool false] 91))) (w4.drewN n)) := ⟨by rw [HQ1.out]; exact HRq5.out, HB5.out⟩
      have HL : Hid (lq = (repr Q).length) := by show _ = _; rw [HQ1.out]; exact ELQ.out.symm
      go_wp2_with fail
      go_meet
      exact ⟨vq, cq, by rw [HL.out], HF⟩
    · have HQ1 : Hid (Q = x / y + 1) := by show _ = _; rw [HQ0.out]; unfold nearN; rw [HUP.out, hu]; rfl
      have hW4 := gr3 w4 (.cells #[.int .i64 1] 3)
      have cu0 := plus_any ((w4.alloc (.cells #[.int .i64 1] 3)).drewN n) vq (some ⟨w4.heap.size, 0, none⟩) cq 1 (x / y) 1 ((HRq4.out.step hW4).drewN n) ((rowIs_one w4 3 rfl).drewN n) (len_small _ (by have := quo_len (y := y) HX.out; omega))
      rw [ELQ.out, len_one, ← HQ1.out] at cu0
      have cu := hidd cu0
      have HW4 := hidd (HB4.out.trans ((drewN_below hW4 n).mono HB4.out.size))
      clear cu0 hW4
      go_wp2_with fail
      refine cu.out.mono ?_
      rintro e w6 ⟨⟨vu, cv, rfl, hRu⟩, hb6⟩
      have HF : Hid (RowIs w6 vu cv (repr Q) ∧ Below ((((w.alloc (.cells #[.slice a la ca, .bool ma] 91)).alloc (.cells #[.slice b lb cb, .bool mb] 91)).alloc (.cells #[.slice none 0 0, .bool false] 91))).heap.size ((((w.alloc (.cells #[.slice a la ca, .bool ma] 91)).alloc (.cells #[.slice b lb cb, .bool mb] 91)).alloc (.cells #[.slice none 0 0, .bool false] 91))) w6) := ⟨hRu, HW4.out.trans (hb6.mono HW4.out.size)⟩
      clear hRu hb6 cu
      go_wp2_with fail
      go_meet
      exact ⟨vu, cv, rfl, HF⟩
  case rest =>
  obtain ⟨v, c, rfl, HF⟩ := hcut
  obtain ⟨g0, g1, g2, g3⟩ := box3 (W := (((w.alloc (.cells #[.slice a la ca, .bool ma] 91)).alloc (.cells #[.slice b lb cb, .bool mb] 91)).alloc (.cells #[.slice none 0 0, .bool false] 91))) (w9 := wc) rfl HF.out.2
  have k1 := two_cell1 g0
  have k2 := two_cell1 g1
  have k3 := two_cell0 g2
  have k4 := two_cell1 g2
  have k5 := two_free g2 0
  have k6 := two_free g2 1
  have HQ : Hid (∀ x y, _ ∧ _) := two_both g2
  have HG := hidd g2
  have HBW := hidd (key2 HW.out HF.out.2)
  have HR := hidd HF.out.1
  have hS0 : 0 < (repr Q).length ↔ Q ≠ 0 := by
    constructor
    · rintro h rfl
      simp [repr_zero] at h
    · exact repr_len_pos
  obtain ⟨S, eS⟩ : ∃ S, (repr Q).length = S := ⟨_, rfl⟩
  rw [eS] at hS0 ⊢
  have ES := hidd eS
  have HS0 := hidd hS0
  clear g0 g1 g2 HF eS hS0
  cases hc : (ma == mb)
  · have hnc : (ma != mb) = true := by simp only [bne, hc, Bool.not_false]
    have em := EM.out
    rw [hnc, Bool.true_and] at em
    by_cases hS : 0 < S
    · rw [show decide (Q ≠ 0) = true by have := HS0.out.1 hS; simpa using this] at em
      subst em
      clear EM
      go_wp2_with fail
      refine bodyPost_ret (v := .agg #[.slice v S c, .bool true]) (by simp [results, Tryz.results89, go_sem, HQ.out]) rfl ?_
      exact ⟨⟨v, c, by rw [ES.out], HR.out.store2 HG.out _ _⟩, (HBW.out.setCell (Nat.le_add_right _ 2) _).setCell (Nat.le_add_right _ 2) _⟩
    · rw [show decide (Q ≠ 0) = false by have : ¬ Q ≠ 0 := fun h => hS (HS0.out.2 h); simpa using this] at em
      subst em
      clear EM
      go_wp2_with fail
      refine bodyPost_ret (v := .agg #[.slice v S c, .bool false]) (by simp [results, Tryz.results89, go_sem, HQ.out]) rfl ?_
      exact ⟨⟨v, c, by rw [ES.out], HR.out.store2 HG.out _ _⟩, (HBW.out.setCell (Nat.le_add_right _ 2) _).setCell (Nat.le_add_right _ 2) _⟩
  · have hnc : (ma != mb) = false := by simp only [bne, hc, Bool.not_true]
    have em := EM.out
    rw [hnc, Bool.false_and] at em
    subst em
    clear EM
    go_wp2_with fail
    refine bodyPost_ret (v := .agg #[.slice v S c, .bool false]) (by simp [results, Tryz.results89, go_sem, HQ.out]) rfl ?_
    exact ⟨⟨v, c, by rw [ES.out], HR.out.store2 HG.out _ _⟩, (HBW.out.setCell (Nat.le_add_right _ 2) _).setCell (Nat.le_add_right _ 2) _⟩
end Go.Proofs.YtjbkjeabobccaabGreatDoor
namespace Go.Proofs.YtjbkjeabobccaabGreatDoor
open Go.RowKit
set_option linter.unusedVariables false

set_option maxHeartbeats 16000000 in
set_option maxRecDepth 100000 in
theorem down_rows (w : World) (a b : Option Addr) (ca cb x y : Nat) (ma mb : Bool) (ha : RowIs w a ca (repr x)) (hb : RowIs w b cb (repr y)) (hx : x < 10000 ^ 30) (hy : y < 10000 ^ 30) (hy0 : 0 < y) (Q : Nat) (hQ : Q = if (ma != mb) && decide (x / y * y ≠ x) then x / y + 1 else x / y) :
    Calls Tryz.prog 90 #[.agg #[.slice a (repr x).length ca, .bool ma], .agg #[.slice b (repr y).length cb, .bool mb]] w fun e w' =>
      (∃ v cap, e = .returned (.agg #[.slice v (repr Q).length cap, .bool ((ma != mb) && decide (Q ≠ 0))]) ∧ RowIs w' v cap (repr Q)) ∧ Below w.heap.size w w' := by
  obtain ⟨m, em⟩ : ∃ m, ((ma != mb) && decide (Q ≠ 0)) = m := ⟨_, rfl⟩
  rw [em]
  have EM := hidd em
  have HA := hidd ha
  have HB := hidd hb
  have HX := hidd hx
  have HY := hidd hy
  have HY0 := hidd hy0
  have HQ0 := hidd hQ
  clear ha hb hx hy hy0 hQ em
  obtain ⟨la, ea⟩ : ∃ l, (repr x).length = l := ⟨_, rfl⟩
  obtain ⟨lb, eb⟩ : ∃ l, (repr y).length = l := ⟨_, rfl⟩
  rw [ea, eb]
  have EA := hidd ea
  have EB := hidd eb
  clear ea eb
  have hW : Below w.heap.size w (((w.alloc (.cells #[.slice a la ca, .bool ma] 91)).alloc (.cells #[.slice b lb cb, .bool mb] 91)).alloc (.cells #[.slice none 0 0, .bool false] 91)) := (((Below.refl _ _).alloc (Nat.le_refl _) _).alloc (by simp) _).alloc (by simp <;> omega) _
  have c10 := quo_any (((w.alloc (.cells #[.slice a la ca, .bool ma] 91)).alloc (.cells #[.slice b lb cb, .bool mb] 91)).alloc (.cells #[.slice none 0 0, .bool false] 91)) a b ca cb x y (HA.out.step hW) (HB.out.step hW) HX.out HY.out HY0.out
  rw [EA.out, EB.out] at c10
  have c1 := hidd c10
  have HW := hidd hW
  clear c10 hW
  go_enter Tryz.func90, Tryz.ntmps90
  go_wp2_with fail
  refine c1.out.mono ?_
  rintro e w1 ⟨⟨vq, cq, rfl, hRq⟩, hb1⟩
  have c20 := times_rows w1 vq b cq cb (x / y) y false false hRq (HB.out.step (key2 HW.out hb1)) (times_len (by have := quo_len (y := y) HX.out; omega) (by have := HY.out; omega))
  rw [EB.out, show ((false != false) && decide (x / y * y ≠ 0)) = false from rfl] at c20
  obtain ⟨lq, elq⟩ : ∃ l, (repr (x / y)).length = l := ⟨_, rfl⟩
  rw [elq] at c20 ⊢
  have c2 := hidd c20
  obtain ⟨g0, g1, g2, g3⟩ := box3 (W := (((w.alloc (.cells #[.slice a la ca, .bool ma] 91)).alloc (.cells #[.slice b lb cb, .bool mb] 91)).alloc (.cells #[.slice none 0 0, .bool false] 91))) rfl hb1
  have p0 := two_cell0 g0
  have p1 := two_cell0 g1
  have ELQ := hidd elq
  have HRq := hidd hRq
  have HB1 := hidd hb1
  clear c20 elq hRq hb1 g0 g1 g2 c1
  go_wp2_with fail
  refine c2.out.mono ?_
  rintro e w2 ⟨⟨vp, cp, rfl, hRp⟩, hb2⟩
  obtain ⟨lp, elp⟩ : ∃ l, (repr (x / y * y)).length = l := ⟨_, rfl⟩
  rw [elp]
  have hb2' := HB1.out.trans (hb2.mono HB1.out.size)
  have hb2a := hb2'.alloc hb2'.size (.cells #[.slice vp lp cp, .bool false] 91)
  obtain ⟨g0, g1, g2, g3⟩ := box3 (W := (((w.alloc (.cells #[.slice a la ca, .bool ma] 91)).alloc (.cells #[.slice b lb cb, .bool mb] 91)).alloc (.cells #[.slice none 0 0, .bool false] 91))) (w9 := w2) rfl hb2'
  have HB2a := hidd hb2a
  have HRp := hidd (hRp.step (gr3 w2 (.cells #[.slice vp lp cp, .bool false] 91)))
  have HRq2 := hidd ((HRq.out.step hb2).step (gr3 w2 (.cells #[.slice vp lp cp, .bool false] 91)))
  have ELP := hidd elp
  clear elp hRp hb2 hb2' hb2a c2 p0 p1 HRq
  have p0 := two_cell0 g0
  have p1 := two_cell1 g0
  have p2 := two_cell1 g1
  have g4 : w.heap.size < w2.heap.size := by omega
  have g5 : w.heap.size + 1 < w2.heap.size := by omega
  have c30 := order_any (w2.alloc (.cells #[.slice vp lp cp, .bool false] 91)) vp a cp ca (x / y * y) x HRp.out (HA.out.step (key2 HW.out HB2a.out))
  rw [EA.out, ELP.out] at c30
  obtain ⟨cc, ecc⟩ : ∃ c, cmpN (x / y * y) x = c := ⟨_, rfl⟩
  rw [ecc] at c30
  have c3 := hidd c30
  have HCC := hidd ecc
  clear c30 ecc g0 g1 g2
  go_upto_region 3 with fail
  go_cut [30] from 7 (fun s wx => s = .bool ((ma != mb) && decide (x / y * y ≠ x)) ∧ ∃ n, wx = (w2.alloc (.cells #[.slice vp lp cp, .bool false] 91)).drewN n)
  case first =>
    cases hc : (ma == mb)
    · have hnc : (ma != mb) = true := by simp only [bne, hc, Bool.not_false]
      have hle := Nat.div_mul_le_self x y
      by_cases he : x / y * y = x
      · have HU : Hid (((ma != mb) && decide (x / y * y ≠ x)) = false) := by show _ = _; rw [hnc, show decide (x / y * y ≠ x) = false by simpa using he]; rfl
        have hcc := HCC.out
        unfold cmpN at hcc
        rw [if_neg (by omega), if_neg (by omega)] at hcc
        subst hcc
        clear he hle hnc
        go_wp2_with (go_at_call 101; refine c3.out.mono ?_; rintro e w' ⟨rfl, n, rfl⟩)
        go_meet
        exact ⟨by rw [HU.out], n, rfl⟩
      · have HU : Hid (((ma != mb) && decide (x / y * y ≠ x)) = true) := by show _ = _; rw [hnc, show decide (x / y * y ≠ x) = true by simpa using he]; rfl
        have hcc := HCC.out
        unfold cmpN at hcc
        rw [if_pos (by omega)] at hcc
        subst hcc
        clear he hle hnc
        go_wp2_with (go_at_call 101; refine c3.out.mono ?_; rintro e w' ⟨rfl, n, rfl⟩)
        go_meet
        exact ⟨by rw [HU.out], n, rfl⟩
    · have hnc : (ma != mb) = false := by simp only [bne, hc, Bool.not_true]
      have HU : Hid (((ma != mb) && decide (x / y * y ≠ x)) = false) := by show _ = _; rw [hnc, Bool.false_and]
      clear hnc
      go_wp2_with fail
      go_meet
      exact ⟨by rw [HU.out], 0, by simp [World.drewN_zero]⟩
  case rest =>
  obtain ⟨rfl, n, rfl⟩ := hcut
  obtain ⟨up, eup⟩ : ∃ u, ((ma != mb) && decide (x / y * y ≠ x)) = u := ⟨_, rfl⟩
  rw [eup]
  have HUP := hidd eup
  have HB5 := hidd (drewN_below HB2a.out n)
  have HRq5 := hidd (HRq2.out.drewN n)
  clear eup c3 p0 p1 p2
  go_upto_if 30 with fail
  go_cut [5] from 7 (fun s wx => ∃ v c, s = .slice v (repr Q).length c ∧ Hid (RowIs wx v c (repr Q) ∧ Below ((((w.alloc (.cells #[.slice a la ca, .bool ma] 91)).alloc (.cells #[.slice b lb cb, .bool mb] 91)).alloc (.cells #[.slice none 0 0, .bool false] 91))).heap.size ((((w.alloc (.cells #[.slice a la ca, .bool ma] 91)).alloc (.cells #[.slice b lb cb, .bool mb] 91)).alloc (.cells #[.slice none 0 0, .bool false] 91))) wx))
  case first =>
    cases hu : up
    · have HQ1 : Hid (Q = x / y) := by show _ = _; rw [HQ0.out, HUP.out, hu]; rfl
      have HF : Hid (RowIs ((w2.alloc (.cells #[.slice vp lp cp, .bool false] 91)).drewN n) vq cq (repr Q) ∧ Below ((((w.alloc (.cells #[.slice a la ca, .bool ma] 91)).alloc (.cells #[.slice b lb cb, .bool mb] 91)).alloc (.cells #[.slice none 0 0, .bool false] 91))).heap.size ((((w.alloc (.cells #[.slice a la ca, .bool ma] 91)).alloc (.cells #[.slice b lb cb, .bool mb] 91)).alloc (.cells #[.slice none 0 0, .bool false] 91))) ((w2.alloc (.cells #[.slice vp lp cp, .bool false] 91)).drewN n)) := ⟨by rw [HQ1.out]; exact HRq5.out, HB5.out⟩
      have HL : Hid (lq = (repr Q).length) := by show _ = _; rw [HQ1.out]; exact ELQ.out.symm
      subst hu
      go_wp2_with fail
      go_meet
      exact ⟨vq, cq, by rw [HL.out], HF⟩
    · have HQ1 : Hid (Q = x / y + 1) := by show _ = _; rw [HQ0.out, HUP.out, hu]; rfl
      have hW4 := gr3 (w2.alloc (.cells #[.slice vp lp cp, .bool false] 91)) (.cells #[.int .i64 1] 3)
      have cu0 := plus_any (((w2.alloc (.cells #[.slice vp lp cp, .bool false] 91)).alloc (.cells #[.int .i64 1] 3)).drewN n) vq (some ⟨w2.heap.size + 1, 0, none⟩) cq 1 (x / y) 1 ((HRq2.out.step hW4).drewN n) ((rowIs_one (w2.alloc (.cells #[.slice vp lp cp, .bool false] 91)) 3 (by simp)).drewN n) (len_small _ (by have := quo_len (y := y) HX.out; omega))
      rw [ELQ.out, len_one, ← HQ1.out] at cu0
      have cu := hidd cu0
      have HW4 := hidd (HB2a.out.trans ((drewN_below hW4 n).mono HB2a.out.size))
      clear cu0 hW4
      subst hu
      go_wp2_with fail
      refine cu.out.mono ?_
      rintro e w6 ⟨⟨vu, cv, rfl, hRu⟩, hb6⟩
      have HF : Hid (RowIs w6 vu cv (repr Q) ∧ Below ((((w.alloc (.cells #[.slice a la ca, .bool ma] 91)).alloc (.cells #[.slice b lb cb, .bool mb] 91)).alloc (.cells #[.slice none 0 0, .bool false] 91))).heap.size ((((w.alloc (.cells #[.slice a la ca, .bool ma] 91)).alloc (.cells #[.slice b lb cb, .bool mb] 91)).alloc (.cells #[.slice none 0 0, .bool false] 91))) w6) := ⟨hRu, HW4.out.trans (hb6.mono HW4.out.size)⟩
      clear hRu hb6 cu
      go_wp2_with fail
      go_meet
      exact ⟨vu, cv, rfl, HF⟩
  case rest =>
  obtain ⟨v, c, rfl, HF⟩ := hcut
  obtain ⟨g0, g1, g2, g3⟩ := box3 (W := (((w.alloc (.cells #[.slice a la ca, .bool ma] 91)).alloc (.cells #[.slice b lb cb, .bool mb] 91)).alloc (.cells #[.slice none 0 0, .bool false] 91))) (w9 := wc) rfl HF.out.2
  have k1 := two_cell1 g0
  have k2 := two_cell1 g1
  have k3 := two_cell0 g2
  have k4 := two_cell1 g2
  have k5 := two_free g2 0
  have k6 := two_free g2 1
  have HQ : Hid (∀ x y, _ ∧ _) := two_both g2
  have HG := hidd g2
  have HBW := hidd (key2 HW.out HF.out.2)
  have HR := hidd HF.out.1
  have hS0 : 0 < (repr Q).length ↔ Q ≠ 0 := by
    constructor
    · rintro h rfl
      simp [repr_zero] at h
    · exact repr_len_pos
  obtain ⟨S, eS⟩ : ∃ S, (repr Q).length = S := ⟨_, rfl⟩
  rw [eS] at hS0 ⊢
  have ES := hidd eS
  have HS0 := hidd hS0
  clear g0 g1 g2 HF eS hS0
  cases hc : (ma == mb)
  · have hnc : (ma != mb) = true := by simp only [bne, hc, Bool.not_false]
    have em := EM.out
    rw [hnc, Bool.true_and] at em
    by_cases hS : 0 < S
    · rw [show decide (Q ≠ 0) = true by have := HS0.out.1 hS; simpa using this] at em
      subst em
      clear EM
      go_wp2_with fail
      refine bodyPost_ret (v := .agg #[.slice v S c, .bool true]) (by simp [results, Tryz.results90, go_sem, HQ.out]) rfl ?_
      exact ⟨⟨v, c, by rw [ES.out], HR.out.store2 HG.out _ _⟩, (HBW.out.setCell (Nat.le_add_right _ 2) _).setCell (Nat.le_add_right _ 2) _⟩
    · rw [show decide (Q ≠ 0) = false by have : ¬ Q ≠ 0 := fun h => hS (HS0.out.2 h); simpa using this] at em
      subst em
      clear EM
      go_wp2_with fail
      refine bodyPost_ret (v := .agg #[.slice v S c, .bool false]) (by simp [results, Tryz.results90, go_sem, HQ.out]) rfl ?_
      exact ⟨⟨v, c, by rw [ES.out], HR.out.store2 HG.out _ _⟩, (HBW.out.setCell (Nat.le_add_right _ 2) _).setCell (Nat.le_add_right _ 2) _⟩
  · have hnc : (ma != mb) = false := by simp only [bne, hc, Bool.not_true]
    have em := EM.out
    rw [hnc, Bool.false_and] at em
    subst em
    clear EM
    go_wp2_with fail
    refine bodyPost_ret (v := .agg #[.slice v S c, .bool false]) (by simp [results, Tryz.results90, go_sem, HQ.out]) rfl ?_
    exact ⟨⟨v, c, by rw [ES.out], HR.out.store2 HG.out _ _⟩, (HBW.out.setCell (Nat.le_add_right _ 2) _).setCell (Nat.le_add_right _ 2) _⟩
end Go.Proofs.YtjbkjeabobccaabGreatDoor
namespace Go.Proofs.YtjbkjeabobccaabGreatDoor
open Go.RowKit
set_option linter.unusedVariables false

/-- So much, with or without a sign. -/
def sq (s : Bool) (Q : Nat) : Int := if s then -(Q : Int) else Q
theorem sq_abs (s : Bool) (Q : Nat) : (sq s Q).natAbs = Q := by cases s <;> simp [sq]
theorem sq_neg (s : Bool) (Q : Nat) : decide (sq s Q < 0) = (s && decide (Q ≠ 0)) := by
  cases s
  · simp [sq]
  · simp only [sq, if_true, Bool.true_and]
    exact decide_eq_decide.2 (by omega)
def opp (x y : Int) : Bool := decide (x < 0) != decide (y < 0)
def nearZ (x y : Int) : Int := sq (opp x y) (nearN x.natAbs y.natAbs)
def downQ (s : Bool) (x y : Nat) : Nat := if s && decide (x / y * y ≠ x) then x / y + 1 else x / y
def downZ (x y : Int) : Int := sq (opp x y) (downQ (opp x y) x.natAbs y.natAbs)

theorem nearest_any (w : World) (u v : Value) (x y : Int) (hu : BigIs w u x) (hv : BigIs w v y) (hx : x.natAbs < 10000 ^ 30) (hy : y.natAbs < 10000 ^ 30) (h0 : y ≠ 0) :
    Calls Tryz.prog 89 #[u, v] w fun e w1 => ∃ c l k q, e = .returned (.agg #[.slice c l k, .bool q]) ∧ BigIs w1 (.agg #[.slice c l k, .bool q]) (nearZ x y) ∧ Below w.heap.size w w1 := by
  obtain ⟨a, ca, rfl, ha⟩ := hu
  obtain ⟨b, cb, rfl, hb⟩ := hv
  refine (nearest_rows w a b ca cb _ _ _ _ ha hb hx hy (by omega) _ rfl).mono ?_
  rintro e w1 ⟨⟨c, k, rfl, hR⟩, hB⟩
  refine ⟨c, _, k, _, rfl, ⟨c, k, ?_, ?_⟩, hB⟩
  · unfold nearZ opp; rw [sq_neg, sq_abs]
  · unfold nearZ opp; rw [sq_abs]; exact hR
theorem down_any (w : World) (u v : Value) (x y : Int) (hu : BigIs w u x) (hv : BigIs w v y) (hx : x.natAbs < 10000 ^ 30) (hy : y.natAbs < 10000 ^ 30) (h0 : y ≠ 0) :
    Calls Tryz.prog 90 #[u, v] w fun e w1 => ∃ c l k q, e = .returned (.agg #[.slice c l k, .bool q]) ∧ BigIs w1 (.agg #[.slice c l k, .bool q]) (downZ x y) ∧ Below w.heap.size w w1 := by
  obtain ⟨a, ca, rfl, ha⟩ := hu
  obtain ⟨b, cb, rfl, hb⟩ := hv
  refine (down_rows w a b ca cb _ _ _ _ ha hb hx hy (by omega) _ rfl).mono ?_
  rintro e w1 ⟨⟨c, k, rfl, hR⟩, hB⟩
  refine ⟨c, _, k, _, rfl, ⟨c, k, ?_, ?_⟩, hB⟩
  · unfold downZ opp downQ; rw [sq_neg, sq_abs]
  · unfold downZ opp downQ; rw [sq_abs]; exact hR

theorem near_le (x y : Nat) (hy : 0 < y) : nearN x y ≤ x + 1 := by
  unfold nearN
  have : x / y ≤ x := Nat.div_le_self _ _
  split <;> omega
theorem mul_lt {x y : Int} (hx1 : -9223372036854775807 ≤ x) (hx2 : x ≤ 9223372036854775807) (hy1 : -9223372036854775807 ≤ y) (hy2 : y ≤ 9223372036854775807) : (x * y).natAbs < 10000 ^ 10 := by
  rw [Int.natAbs_mul]
  have h1 : x.natAbs ≤ 9223372036854775807 := by omega
  have h2 : y.natAbs ≤ 9223372036854775807 := by omega
  have := Nat.mul_le_mul h1 h2
  omega

set_option maxHeartbeats 8000000 in
set_option maxRecDepth 100000 in
theorem work_times (a b : Int) (w : World) (ha1 : -9223372036854775807 ≤ a) (ha2 : a ≤ 9223372036854775807) (hb1 : -9223372036854775807 ≤ b) (hb2 : b ≤ 9223372036854775807) :
    Calls Tryz.prog 53 #[.int .u8 42, .int .i64 a, .int .i64 b] w fun e w' => e = .returned (.tuple #[.int .i64 (tz (nearZ (a * b) 1000000)).1, .int .i64 (tz (nearZ (a * b) 1000000)).2]) ∧ Below w.heap.size w w' := by
  have c1 := hidd (two_of a b w ha1 ha2 hb1 hb2)
  have HM := hidd (mul_lt ha1 ha2 hb1 hb2)
  have HL : Hid (a.natAbs < 10000 ^ 10 ∧ b.natAbs < 10000 ^ 10) := by show _ ∧ _; omega
  have ha : (a == -9223372036854775808) = false := by simp; omega
  have hb : (b == -9223372036854775808) = false := by simp; omega
  clear ha1 ha2 hb1 hb2
  obtain ⟨R, eR⟩ : ∃ R, tz (nearZ (a * b) 1000000) = R := ⟨_, rfl⟩
  rw [eR]
  have HR := hidd eR
  clear eR
  go_enter Tryz.func53, Tryz.ntmps53
  go_wp2_with fail
  refine c1.out.mono ?_
  rintro e w1 ⟨c, l, k, q, rfl, c2⟩
  go_wp2_with fail
  refine c2.out.mono ?_
  rintro e w2 ⟨c', l', k', q', rfl, H⟩
  have g0 := two_cell0 H.out.box1
  have g1 := two_cell1 H.out.box1
  have g2 := H.out.lt
  have ct := hidd (times_any _ _ _ a b H.out.is1 H.out.is2 (by have := HL.out.1; omega) (by have := HL.out.2; omega))
  go_wp2_with fail
  refine ct.out.mono ?_
  rintro e w3 ⟨c3, l3, k3, q3, rfl, h3, hb3⟩
  have H3 := hidd h3
  have HB3 := hidd (key2 H.out.below hb3)
  have co := hidd (of_boxed 1000000 w3 (by omega) (by omega))
  clear h3 hb3 ct g0 g1 g2
  go_wp2_with fail
  refine co.out.mono ?_
  rintro e w4 ⟨c4, l4, k4, q4, rfl, h4, hb4⟩
  have cn := hidd (nearest_any w4 _ _ (a * b) 1000000 (H3.out.step hb4) h4 (by have := HM.out; omega) (by omega) (by omega))
  have HB4 := hidd (key2 HB3.out hb4)
  clear h4 hb4 co H3
  go_wp2_with fail
  refine cn.out.mono ?_
  rintro e w5 ⟨c5, l5, k5, q5, rfl, h5, hb5⟩
  have cl := told_any w5 c5 l5 k5 q5 _ h5 (len_small _ (by
    unfold nearZ
    rw [sq_abs]
    have := near_le (a * b).natAbs (1000000 : Int).natAbs (by omega)
    have := HM.out
    omega))
  rw [HR.out] at cl
  have cl := hidd cl
  have HB5 := hidd (key2 HB4.out hb5)
  clear h5 hb5 cn
  go_wp2_with fail
  refine cl.out.mono ?_
  rintro e w6 ⟨rfl, hb6⟩
  go_wp2_with fail
  go_ret2
  exact ⟨rfl, key2 HB5.out hb6⟩
end Go.Proofs.YtjbkjeabobccaabGreatDoor
namespace Go.Proofs.YtjbkjeabobccaabGreatDoor
open Go.RowKit
set_option linter.unusedVariables false

/-- The two boxes, in a later world. -/
def Bx (w1 w2 w9 : World) (c : Option Addr) (l k : Nat) (q : Bool) (c' : Option Addr) (l' k' : Nat) (q' : Bool) : Prop :=
  w9.cell? ⟨w1.heap.size, 0, none⟩ = some (.slice c l k) ∧ w9.cell? ⟨w1.heap.size, 1, none⟩ = some (.bool q) ∧ w9.cell? ⟨w2.heap.size, 0, none⟩ = some (.slice c' l' k') ∧ w9.cell? ⟨w2.heap.size, 1, none⟩ = some (.bool q')
theorem bx_of {w1 w2 W w9 : World} {c c' : Option Addr} {l k l' k' : Nat} {q q' : Bool} (h1 : w2.heap[w1.heap.size]? = some (.cells #[.slice c l k, .bool q] 91 (0, 0)))
    (hW : Below (w2.alloc (.cells #[.slice c' l' k', .bool q'] 91)).heap.size (w2.alloc (.cells #[.slice c' l' k', .bool q'] 91)) w9) : Bx w1 w2 w9 c l k q c' l' k' q' := by
  obtain ⟨b2, _⟩ := box1 (W := w2.alloc (.cells #[.slice c' l' k', .bool q'] 91)) rfl hW
  have b1 : w9.heap[w1.heap.size]? = some (.cells #[.slice c l k, .bool q] 91 (0, 0)) := newbox2 h1 ((gr3 w2 _).trans (hW.mono (gr3 w2 _).size))
  exact ⟨two_cell0 b1, two_cell1 b1, two_cell0 b2, two_cell1 b2⟩

set_option maxHeartbeats 8000000 in
set_option maxRecDepth 100000 in
theorem work_div (a b : Int) (w : World) (ha1 : -9223372036854775807 ≤ a) (ha2 : a ≤ 9223372036854775807) (hb1 : -9223372036854775807 ≤ b) (hb2 : b ≤ 9223372036854775807) (hb0 : b ≠ 0) :
    Calls Tryz.prog 53 #[.int .u8 47, .int .i64 a, .int .i64 b] w fun e w' => e = .returned (.tuple #[.int .i64 (tz (nearZ (a * 1000000) b)).1, .int .i64 (tz (nearZ (a * 1000000) b)).2]) ∧ Below w.heap.size w w' := by
  have c1 := hidd (two_of a b w ha1 ha2 hb1 hb2)
  have HM := hidd (mul_lt ha1 ha2 (y := 1000000) (by omega) (by omega))
  have HL : Hid (a.natAbs < 10000 ^ 10 ∧ b.natAbs < 10000 ^ 10 ∧ b ≠ 0) := by show _ ∧ _; omega
  have ha : (a == -9223372036854775808) = false := by simp; omega
  have hb : (b == -9223372036854775808) = false := by simp; omega
  have hbz : (b == 0) = false := by simpa using hb0
  clear ha1 ha2 hb1 hb2 hb0
  obtain ⟨R, eR⟩ : ∃ R, tz (nearZ (a * 1000000) b) = R := ⟨_, rfl⟩
  rw [eR]
  have HR := hidd eR
  clear eR
  go_enter Tryz.func53, Tryz.ntmps53
  go_wp2_with fail
  refine c1.out.mono ?_
  rintro e w1 ⟨c, l, k, q, rfl, c2⟩
  go_wp2_with fail
  refine c2.out.mono ?_
  rintro e w2 ⟨c', l', k', q', rfl, H⟩
  have g0 := two_cell0 H.out.box1
  have g1 := two_cell1 H.out.box1
  have g2 := H.out.lt
  have cn : Hid (Calls Tryz.prog 62 #[.int .i64 1000000] (w2.alloc (.cells #[.slice c' l' k', .bool q'] 91)).drew fun e w3 => ∃ c3 l3 k3 q3, e = .returned (.agg #[.slice c3 l3 k3, .bool q3]) ∧ Bx w1 w2 w3 c l k q c' l' k' q' ∧
      Hid (Calls Tryz.prog 65 #[.agg #[.slice c l k, .bool q], .agg #[.slice c3 l3 k3, .bool q3]] w3 fun e w4 => ∃ c4 l4 k4 q4, e = .returned (.agg #[.slice c4 l4 k4, .bool q4]) ∧ Bx w1 w2 w4 c l k q c' l' k' q' ∧
        Hid (Calls Tryz.prog 89 #[.agg #[.slice c4 l4 k4, .bool q4], .agg #[.slice c' l' k', .bool q']] w4 fun e w5 => ∃ c5 l5 k5 q5, e = .returned (.agg #[.slice c5 l5 k5, .bool q5]) ∧ Bx w1 w2 w5 c l k q c' l' k' q' ∧
          Hid (Calls Tryz.prog 88 #[.agg #[.slice c5 l5 k5, .bool q5]] w5 fun e w6 => e = .returned (.tuple #[.int .i64 R.1, .int .i64 R.2]) ∧ Bx w1 w2 w6 c l k q c' l' k' q' ∧ Hid (Below w.heap.size w w6))))) := by
    have hd := gr0 (w2.alloc (.cells #[.slice c' l' k', .bool q'] 91))
    refine (of_boxed 1000000 _ (by omega) (by omega)).mono ?_
    rintro e w3 ⟨c3, l3, k3, q3, rfl, h3, hb3⟩
    have hB3 := hd.trans (hb3.mono hd.size)
    refine ⟨c3, l3, k3, q3, rfl, bx_of (W := w2) H.out.box1 hB3, ?_⟩
    refine (times_any w3 _ _ a 1000000 (H.out.is1.step hB3) h3 (by have := HL.out.1; omega) (by omega)).mono ?_
    rintro e w4 ⟨c4, l4, k4, q4, rfl, h4, hb4⟩
    have hB4 := hB3.trans (hb4.mono hB3.size)
    refine ⟨c4, l4, k4, q4, rfl, bx_of (W := w2) H.out.box1 hB4, ?_⟩
    refine (nearest_any w4 _ _ (a * 1000000) b h4 (H.out.is2.step hB4) (by have := HM.out; omega) (by have := HL.out.2.1; omega) HL.out.2.2).mono ?_
    rintro e w5 ⟨c5, l5, k5, q5, rfl, h5, hb5⟩
    have hB5 := hB4.trans (hb5.mono hB4.size)
    refine ⟨c5, l5, k5, q5, rfl, bx_of (W := w2) H.out.box1 hB5, ?_⟩
    have ct := told_any w5 c5 l5 k5 q5 _ h5 (len_small _ (by
      unfold nearZ
      rw [sq_abs]
      have := near_le (a * 1000000).natAbs b.natAbs (by have := HL.out.2.2; omega)
      have := HM.out
      omega))
    rw [HR.out] at ct
    refine ct.mono ?_
    rintro e w6 ⟨rfl, hb6⟩
    have hB6 := hB5.trans (hb6.mono hB5.size)
    exact ⟨rfl, bx_of (W := w2) H.out.box1 hB6, key2 H.out.below hB6⟩
  go_wp2_with fail
  go_region_held2 (fun w' => w'.cell? ⟨w1.heap.size, 0, none⟩ = some (.slice c l k) ∧ w'.cell? ⟨w1.heap.size, 1, none⟩ = some (.bool q) ∧ w'.cell? ⟨w2.heap.size, 0, none⟩ = some (.slice c' l' k') ∧ w'.cell? ⟨w2.heap.size, 1, none⟩ = some (.bool q')) (go_keep)
    (first | (go_at_call 62; refine cn.out.mono ?_; rintro e w3 ⟨c3, l3, k3, q3, rfl, ⟨p0, p1, p2, p3⟩, cs⟩) | (go_at_call 65; refine cs.out.mono ?_; rintro e w4 ⟨c4, l4, k4, q4, rfl, ⟨r0, r1, r2, r3⟩, ct⟩) | (go_at_call 89; refine ct.out.mono ?_; rintro e w5 ⟨c5, l5, k5, q5, rfl, ⟨s0, s1, s2, s3⟩, cu⟩) | (go_at_call 88; refine cu.out.mono ?_; rintro e w6 ⟨rfl, ⟨t0, t1, t2, t3⟩, HB⟩))
  all_goals
    go_wp2_with fail
    go_ret2
    exact ⟨rfl, HB.out⟩

set_option maxHeartbeats 8000000 in
theorem work_zero (op a : Int) (w : World) (hop : op = 47 ∨ op = 109) (ha1 : -9223372036854775807 ≤ a) (ha2 : a ≤ 9223372036854775807) :
    Calls Tryz.prog 53 #[.int .u8 op, .int .i64 a, .int .i64 0] w fun e w' => e = .returned (.tuple #[.int .i64 0, .int .i64 7]) ∧ Below w.heap.size w w' := by
  have c1 := hidd (two_of a 0 w ha1 ha2 (by omega) (by omega))
  have ha : (a == -9223372036854775808) = false := by simp; omega
  clear ha1 ha2
  rcases hop with rfl | rfl
  all_goals
    go_enter Tryz.func53, Tryz.ntmps53
    go_wp2_with fail
    refine c1.out.mono ?_
    rintro e w1 ⟨c, l, k, q, rfl, c2⟩
    go_wp2_with fail
    refine c2.out.mono ?_
    rintro e w2 ⟨c', l', k', q', rfl, H⟩
    go_wp2_with fail
    go_ret2
    exact ⟨rfl, H.out.below⟩
end Go.Proofs.YtjbkjeabobccaabGreatDoor
namespace Go.Proofs.YtjbkjeabobccaabGreatDoor
open Go.RowKit Go.Sort Go.Lib

def mulR (a b : Int) : Int × Int := if a < -9223372036854775807 ∨ b < -9223372036854775807 then (0, 6) else signed (near ((a.natAbs : Int) * b.natAbs) 1000000) (decide (a < 0) != decide (b < 0))

set_option maxHeartbeats 400000 in
theorem isNumber_no (n : Int) (w : World) (h1 : n < -9223372036854775807) :
    Calls Tryz.prog 69 #[.int .i64 n] w fun e w' => e = .returned (.bool false) ∧ w' = w := by
  go_enter Tryz.func69, Tryz.ntmps69
  go_wp2
  go_ret
  exact ⟨ret_bool (by simp; omega), rfl⟩

set_option maxHeartbeats 1000000 in
theorem mul_any (a b : Int) (w : World) (ha : a ≤ 9223372036854775807) (hb : b ≤ 9223372036854775807) :
    Calls Tryz.prog 78 #[.int .i64 a, .int .i64 b] w fun e w' => e = .returned (.tuple #[.int .i64 (mulR a b).1, .int .i64 (mulR a b).2]) ∧ ∃ n, w' = w.drewN n := by
  by_cases h1 : -9223372036854775807 ≤ a
  · by_cases h2 : -9223372036854775807 ≤ b
    · rw [show mulR a b = signed (near ((a.natAbs : Int) * b.natAbs) 1000000) (decide (a < 0) != decide (b < 0)) from if_neg (by omega)]
      have cs0 := fun sg w => scaled_any (a.natAbs : Int) b.natAbs 1000000 sg w (by omega) (by omega) (by omega) (by omega) (by omega) (by omega)
      have ca0 := fun w => sizeOf_any a w h1 ha
      have cb0 := fun w => sizeOf_any b w h2 hb
      obtain ⟨p, ep⟩ : ∃ p, (near ((a.natAbs : Int) * b.natAbs) 1000000) = p := ⟨_, rfl⟩
      rw [ep] at cs0 ⊢
      obtain ⟨x, ex⟩ : ∃ x, (a.natAbs : Int) = x := ⟨_, rfl⟩
      obtain ⟨y, ey⟩ : ∃ x, (b.natAbs : Int) = x := ⟨_, rfl⟩
      rw [ex] at ca0 cs0
      rw [ey] at cb0 cs0
      have cs : Hid (∀ sg w, _) := cs0
      have ca : Hid (∀ w, _) := ca0
      have cb : Hid (∀ w, _) := cb0
      have n1 : Hid (∀ w, _) := fun w => isNumber_yes a w h1
      have n2 : Hid (∀ w, _) := fun w => isNumber_yes b w h2
      clear cs0 ca0 cb0 ep ex ey
      go_enter Tryz.func78, Tryz.ntmps78
      go_wp2_with fail
      refine (n1.out _).mono ?_
      rintro e w' ⟨rfl, rfl⟩
      go_wp2_with fail
      refine (n2.out _).mono ?_
      rintro e w' ⟨rfl, rfl⟩
      go_wp2_with fail
      refine (ca.out _).mono ?_
      rintro e w' ⟨rfl, rfl⟩
      go_wp2_with fail
      refine (cb.out _).mono ?_
      rintro e w' ⟨rfl, rfl⟩
      go_wp2_with fail
      refine (cs.out _ _).mono ?_
      rintro e w' ⟨rfl, n, rfl⟩
      go_wp2_with fail
      go_ret2
      exact ⟨rfl, n, rfl⟩
    · rw [show mulR a b = (0, 6) from if_pos (by omega)]
      have n1 : Hid (∀ w, _) := fun w => isNumber_yes a w h1
      have n2 : Hid (∀ w, _) := fun w => isNumber_no b w (by omega)
      go_enter Tryz.func78, Tryz.ntmps78
      go_wp2_with fail
      refine (n1.out _).mono ?_
      rintro e w' ⟨rfl, rfl⟩
      go_wp2_with fail
      refine (n2.out _).mono ?_
      rintro e w' ⟨rfl, rfl⟩
      go_wp2_with fail
      go_ret2
      exact ⟨rfl, 0, rfl⟩
  · rw [show mulR a b = (0, 6) from if_pos (by omega)]
    have n1 : Hid (∀ w, _) := fun w => isNumber_no a w (by omega)
    go_enter Tryz.func78, Tryz.ntmps78
    go_wp2_with fail
    refine (n1.out _).mono ?_
    rintro e w' ⟨rfl, rfl⟩
    go_wp2_with fail
    go_ret2
    exact ⟨rfl, 0, rfl⟩

theorem mulR_comm (a b : Int) : mulR a b = mulR b a := by
  unfold mulR
  rw [Int.mul_comm, show (decide (a < 0) != decide (b < 0)) = (decide (b < 0) != decide (a < 0)) from by cases decide (a < 0) <;> cases decide (b < 0) <;> rfl]
  by_cases h : a < -9223372036854775807 ∨ b < -9223372036854775807
  · rw [if_pos h, if_pos (by omega)]
  · rw [if_neg h, if_neg (by omega)]
end Go.Proofs.YtjbkjeabobccaabGreatDoor
namespace Go.Proofs.YtjbkjeabobccaabGreatDoor
open Go.RowKit Go.Sort Go.Lib
set_option linter.unusedVariables false

theorem workPlus (a b : Int) (w : World) (ha1 : -9223372036854775808 ≤ a) (ha2 : a ≤ 9223372036854775807) (hb1 : -9223372036854775808 ≤ b) (hb2 : b ≤ 9223372036854775807) :
    Calls Tryz.prog 53 #[.int .u8 43, .int .i64 a, .int .i64 b] w fun e w' => e = .returned (.tuple #[.int .i64 (addR a b).1, .int .i64 (addR a b).2]) ∧ Below w.heap.size w w' := by
  by_cases h : a = -9223372036854775808 ∨ b = -9223372036854775808
  · rw [show addR a b = (0, 6) from if_pos (by omega)]
    refine (work_bad 43 a b w h).mono ?_
    rintro e w' ⟨rfl, rfl⟩
    exact ⟨rfl, Below.refl _ _⟩
  · have : addR a b = tz (a + b) := by
      unfold addR tz
      split <;> split <;> first | rfl | omega
    rw [this]
    exact work_plus a b w (by omega) ha2 (by omega) hb2
theorem workMinus (a b : Int) (w : World) (ha1 : -9223372036854775808 ≤ a) (ha2 : a ≤ 9223372036854775807) (hb1 : -9223372036854775808 ≤ b) (hb2 : b ≤ 9223372036854775807) :
    Calls Tryz.prog 53 #[.int .u8 45, .int .i64 a, .int .i64 b] w fun e w' => e = .returned (.tuple #[.int .i64 (subR a b).1, .int .i64 (subR a b).2]) ∧ Below w.heap.size w w' := by
  by_cases h : a = -9223372036854775808 ∨ b = -9223372036854775808
  · rw [show subR a b = (0, 6) from if_pos (by omega)]
    refine (work_bad 45 a b w h).mono ?_
    rintro e w' ⟨rfl, rfl⟩
    exact ⟨rfl, Below.refl _ _⟩
  · have : subR a b = tz (a - b) := by
      unfold subR tz
      split <;> split <;> first | rfl | omega
    rw [this]
    exact work_minus a b w (by omega) ha2 (by omega) hb2
theorem near_nat (x y : Nat) (hy : 0 < y) : near (x : Int) (y : Int) = (nearN x y : Int) := by
  have e1 : (x : Int) % y = ((x % y : Nat) : Int) := by omega
  have e2 : (x : Int) / y = ((x / y : Nat) : Int) := by omega
  have hm := Nat.mod_lt x hy
  unfold near nearN upN
  rw [e1, e2]
  by_cases h : y < x % y + x % y ∨ (x % y + x % y = y ∧ x / y % 2 = 1)
  · rw [if_pos (by omega), if_pos (by simpa using h)]; omega
  · rw [if_neg (by omega), if_neg (by simpa using h)]
theorem tz_sq (s t : Bool) (Q : Nat) (h : s = t ∨ Q = 0) : tz (sq s Q) = signed (Q : Int) t := by
  unfold tz signed sq
  rcases h with rfl | rfl
  · cases s <;> simp <;> split <;> split <;> first | rfl | omega
  · cases s <;> cases t <;> simp
theorem mulR_eq (a b : Int) (ha1 : -9223372036854775807 ≤ a) (hb1 : -9223372036854775807 ≤ b) : mulR a b = tz (nearZ (a * b) 1000000) := by
  unfold mulR nearZ
  rw [if_neg (by omega), show ((a.natAbs : Int) * b.natAbs) = (((a * b).natAbs : Nat) : Int) by rw [Int.natAbs_mul]; simp, show (1000000 : Int) = ((1000000 : Nat) : Int) from rfl, near_nat _ _ (by omega)]
  symm
  rw [show ((1000000 : Nat) : Int).natAbs = 1000000 from rfl]
  apply tz_sq
  unfold opp
  by_cases h : a.natAbs * b.natAbs = 0
  · right
    rw [Int.natAbs_mul, h]
    decide
  · left
    rw [sign_mul]
    simp [h]
theorem workTimes (a b : Int) (w : World) (ha1 : -9223372036854775808 ≤ a) (ha2 : a ≤ 9223372036854775807) (hb1 : -9223372036854775808 ≤ b) (hb2 : b ≤ 9223372036854775807) :
    Calls Tryz.prog 53 #[.int .u8 42, .int .i64 a, .int .i64 b] w fun e w' => e = .returned (.tuple #[.int .i64 (mulR a b).1, .int .i64 (mulR a b).2]) ∧ Below w.heap.size w w' := by
  by_cases h : a = -9223372036854775808 ∨ b = -9223372036854775808
  · rw [show mulR a b = (0, 6) from if_pos (by omega)]
    refine (work_bad 42 a b w h).mono ?_
    rintro e w' ⟨rfl, rfl⟩
    exact ⟨rfl, Below.refl _ _⟩
  · rw [mulR_eq a b (by omega) (by omega)]
    exact work_times a b w (by omega) ha2 (by omega) hb2
def divR (a b : Int) : Int × Int := if a < -9223372036854775807 ∨ b < -9223372036854775807 then (0, 6) else if b = 0 then (0, 7) else signed (near ((a.natAbs : Int) * 1000000) b.natAbs) (decide (a < 0) != decide (b < 0))
set_option maxHeartbeats 1000000 in
theorem div_any (a b : Int) (w : World) (ha : a ≤ 9223372036854775807) (hb : b ≤ 9223372036854775807) :
    Calls Tryz.prog 79 #[.int .i64 a, .int .i64 b] w fun e w' => e = .returned (.tuple #[.int .i64 (divR a b).1, .int .i64 (divR a b).2]) ∧ ∃ n, w' = w.drewN n := by
  by_cases h1 : -9223372036854775807 ≤ a
  · have n1 := hidd (fun w => isNumber_yes a w h1)
    by_cases h2 : -9223372036854775807 ≤ b
    · have n2 := hidd (fun w => isNumber_yes b w h2)
      by_cases h0 : b = 0
      · subst h0
        rw [show divR a 0 = (0, 7) from by unfold divR; rw [if_neg (by omega), if_pos rfl]]
        clear h1 h2
        go_enter Tryz.func79, Tryz.ntmps79
        go_wp2_with fail
        refine (n1.out _).mono ?_
        rintro e w' ⟨rfl, rfl⟩
        go_wp2_with fail
        refine (n2.out _).mono ?_
        rintro e w' ⟨rfl, rfl⟩
        go_wp2_with fail
        go_ret2
        exact ⟨rfl, 0, rfl⟩
      · rw [show divR a b = signed (near ((a.natAbs : Int) * 1000000) b.natAbs) (decide (a < 0) != decide (b < 0)) from by unfold divR; rw [if_neg (by omega), if_neg h0]]
        have cs0 := fun sg w => scaled_any (a.natAbs : Int) 1000000 b.natAbs sg w (by omega) (by omega) (by omega) (by omega) (by omega) (by omega)
        have ca0 := fun w => sizeOf_any a w h1 ha
        have cb0 := fun w => sizeOf_any b w h2 hb
        have hbz : (b == 0) = false := by simpa using h0
        obtain ⟨p, ep⟩ : ∃ p, (near ((a.natAbs : Int) * 1000000) b.natAbs) = p := ⟨_, rfl⟩
        rw [ep] at cs0 ⊢
        obtain ⟨x, ex⟩ : ∃ x, (a.natAbs : Int) = x := ⟨_, rfl⟩
        obtain ⟨y, ey⟩ : ∃ x, (b.natAbs : Int) = x := ⟨_, rfl⟩
        rw [ex] at ca0 cs0
        rw [ey] at cb0 cs0
        have cs := hidd cs0
        have ca := hidd ca0
        have cb := hidd cb0
        clear cs0 ca0 cb0 ep ex ey h0
        go_enter Tryz.func79, Tryz.ntmps79
        go_wp2_with fail
        refine (n1.out _).mono ?_
        rintro e w' ⟨rfl, rfl⟩
        go_wp2_with fail
        refine (n2.out _).mono ?_
        rintro e w' ⟨rfl, rfl⟩
        go_wp2_with fail
        refine (ca.out _).mono ?_
        rintro e w' ⟨rfl, rfl⟩
        go_wp2_with fail
        refine (cb.out _).mono ?_
        rintro e w' ⟨rfl, rfl⟩
        go_wp2_with fail
        refine (cs.out _ _).mono ?_
        rintro e w' ⟨rfl, n, rfl⟩
        go_wp2_with fail
        go_ret2
        exact ⟨rfl, n, rfl⟩
    · rw [show divR a b = (0, 6) from if_pos (by omega)]
      have n2 := hidd (fun w => isNumber_no b w (by omega))
      go_enter Tryz.func79, Tryz.ntmps79
      go_wp2_with fail
      refine (n1.out _).mono ?_
      rintro e w' ⟨rfl, rfl⟩
      go_wp2_with fail
      refine (n2.out _).mono ?_
      rintro e w' ⟨rfl, rfl⟩
      go_wp2_with fail
      go_ret2
      exact ⟨rfl, 0, rfl⟩
  · rw [show divR a b = (0, 6) from if_pos (by omega)]
    have n1 := hidd (fun w => isNumber_no a w (by omega))
    go_enter Tryz.func79, Tryz.ntmps79
    go_wp2_with fail
    refine (n1.out _).mono ?_
    rintro e w' ⟨rfl, rfl⟩
    go_wp2_with fail
    go_ret2
    exact ⟨rfl, 0, rfl⟩
theorem divR_eq (a b : Int) (ha1 : -9223372036854775807 ≤ a) (hb1 : -9223372036854775807 ≤ b) (h0 : b ≠ 0) : divR a b = tz (nearZ (a * 1000000) b) := by
  unfold divR nearZ
  rw [if_neg (by omega), if_neg h0, show ((a.natAbs : Int) * 1000000) = (((a * 1000000).natAbs : Nat) : Int) by rw [Int.natAbs_mul]; simp, near_nat _ _ (by omega)]
  symm
  apply tz_sq
  left
  unfold opp
  rw [show decide (a * 1000000 < 0) = decide (a < 0) from decide_eq_decide.2 (by omega)]
theorem workDiv (a b : Int) (w : World) (ha1 : -9223372036854775808 ≤ a) (ha2 : a ≤ 9223372036854775807) (hb1 : -9223372036854775808 ≤ b) (hb2 : b ≤ 9223372036854775807) :
    Calls Tryz.prog 53 #[.int .u8 47, .int .i64 a, .int .i64 b] w fun e w' => e = .returned (.tuple #[.int .i64 (divR a b).1, .int .i64 (divR a b).2]) ∧ Below w.heap.size w w' := by
  by_cases h : a = -9223372036854775808 ∨ b = -9223372036854775808
  · rw [show divR a b = (0, 6) from if_pos (by omega)]
    refine (work_bad 47 a b w h).mono ?_
    rintro e w' ⟨rfl, rfl⟩
    exact ⟨rfl, Below.refl _ _⟩
  · by_cases h0 : b = 0
    · subst h0
      rw [show divR a 0 = (0, 7) from by unfold divR; rw [if_neg (by omega), if_pos rfl]]
      exact work_zero 47 a w (.inl rfl) (by omega) ha2
    · rw [divR_eq a b (by omega) (by omega) h0]
      exact work_div a b w (by omega) ha2 (by omega) hb2 h0
end Go.Proofs.YtjbkjeabobccaabGreatDoor
namespace Go.Proofs.YtjbkjeabobccaabGreatDoor
open Go.RowKit Go.Lib
set_option linter.unusedVariables false

/-- One number multiplied so many times, each product rounded; the error. -/
def powN (M : Int → Int → Int × Int) (a : Int) : Nat → Int × Int
  | 0 => (1000000, 0)
  | k + 1 => if (powN M a k).2 = 0 then M (powN M a k).1 a else (0, (powN M a k).2)
def powR (M V : Int → Int → Int × Int) (a b : Int) : Int × Int :=
  if b % 1000000 ≠ 0 ∨ b < -64000000 ∨ 64000000 < b then (0, 6)
  else if (powN M a (b.natAbs / 1000000)).2 ≠ 0 then (0, (powN M a (b.natAbs / 1000000)).2)
  else if b < 0 then V 1000000 (powN M a (b.natAbs / 1000000)).1 else ((powN M a (b.natAbs / 1000000)).1, 0)
/-- What the two workings keep to. -/
structure Wk (M : Int → Int → Int × Int) : Prop where
  lo : ∀ x y, -9223372036854775807 ≤ (M x y).1
  hi : ∀ x y, (M x y).1 ≤ 9223372036854775807
theorem powN_bd {M : Int → Int → Int × Int} (h : Wk M) (a : Int) : ∀ k, -9223372036854775807 ≤ (powN M a k).1 ∧ (powN M a k).1 ≤ 9223372036854775807
  | 0 => by simp [powN]
  | k + 1 => by
    unfold powN
    split
    · exact ⟨h.lo _ _, h.hi _ _⟩
    · simp
theorem powN_err {M : Int → Int → Int × Int} (a : Int) (k m : Nat) (h : (powN M a k).2 ≠ 0) (hm : k ≤ m) : (powN M a m).2 = (powN M a k).2 := by
  induction m with
  | zero => obtain rfl : k = 0 := by omega
            rfl
  | succ m ih =>
    by_cases hk : k = m + 1
    · rw [hk]
    · have := ih (by omega)
      rw [powN, if_neg (by rw [this]; exact h)]
      exact this
theorem powR_bd {M V : Int → Int → Int × Int} (h : Wk M) (g : Wk V) (a b : Int) : -9223372036854775807 ≤ (powR M V a b).1 ∧ (powR M V a b).1 ≤ 9223372036854775807 := by
  unfold powR
  split
  · simp
  · split
    · simp
    · split
      · exact ⟨g.lo _ _, g.hi _ _⟩
      · exact powN_bd h a _
/-- No comparison. -/
structure NoCmp (op : ByteArray) : Prop where
  c1 : (op.toList == [61]) = false
  c2 : (op.toList == [60, 62]) = false
  c3 : (op.toList == [60]) = false
  c4 : (op.toList == [60, 61]) = false
  c5 : (op.toList == [62]) = false
  c6 : (op.toList == [62, 61]) = false
/-- No sign that works on numbers, and not that which joins. -/
structure NoCalc (op : ByteArray) : Prop where
  b1 : (op.toList == [43]) = false
  b2 : (op.toList == [45]) = false
  b3 : (op.toList == [42]) = false
  b4 : (op.toList == [47]) = false
  b5 : (op.toList == [94]) = false
  b6 : (op.toList == [38]) = false
end Go.Proofs.YtjbkjeabobccaabGreatDoor
namespace Go.Proofs.YtjbkjeabobccaabGreatDoor
open Go.RowKit Go.Lib
set_option linter.unusedVariables false
theorem hidp {p : Prop} (h : p) : Hid p := h
theorem belN {w w' : World} {B : Nat} (h : Below B w w') (n : Nat) : Below B w (w'.drewN n) := ⟨h.os, h.tape, h.output, h.size, h.block⟩
theorem tmod_zero {b : Int} (h : b % 1000000 = 0) : b.tmod 1000000 = 0 := Int.tmod_eq_zero_of_dvd (Int.dvd_of_emod_eq_zero h)
theorem tmod_nonzero {b : Int} (h : b % 1000000 ≠ 0) : ¬ b.tmod 1000000 = 0 := fun e => h (Int.emod_eq_zero_of_dvd (Int.dvd_of_tmod_eq_zero e))
theorem tdiv_pos {b : Int} (h0 : 0 ≤ b) : b.tdiv 1000000 = ((b.natAbs / 1000000 : Nat) : Int) := by rw [Int.tdiv_eq_ediv_of_nonneg h0]; omega
theorem tdiv_neg {b : Int} (h0 : b < 0) : (-b).tdiv 1000000 = ((b.natAbs / 1000000 : Nat) : Int) := by rw [Int.tdiv_eq_ediv_of_nonneg (by omega)]; omega

set_option maxHeartbeats 2000000 in
theorem power_bad1 (a b : Int) (w : World) (hb1 : -9223372036854775808 ≤ b) (hb2 : b ≤ 9223372036854775807) (h : b % 1000000 ≠ 0) :
    Calls Tryz.prog 80 #[.int .i64 a, .int .i64 b] w fun e w' => e = .returned (.tuple #[.int .i64 0, .int .i64 6]) ∧ w' = w := by
  have e0 := tmod_nonzero h
  clear h
  go_enter Tryz.func80, Tryz.ntmps80
  go_wp2_with fail
  go_ret2
  exact ⟨rfl, rfl⟩
set_option maxHeartbeats 2000000 in
theorem power_bad2 (a b : Int) (w : World) (hb1 : -9223372036854775808 ≤ b) (hb2 : b ≤ 9223372036854775807) (h : b % 1000000 = 0) (h2 : b < -64000000 ∨ 64000000 < b) :
    Calls Tryz.prog 80 #[.int .i64 a, .int .i64 b] w fun e w' => e = .returned (.tuple #[.int .i64 0, .int .i64 6]) ∧ w' = w := by
  have e0 := tmod_zero h
  clear h
  rcases h2 with h2 | h2
  all_goals
    go_enter Tryz.func80, Tryz.ntmps80
    go_wp2_with fail
    go_ret2
    exact ⟨rfl, rfl⟩

set_option maxHeartbeats 4000000 in
theorem power_pos (M V : Int → Int → Int × Int) (hM : Wk M) (a b : Int)
    (hm : ∀ x w, x ≤ 9223372036854775807 → Calls Tryz.prog 78 #[.int .i64 x, .int .i64 a] w fun e w' => e = .returned (.tuple #[.int .i64 (M x a).1, .int .i64 (M x a).2]) ∧ ∃ n, w' = w.drewN n)
    (w : World) (h0 : b % 1000000 = 0) (h1 : 0 ≤ b) (h2 : b ≤ 64000000) :
    Calls Tryz.prog 80 #[.int .i64 a, .int .i64 b] w fun e w' => e = .returned (.tuple #[.int .i64 (powR M V a b).1, .int .i64 (powR M V a b).2]) ∧ Below w.heap.size w w' := by
  have e0 := tmod_zero h0
  have hq := tdiv_pos h1
  have hx : max b (-b) = b := by omega
  have hq2 : b / 1000000 = ((b.natAbs / 1000000 : Nat) : Int) := by omega
  obtain ⟨k, ek⟩ : ∃ k, b.natAbs / 1000000 = k := ⟨_, rfl⟩
  rw [ek] at hq hq2
  have hk : k ≤ 64 := by omega
  have HR : Hid (powR M V a b = if (powN M a k).2 ≠ 0 then (0, (powN M a k).2) else ((powN M a k).1, 0)) := by
    show _ = _
    unfold powR
    rw [if_neg (by omega), ek, if_neg (show ¬ b < 0 by omega)]
  obtain ⟨R, eR⟩ : ∃ R, powR M V a b = R := ⟨_, rfl⟩
  rw [eR] at HR ⊢
  have cm := hidp hm
  have HB := hidp (powN_bd hM a)
  clear hm hM h0 ek eR
  go_enter Tryz.func80, Tryz.ntmps80
  go_wp2_with fail
  go_loopw [6, 7, 24] (fun p e i wr => ∃ j : Nat, j ≤ k ∧ i = .int .i64 j ∧ p = .int .i64 (powN M a j).1 ∧ e = .int .i64 0 ∧ Hid ((powN M a j).2 = 0) ∧ Hid (Below w.heap.size w wr)) (fun _ _ i _ => k - (RowKit.intOf i).toNat)
  case atStart => exact ⟨0, Nat.zero_le _, rfl, rfl, rfl, rfl, Below.refl _ _⟩
  case round =>
    obtain ⟨j, hj, rfl, rfl, rfl, HZ, HW⟩ := hrel
    by_cases hlt : j < k
    · have c1 := hidp (fun w => cm.out (powN M a j).1 w (HB.out j).2)
      have e1 : Hid (powN M a (j + 1) = M (powN M a j).1 a) := by show _ = _; rw [powN, if_pos HZ.out]
      have e2 : Hid ((powN M a (j + 1)).2 ≠ 0 → (powN M a k).2 = (powN M a (j + 1)).2) := by show _ → _; exact fun h => powN_err a (j + 1) k h (by omega)
      generalize powN M a j = P at c1 e1 HZ
      obtain ⟨P1, P2⟩ := P
      generalize M P1 a = S at c1 e1
      obtain ⟨S1, S2⟩ := S
      go_wp2_with fail
      refine (c1.out _).mono ?_
      rintro e w5 ⟨rfl, n, rfl⟩
      by_cases g : S2 = 0
      · subst g
        go_wp2_with fail
        go_roundw
        case rel => exact ⟨j + 1, by omega, by go_num, by rw [e1.out], rfl, by show _ = _; rw [e1.out], belN HW.out _⟩
        case measure => simp [RowKit.intOf]; omega
      · have q1 : (S2 == 0) = false := by simpa using g
        have VR : Hid (R = (0, S2)) := by
          show _ = _
          have e3 := e2.out (by rw [e1.out]; exact g)
          rw [e1.out] at e3
          rw [HR.out, e3, if_pos g]
        clear g
        go_wp2_with fail
        go_ret2
        exact ⟨by rw [VR.out]; rfl, belN HW.out _⟩
    · obtain rfl : j = k := by omega
      have VR : Hid (R = ((powN M a j).1, 0)) := by show _ = _; rw [HR.out, if_neg (by rw [HZ.out]; simp)]
      generalize (powN M a j).1 = P1 at VR ⊢
      go_wp2_with fail
      go_ret2
      exact ⟨by rw [VR.out]; rfl, HW.out⟩

set_option maxHeartbeats 4000000 in
theorem power_neg (M V : Int → Int → Int × Int) (hM : Wk M) (a b : Int)
    (hm : ∀ x w, x ≤ 9223372036854775807 → Calls Tryz.prog 78 #[.int .i64 x, .int .i64 a] w fun e w' => e = .returned (.tuple #[.int .i64 (M x a).1, .int .i64 (M x a).2]) ∧ ∃ n, w' = w.drewN n)
    (hv : ∀ x w, x ≤ 9223372036854775807 → Calls Tryz.prog 79 #[.int .i64 1000000, .int .i64 x] w fun e w' => e = .returned (.tuple #[.int .i64 (V 1000000 x).1, .int .i64 (V 1000000 x).2]) ∧ ∃ n, w' = w.drewN n)
    (w : World) (h0 : b % 1000000 = 0) (h1 : -64000000 ≤ b) (h2 : b < 0) :
    Calls Tryz.prog 80 #[.int .i64 a, .int .i64 b] w fun e w' => e = .returned (.tuple #[.int .i64 (powR M V a b).1, .int .i64 (powR M V a b).2]) ∧ Below w.heap.size w w' := by
  have e0 := tmod_zero h0
  have hq := tdiv_neg h2
  have hx : max b (-b) = -b := by omega
  have hq2 : -b / 1000000 = ((b.natAbs / 1000000 : Nat) : Int) := by omega
  obtain ⟨k, ek⟩ : ∃ k, b.natAbs / 1000000 = k := ⟨_, rfl⟩
  rw [ek] at hq hq2
  have hk : k ≤ 64 := by omega
  have HR : Hid (powR M V a b = if (powN M a k).2 ≠ 0 then (0, (powN M a k).2) else V 1000000 (powN M a k).1) := by
    show _ = _
    unfold powR
    rw [if_neg (by omega), ek, if_pos h2]
  obtain ⟨R, eR⟩ : ∃ R, powR M V a b = R := ⟨_, rfl⟩
  rw [eR] at HR ⊢
  have cm := hidp hm
  have cv := hidp hv
  have HB := hidp (powN_bd hM a)
  clear hm hM h0 ek eR hv
  go_enter Tryz.func80, Tryz.ntmps80
  go_wp2_with fail
  go_loopw [6, 7, 24] (fun p e i wr => ∃ j : Nat, j ≤ k ∧ i = .int .i64 j ∧ p = .int .i64 (powN M a j).1 ∧ e = .int .i64 0 ∧ Hid ((powN M a j).2 = 0) ∧ Hid (Below w.heap.size w wr)) (fun _ _ i _ => k - (RowKit.intOf i).toNat)
  case atStart => exact ⟨0, Nat.zero_le _, rfl, rfl, rfl, rfl, Below.refl _ _⟩
  case round =>
    obtain ⟨j, hj, rfl, rfl, rfl, HZ, HW⟩ := hrel
    by_cases hlt : j < k
    · have c1 := hidp (fun w => cm.out (powN M a j).1 w (HB.out j).2)
      have e1 : Hid (powN M a (j + 1) = M (powN M a j).1 a) := by show _ = _; rw [powN, if_pos HZ.out]
      have e2 : Hid ((powN M a (j + 1)).2 ≠ 0 → (powN M a k).2 = (powN M a (j + 1)).2) := by show _ → _; exact fun h => powN_err a (j + 1) k h (by omega)
      generalize powN M a j = P at c1 e1 HZ
      obtain ⟨P1, P2⟩ := P
      generalize M P1 a = S at c1 e1
      obtain ⟨S1, S2⟩ := S
      go_wp2_with fail
      refine (c1.out _).mono ?_
      rintro e w5 ⟨rfl, n, rfl⟩
      by_cases g : S2 = 0
      · subst g
        go_wp2_with fail
        go_roundw
        case rel => exact ⟨j + 1, by omega, by go_num, by rw [e1.out], rfl, by show _ = _; rw [e1.out], belN HW.out _⟩
        case measure => simp [RowKit.intOf]; omega
      · have q1 : (S2 == 0) = false := by simpa using g
        have VR : Hid (R = (0, S2)) := by
          show _ = _
          have e3 := e2.out (by rw [e1.out]; exact g)
          rw [e1.out] at e3
          rw [HR.out, e3, if_pos g]
        clear g
        go_wp2_with fail
        go_ret2
        exact ⟨by rw [VR.out]; rfl, belN HW.out _⟩
    · obtain rfl : j = k := by omega
      have c2 := hidp (fun w => cv.out (powN M a j).1 w (HB.out j).2)
      have VR : Hid (R = V 1000000 (powN M a j).1) := by show _ = _; rw [HR.out, if_neg (by rw [HZ.out]; simp)]
      generalize (powN M a j).1 = P1 at c2 VR ⊢
      generalize V 1000000 P1 = S at c2 VR
      obtain ⟨S1, S2⟩ := S
      go_wp2_with fail
      refine (c2.out _).mono ?_
      rintro e w5 ⟨rfl, n, rfl⟩
      go_wp2_with fail
      go_ret2
      exact ⟨by rw [VR.out]; rfl, belN HW.out _⟩

theorem power_any (M V : Int → Int → Int × Int) (hM : Wk M) (a b : Int) (hb1 : -9223372036854775808 ≤ b) (hb2 : b ≤ 9223372036854775807)
    (hm : ∀ x w, x ≤ 9223372036854775807 → Calls Tryz.prog 78 #[.int .i64 x, .int .i64 a] w fun e w' => e = .returned (.tuple #[.int .i64 (M x a).1, .int .i64 (M x a).2]) ∧ ∃ n, w' = w.drewN n)
    (hv : ∀ x w, x ≤ 9223372036854775807 → Calls Tryz.prog 79 #[.int .i64 1000000, .int .i64 x] w fun e w' => e = .returned (.tuple #[.int .i64 (V 1000000 x).1, .int .i64 (V 1000000 x).2]) ∧ ∃ n, w' = w.drewN n)
    (w : World) :
    Calls Tryz.prog 80 #[.int .i64 a, .int .i64 b] w fun e w' => e = .returned (.tuple #[.int .i64 (powR M V a b).1, .int .i64 (powR M V a b).2]) ∧ Below w.heap.size w w' := by
  by_cases h : b % 1000000 ≠ 0
  · rw [show powR M V a b = (0, 6) from if_pos (.inl h)]
    exact (power_bad1 a b w hb1 hb2 h).mono (by rintro e w' ⟨rfl, rfl⟩; exact ⟨rfl, Below.refl _ _⟩)
  · have h : b % 1000000 = 0 := by omega
    by_cases h2 : b < -64000000 ∨ 64000000 < b
    · rw [show powR M V a b = (0, 6) from if_pos (.inr h2)]
      exact (power_bad2 a b w hb1 hb2 h h2).mono (by rintro e w' ⟨rfl, rfl⟩; exact ⟨rfl, Below.refl _ _⟩)
    · by_cases h3 : 0 ≤ b
      · exact power_pos M V hM a b hm w h h3 (by omega)
      · exact power_neg M V hM a b hm hv w h (by omega) (by omega)
end Go.Proofs.YtjbkjeabobccaabGreatDoor
