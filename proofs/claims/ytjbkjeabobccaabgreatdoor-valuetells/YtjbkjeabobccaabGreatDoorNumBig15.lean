import Derived.Test.YtjbkjeabobccaabGreatDoorNumBig14
import Derived.Test.YtjbkjeabobccaabGreatDoorNumBig13
import Derived.Deep.LoopGhost
namespace Go.Proofs.YtjbkjeabobccaabGreatDoor
open Go.RowKit
set_option linter.unusedVariables false

theorem repr_one : repr 1 = [1] := by rw [repr_pos (by omega)]; rfl
theorem len_one : (repr 1).length = 1 := by rw [repr_one]; rfl
theorem rowIs_one (W : World) (T : TypeId) {n : Nat} (hn : W.heap.size = n) : RowIs (W.alloc (.cells #[.int .i64 1] T)) (some ⟨n, 0, none⟩) 1 (repr 1) := by
  subst hn
  rw [repr_one]
  refine ⟨by simp, by unfold maxLen; omega, fun j hj => ⟨W.heap.size, rfl, ?_⟩⟩
  obtain rfl : j = 0 := by simpa using hj
  rw [World.cell?_alloc_at _ _ _ _ rfl]
  rfl
/-- What the halving keeps. -/
def QuoAt (x y lo hi : Nat) : Prop := lo * y ≤ x ∧ x < hi * y ∧ lo < hi ∧ hi ≤ x + 1
theorem QuoAt.done {x y lo hi : Nat} (h : QuoAt x y lo hi) (hg : hi - lo ≤ 1) : lo = x / y := by
  obtain ⟨h1, h2, h3, h4⟩ := h
  have : hi = lo + 1 := by omega
  subst this
  exact (Nat.div_eq_of_lt_le h1 h2).symm
theorem QuoAt.low {x y lo hi : Nat} (h : QuoAt x y lo hi) (hg : 1 < hi - lo) (hm : (lo + hi) / 2 * y ≤ x) : QuoAt x y ((lo + hi) / 2) hi ∧ hi - (lo + hi) / 2 < hi - lo := by
  obtain ⟨h1, h2, h3, h4⟩ := h
  exact ⟨⟨hm, h2, by omega, h4⟩, by omega⟩
theorem QuoAt.high {x y lo hi : Nat} (h : QuoAt x y lo hi) (hg : 1 < hi - lo) (hm : x < (lo + hi) / 2 * y) : QuoAt x y lo ((lo + hi) / 2) ∧ (lo + hi) / 2 - lo < hi - lo := by
  obtain ⟨h1, h2, h3, h4⟩ := h
  exact ⟨⟨h1, hm, by omega, by omega⟩, by omega⟩

theorem times_len {x y : Nat} (hx : x < 10000 ^ 40) (hy : y < 10000 ^ 40) : (repr x).length + (repr y).length ≤ 1000000000000 := by
  have := repr_len_le 40 x hx
  have := repr_len_le 40 y hy
  omega

theorem sign_mul (x y : Int) : decide (x * y < 0) = ((decide (x < 0) != decide (y < 0)) && decide (x.natAbs * y.natAbs ≠ 0)) := by
  rcases Int.lt_trichotomy x 0 with hx | hx | hx
  · rcases Int.lt_trichotomy y 0 with hy | hy | hy
    · have := Int.mul_pos_of_neg_of_neg hx hy
      simp [hx, hy]; omega
    · subst hy; simp
    · have := Int.mul_neg_of_neg_of_pos hx hy
      have h1 : ¬ y < 0 := by omega
      have h2 : x.natAbs * y.natAbs ≠ 0 := Nat.mul_ne_zero (by omega) (by omega)
      rw [show decide (x * y < 0) = true by simpa using this, show decide (x < 0) = true by simpa using hx, show decide (y < 0) = false by simpa using h1, show decide (x.natAbs * y.natAbs ≠ 0) = true by simpa using h2]
      rfl
  · subst hx; simp
  · rcases Int.lt_trichotomy y 0 with hy | hy | hy
    · have := Int.mul_neg_of_pos_of_neg hx hy
      have h1 : ¬ x < 0 := by omega
      have h2 : x.natAbs * y.natAbs ≠ 0 := Nat.mul_ne_zero (by omega) (by omega)
      rw [show decide (x * y < 0) = true by simpa using this, show decide (x < 0) = false by simpa using h1, show decide (y < 0) = true by simpa using hy, show decide (x.natAbs * y.natAbs ≠ 0) = true by simpa using h2]
      rfl
    · subst hy; simp
    · have := Int.mul_pos hx hy
      have h1 : ¬ x < 0 := by omega
      have h2 : ¬ y < 0 := by omega
      have h3 : ¬ x * y < 0 := by omega
      simp [h1, h2, h3]
theorem times_any (w : World) (u v : Value) (x y : Int) (hu : BigIs w u x) (hv : BigIs w v y) (hx : x.natAbs < 10000 ^ 40) (hy : y.natAbs < 10000 ^ 40) :
    Calls Tryz.prog 65 #[u, v] w fun e w1 => ∃ c l k q, e = .returned (.agg #[.slice c l k, .bool q]) ∧ BigIs w1 (.agg #[.slice c l k, .bool q]) (x * y) ∧ Below w.heap.size w w1 := by
  obtain ⟨a, ca, rfl, ha⟩ := hu
  obtain ⟨b, cb, rfl, hb⟩ := hv
  refine (times_rows w a b ca cb _ _ _ _ ha hb (times_len hx hy)).mono ?_
  rintro e w1 ⟨⟨c, k, rfl, hR⟩, hB⟩
  refine ⟨c, _, k, _, rfl, ⟨c, k, ?_, ?_⟩, hB⟩
  · rw [sign_mul, Int.natAbs_mul]
  · rw [Int.natAbs_mul]; exact hR

set_option maxHeartbeats 8000000 in
theorem quo_any (w : World) (a b : Option Addr) (ca cb x y : Nat) (ha : RowIs w a ca (repr x)) (hb : RowIs w b cb (repr y)) (hx : x < 10000 ^ 30) (hy : y < 10000 ^ 30) (hy0 : 0 < y) :
    Calls Tryz.prog 112 #[.slice a (repr x).length ca, .slice b (repr y).length cb] w fun e w' =>
      (∃ v cap, e = .returned (.slice v (repr (x / y)).length cap) ∧ RowIs w' v cap (repr (x / y))) ∧ Below w.heap.size w w' := by
  have HA := hidd ha
  have HB := hidd hb
  have HX := hidd hx
  have HY := hidd hy
  have HY0 := hidd hy0
  clear ha hb hx hy hy0
  obtain ⟨la, ea⟩ : ∃ l, (repr x).length = l := ⟨_, rfl⟩
  obtain ⟨lb, eb⟩ : ∃ l, (repr y).length = l := ⟨_, rfl⟩
  rw [ea, eb]
  have EA := hidd ea
  have EB := hidd eb
  clear ea eb
  go_enter Tryz.func112, Tryz.ntmps112
  go_wp2_with fail
  have hbel0 : Below w.heap.size w ((w.alloc (.cells #[] 3)).alloc (.cells #[.int .i64 1] 3)) := ((Below.refl _ _).alloc (Nat.le_refl _) _).alloc (by simp) _
  have cp0 := plus_any ((w.alloc (.cells #[] 3)).alloc (.cells #[.int .i64 1] 3)) a (some ⟨w.heap.size + 1, 0, none⟩) ca 1 x 1 (HA.out.step hbel0) (rowIs_one _ _ (by simp)) (len_small _ (by have := HX.out; omega))
  rw [EA.out, len_one] at cp0
  refine cp0.mono ?_
  clear cp0
  rintro e w1 ⟨⟨ah, ch, rfl, hR⟩, hb1⟩
  obtain ⟨lh, elh⟩ : ∃ l, (repr (x + 1)).length = l := ⟨_, rfl⟩
  rw [elh]
  have H0 : Hid (lh = (repr (x + 1)).length ∧ RowIs w1 ah ch (repr (x + 1)) ∧ Below w.heap.size w w1) := ⟨elh.symm, hR, key2 hbel0 hb1⟩
  clear elh hR hb1 hbel0
  go_wp2_with fail
  go_loopg [5, 6] (x + 1) (fun g s5 s6 wr => ∃ (lo hi : Nat) (al ah : Option Addr) (ll cl lh ch : Nat), s5 = .slice al ll cl ∧ s6 = .slice ah lh ch ∧ Hid (g = hi - lo ∧ QuoAt x y lo hi ∧ ll = (repr lo).length ∧ lh = (repr hi).length ∧ RowIs wr al cl (repr lo) ∧ RowIs wr ah ch (repr hi)) ∧ Below w.heap.size w wr)
  case atStart =>
    refine ⟨0, x + 1, _, ah, 0, 0, lh, ch, rfl, rfl, ⟨by omega, ⟨by omega, ?_, by omega, by omega⟩, rfl, H0.out.1, RowIs.nil (by unfold maxLen; omega), H0.out.2.1⟩, H0.out.2.2⟩
    have := HY0.out
    have : (x + 1) * 1 ≤ (x + 1) * y := Nat.mul_le_mul_left _ this
    omega
  case round =>
    clear H0
    obtain ⟨lo, hi, al, ah, ll, cl, lh, ch, rfl, rfl, H, hbel⟩ := hrel
    have HBL := hidd hbel
    clear hbel
    have cm0 := minus_any wr ah al ch cl hi lo H.out.2.2.2.2.2 H.out.2.2.2.2.1 (by have := H.out.2.1.2.2.1; omega) (len_small _ (by have := H.out.2.1.2.2.2; have := HX.out; omega))
    rw [← H.out.2.2.1, ← H.out.2.2.2.1] at cm0
    have cm := hidd cm0
    clear cm0
    go_wp2_with fail
    refine cm.out.mono ?_
    rintro e w2 ⟨⟨vg, cg, rfl, hRg⟩, hb2⟩
    have co0 := order_any (w2.alloc (.cells #[.int .i64 1] 3)) vg (some ⟨w2.heap.size, 0, none⟩) cg 1 (hi - lo) 1 (hRg.step (gr3 _ _)) (rowIs_one _ _ rfl)
    rw [len_one] at co0
    obtain ⟨lg, elg⟩ : ∃ l, (repr (hi - lo)).length = l := ⟨_, rfl⟩
    rw [elg] at co0 ⊢
    obtain ⟨cc, ecc⟩ : ∃ c, cmpN (hi - lo) 1 = c := ⟨_, rfl⟩
    rw [ecc] at co0
    have co := hidd co0
    have HB2 := hidd hb2
    clear co0 elg hRg hb2 cm
    go_wp2_with fail
    refine co.out.mono ?_
    rintro e w' ⟨rfl, n, rfl⟩
    have hgr : Below wr.heap.size wr ((w2.alloc (.cells #[.int .i64 1] 3)).drewN n) := by
      have := HB2.out.alloc HB2.out.size (.cells #[.int .i64 1] 3)
      exact ⟨this.os, this.tape, this.output, this.size, this.block⟩
    by_cases hg : hi - lo ≤ 1
    · have hle : cc ≤ 0 := by rw [← ecc]; unfold cmpN; split <;> (try split) <;> omega
      have hq := H.out.2.1.done hg
      have hR := H.out.2.2.2.2.1.step hgr
      have hB := HBL.out.trans (hgr.mono HBL.out.size)
      have hll := H.out.2.2.1
      subst hq
      have HF := hidd (And.intro hR (And.intro hB hll))
      clear hR hB hll hgr ecc hg co
      go_wp2_with fail
      go_ret
      rw [HF.out.2.2]
      exact ⟨⟨al, cl, rfl, HF.out.1⟩, HF.out.2.1⟩
    · have hgt : ¬ cc ≤ 0 := by rw [← ecc]; unfold cmpN; rw [if_neg (by omega), if_pos (by omega)]; omega
      have cp0 := plus_any _ al ah cl ch lo hi (H.out.2.2.2.2.1.step hgr) (H.out.2.2.2.2.2.step hgr) (len_small _ (by have := H.out.2.1.2.2; have := HX.out; omega))
      rw [← H.out.2.2.1, ← H.out.2.2.2.1] at cp0
      have cp := hidd cp0
      have HGR := hidd hgr
      clear cp0 hgr ecc co
      go_wp2_with fail
      refine cp.out.mono ?_
      rintro e w3 ⟨⟨vs, cs, rfl, hRs⟩, hb3⟩
      have ch0 := hidd (halves_any w3 vs cs (lo + hi) hRs (len_small _ (by have := H.out.2.1.2.2; have := HX.out; omega)))
      have HB3 := hidd (HGR.out.trans (hb3.mono HGR.out.size))
      clear hRs hb3 cp HGR
      go_wp2_with fail
      refine ch0.out.mono ?_
      rintro e w4 ⟨⟨vm, cmd, rfl, hRm⟩, hb4⟩
      have hb4' := HB3.out.trans (hb4.mono HB3.out.size)
      have ct0 := times_rows w4 vm b cmd cb ((lo + hi) / 2) y false false hRm (HB.out.step (HBL.out.trans (hb4'.mono HBL.out.size))) (times_len (by have := H.out.2.1.2.2; have := HX.out; omega) (by have := HY.out; omega))
      rw [EB.out, show ((false != false) && decide ((lo + hi) / 2 * y ≠ 0)) = false from rfl] at ct0
      obtain ⟨lm, elm⟩ : ∃ l, (repr ((lo + hi) / 2)).length = l := ⟨_, rfl⟩
      rw [elm] at ct0 ⊢
      have ct := hidd ct0
      have HM := hidd (And.intro elm (And.intro hRm hb4'))
      clear ct0 elm hRm hb4 hb4' ch0 HB3
      go_wp2_with fail
      refine ct.out.mono ?_
      rintro e w5 ⟨⟨vp, cpp, rfl, hRp⟩, hb5⟩
      obtain ⟨lp, elp⟩ : ∃ l, (repr ((lo + hi) / 2 * y)).length = l := ⟨_, rfl⟩
      rw [elp]
      have hb5' := HM.out.2.2.trans (hb5.mono HM.out.2.2.size)
      have hb6 := hb5'.alloc hb5'.size (.cells #[.slice vp lp cpp, .bool false] 91)
      have co0 := order_any (w5.alloc (.cells #[.slice vp lp cpp, .bool false] 91)) vp a cpp ca ((lo + hi) / 2 * y) x (hRp.step (gr3 _ _)) (HA.out.step (HBL.out.trans (hb6.mono HBL.out.size)))
      rw [elp, EA.out] at co0
      obtain ⟨cc2, ecc2⟩ : ∃ c, cmpN ((lo + hi) / 2 * y) x = c := ⟨_, rfl⟩
      rw [ecc2] at co0
      have co := hidd co0
      have HB6 := hidd hb6
      have HB5 := hidd (hb5.alloc hb5.size (.cells #[.slice vp lp cpp, .bool false] 91))
      clear co0 elp hRp hb5 hb5' hb6 ct
      go_wp2_with fail
      refine co.out.mono ?_
      rintro e w' ⟨rfl, n2, rfl⟩
      have hz : Below wr.heap.size wr ((w5.alloc (.cells #[.slice vp lp cpp, .bool false] 91)).drewN n2) := by
        have := HB6.out
        exact ⟨this.os, this.tape, this.output, this.size, this.block⟩
      have hz4 : Below w4.heap.size w4 ((w5.alloc (.cells #[.slice vp lp cpp, .bool false] 91)).drewN n2) := by
        have := HB5.out
        exact ⟨this.os, this.tape, this.output, this.size, this.block⟩
      have HZ := hidd (HBL.out.trans (hz.mono HBL.out.size))
      have HRm := hidd (HM.out.2.1.step hz4)
      have HRl := hidd (H.out.2.2.2.2.1.step hz)
      have HRh := hidd (H.out.2.2.2.2.2.step hz)
      clear hz hz4 HB6 HB5 co
      by_cases hm : (lo + hi) / 2 * y ≤ x
      · have hle : cc2 ≤ 0 := by rw [← ecc2]; unfold cmpN; split <;> (try split) <;> omega
        have hQ := hidd (H.out.2.1.low (by omega) hm)
        clear ecc2 hm hg
        go_wp2_with fail
        go_roundg (hi - (lo + hi) / 2)
        case measure => rw [H.out.1]; exact hQ.out.2
        case rel => exact ⟨(lo + hi) / 2, hi, vm, ah, lm, cmd, lh, ch, rfl, rfl, ⟨rfl, hQ.out.1, HM.out.1.symm, H.out.2.2.2.1, HRm.out, HRh.out⟩, HZ.out⟩
      · have hgt2 : ¬ cc2 ≤ 0 := by rw [← ecc2]; unfold cmpN; rw [if_neg (by omega), if_pos (by omega)]; omega
        have hQ := hidd (H.out.2.1.high (by omega) (by omega))
        clear ecc2 hm hg
        go_wp2_with fail
        go_roundg ((lo + hi) / 2 - lo)
        case measure => rw [H.out.1]; exact hQ.out.2
        case rel => exact ⟨lo, (lo + hi) / 2, al, vm, ll, cl, lm, cmd, rfl, rfl, ⟨rfl, hQ.out.1, H.out.2.2.1, HM.out.1.symm, HRl.out, HRm.out⟩, HZ.out⟩
end Go.Proofs.YtjbkjeabobccaabGreatDoor
