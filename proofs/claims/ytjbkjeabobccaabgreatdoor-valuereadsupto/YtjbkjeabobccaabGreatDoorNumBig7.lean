import Derived.Test.YtjbkjeabobccaabGreatDoorNumBig6
namespace Go.Proofs.YtjbkjeabobccaabGreatDoor
open Go.RowKit
set_option linter.unusedVariables false

theorem box3n {w : World} {A B C : Obj} (n : Nat) : Below w.heap.size w ((((w.alloc A).alloc B).alloc C).drewN n) := by
  have h : Below w.heap.size w (((w.alloc A).alloc B).alloc C) := (((Below.refl _ _).alloc (Nat.le_refl _) _).alloc (by simp) _).alloc (by simp <;> omega) _
  exact ⟨h.os, h.tape, h.output, h.size, h.block⟩

/-- What is known behind a callee that makes memory: the boxes of both numbers and of the result. -/
structure Boxes (w w9 : World) (a b : Option Addr) (la ca lb cb : Nat) (m m' : Bool) : Prop where
  below : Below w.heap.size w w9
  out : w9.heap[w.heap.size + 2]? = some (.cells #[.slice none 0 0, .bool false] 91 (0, 0))
  a0 : w9.cell? ⟨w.heap.size, 0, none⟩ = some (.slice a la ca)
  a1 : w9.cell? ⟨w.heap.size, 1, none⟩ = some (.bool m)
  b0 : w9.cell? ⟨w.heap.size + 1, 0, none⟩ = some (.slice b lb cb)
  b1 : w9.cell? ⟨w.heap.size + 1, 1, none⟩ = some (.bool m')
theorem boxes_of {w W w9 : World} {a b : Option Addr} {la ca lb cb : Nat} {m m' : Bool} (hW : W.heap = (((w.alloc (.cells #[.slice a la ca, .bool m] 91)).alloc (.cells #[.slice b lb cb, .bool m'] 91)).alloc (.cells #[.slice none 0 0, .bool false] 91)).heap)
    (h0 : Below w.heap.size w W) (hb : Below W.heap.size W w9) : Boxes w w9 a b la ca lb cb m m' := by
  obtain ⟨g0, g1, g2, _⟩ := box3 hW hb
  exact ⟨key2 h0 hb, g2, two_cell0 g0, two_cell1 g0, two_cell0 g1, two_cell1 g1⟩

set_option maxHeartbeats 8000000 in
theorem sum_ge (w : World) (a b : Option Addr) (ca cb x y : Nat) (m : Bool) (ha : RowIs w a ca (repr x)) (hb : RowIs w b cb (repr y)) (hle : y ≤ x) (hl : (repr x).length ≤ 1000000000000) :
    Calls Tryz.prog 64 #[.agg #[.slice a (repr x).length ca, .bool m], .agg #[.slice b (repr y).length cb, .bool (!m)]] w fun e w' =>
      (∃ v cap, e = .returned (.agg #[.slice v (repr (x - y)).length cap, .bool (m && decide (x ≠ y))]) ∧ RowIs w' v cap (repr (x - y))) ∧ Below w.heap.size w w' := by
  have co0 : ∀ w', Below w.heap.size w w' → _ := fun w' h => order_any w' a b ca cb x y (ha.step h) (hb.step h)
  have cm0 : ∀ w', Below w.heap.size w w' → _ := fun w' h => minus_any w' a b ca cb x y (ha.step h) (hb.step h) hle hl
  have hcmp : 0 ≤ cmpN x y := by unfold cmpN; rw [if_neg (by omega)]; split <;> omega
  have hlen : 0 < (repr (x - y)).length ↔ x ≠ y := by
    constructor
    · rintro h rfl
      rw [Nat.sub_self, repr_zero] at h
      simp at h
    · intro h; exact repr_len_pos (by omega)
  have hbit : (m && decide (x ≠ y)) = (m && decide (0 < (repr (x - y)).length)) := by
    rw [show decide (x ≠ y) = decide (0 < (repr (x - y)).length) from decide_eq_decide.2 hlen.symm]
  rw [hbit]
  obtain ⟨la, ea⟩ : ∃ l, (repr x).length = l := ⟨_, rfl⟩
  obtain ⟨lb, eb⟩ : ∃ l, (repr y).length = l := ⟨_, rfl⟩
  obtain ⟨S, eS⟩ : ∃ l, repr (x - y) = l := ⟨_, rfl⟩
  obtain ⟨c, ec⟩ : ∃ c, cmpN x y = c := ⟨_, rfl⟩
  rw [ea, eb, ec] at co0
  rw [ea, eb, eS] at cm0
  rw [ea, eb, eS]
  rw [ec] at hcmp
  clear ea eb eS ha hb hl hle hbit hlen ec
  have cm : Hid (∀ n, Calls Tryz.prog 102 #[.slice a la ca, .slice b lb cb] ((((w.alloc (.cells #[.slice a la ca, .bool m] 91)).alloc (.cells #[.slice b lb cb, .bool (!m)] 91)).alloc (.cells #[.slice none 0 0, .bool false] 91)).drewN n) fun e w9 =>
      ∃ v cap, e = .returned (.slice v S.length cap) ∧ Hid (RowIs w9 v cap S) ∧ Hid (Boxes w w9 a b la ca lb cb m (!m))) := fun n => by
    refine (cm0 _ (box3n n)).mono ?_
    rintro e w9 ⟨⟨v, cap, rfl, hR⟩, hb9⟩
    exact ⟨v, cap, rfl, hR, boxes_of (W := World.drewN _ n) rfl (box3n n) hb9⟩
  have co : Hid (Calls Tryz.prog 101 #[.slice a la ca, .slice b lb cb] (((w.alloc (.cells #[.slice a la ca, .bool m] 91)).alloc (.cells #[.slice b lb cb, .bool (!m)] 91)).alloc (.cells #[.slice none 0 0, .bool false] 91)) fun e w' => e = .returned (.int .i64 c) ∧ ∃ n, w' = World.drewN _ n) :=
    co0 _ (by have := box3n (w := w) (A := .cells #[.slice a la ca, .bool m] 91) (B := .cells #[.slice b lb cb, .bool (!m)] 91) (C := .cells #[.slice none 0 0, .bool false] 91) 0; exact ⟨this.os, this.tape, this.output, this.size, this.block⟩)
  have hmm : (m == !m) = false := by cases m <;> rfl
  clear cm0 co0
  by_cases hS : 0 < S.length
  · have hd : decide (0 < S.length) = true := by simpa using hS
    rw [hd]
    cases m
    all_goals
      simp only [Bool.not_true, Bool.not_false, Bool.false_and, Bool.true_and] at cm co hmm ⊢
      go_enter Tryz.func64, Tryz.ntmps64
      go_wp2_with fail
      refine co.out.mono ?_
      rintro e w' ⟨rfl, n, rfl⟩
      go_wp2_with fail
      refine (cm.out n).mono ?_
      rintro e w9 ⟨v, cap, rfl, HR, HBX⟩
      have k0 := HBX.out.a0
      have k1 := HBX.out.a1
      have k3 := two_cell0 HBX.out.out
      have k4 := two_cell1 HBX.out.out
      have k5 := two_free HBX.out.out 0
      have k6 := two_free HBX.out.out 1
      have HQ : Hid (∀ x y, _ ∧ _) := two_both HBX.out.out
      go_wp2_with fail
      refine bodyPost_ret (v := .agg #[.slice v S.length cap, .bool _]) (by simp [results, Tryz.results64, go_sem, HQ.out]; rfl) rfl ?_
      exact ⟨⟨v, cap, rfl, HR.out.store2 HBX.out.out _ _⟩, (HBX.out.below.setCell (by show _ ≤ w.heap.size + 2; omega) _).setCell (by show _ ≤ w.heap.size + 2; omega) _⟩
  · have hd : decide (0 < S.length) = false := by simpa using hS
    rw [hd]
    cases m
    all_goals
      simp only [Bool.not_true, Bool.not_false, Bool.and_false] at cm co hmm ⊢
      go_enter Tryz.func64, Tryz.ntmps64
      go_wp2_with fail
      refine co.out.mono ?_
      rintro e w' ⟨rfl, n, rfl⟩
      go_wp2_with fail
      refine (cm.out n).mono ?_
      rintro e w9 ⟨v, cap, rfl, HR, HBX⟩
      have k0 := HBX.out.a0
      have k1 := HBX.out.a1
      have k3 := two_cell0 HBX.out.out
      have k4 := two_cell1 HBX.out.out
      have k5 := two_free HBX.out.out 0
      have k6 := two_free HBX.out.out 1
      have HQ : Hid (∀ x y, _ ∧ _) := two_both HBX.out.out
      go_wp2_with fail
      refine bodyPost_ret (v := .agg #[.slice v S.length cap, .bool _]) (by simp [results, Tryz.results64, go_sem, HQ.out]; rfl) rfl ?_
      exact ⟨⟨v, cap, rfl, HR.out.store2 HBX.out.out _ _⟩, (HBX.out.below.setCell (by show _ ≤ w.heap.size + 2; omega) _).setCell (by show _ ≤ w.heap.size + 2; omega) _⟩

set_option maxHeartbeats 8000000 in
theorem sum_lt (w : World) (a b : Option Addr) (ca cb x y : Nat) (m : Bool) (ha : RowIs w a ca (repr x)) (hb : RowIs w b cb (repr y)) (hlt : x < y) (hl : (repr y).length ≤ 1000000000000) :
    Calls Tryz.prog 64 #[.agg #[.slice a (repr x).length ca, .bool m], .agg #[.slice b (repr y).length cb, .bool (!m)]] w fun e w' =>
      (∃ v cap, e = .returned (.agg #[.slice v (repr (y - x)).length cap, .bool (!m)]) ∧ RowIs w' v cap (repr (y - x))) ∧ Below w.heap.size w w' := by
  have co0 : ∀ w', Below w.heap.size w w' → _ := fun w' h => order_any w' a b ca cb x y (ha.step h) (hb.step h)
  have cm0 : ∀ w', Below w.heap.size w w' → _ := fun w' h => minus_any w' b a cb ca y x (hb.step h) (ha.step h) (by omega) hl
  have hcmp : cmpN x y = -1 := if_pos hlt
  rw [hcmp] at co0
  obtain ⟨la, ea⟩ : ∃ l, (repr x).length = l := ⟨_, rfl⟩
  obtain ⟨lb, eb⟩ : ∃ l, (repr y).length = l := ⟨_, rfl⟩
  obtain ⟨S, eS⟩ : ∃ l, repr (y - x) = l := ⟨_, rfl⟩
  rw [ea, eb] at co0
  rw [ea, eb, eS] at cm0
  rw [ea, eb, eS]
  clear ea eb eS ha hb hl hlt hcmp
  have cm : Hid (∀ n, Calls Tryz.prog 102 #[.slice b lb cb, .slice a la ca] ((((w.alloc (.cells #[.slice a la ca, .bool m] 91)).alloc (.cells #[.slice b lb cb, .bool (!m)] 91)).alloc (.cells #[.slice none 0 0, .bool false] 91)).drewN n).drew fun e w9 =>
      ∃ v cap, e = .returned (.slice v S.length cap) ∧ Hid (RowIs w9 v cap S) ∧ Hid (Below w.heap.size w w9) ∧ Hid (w9.heap[w.heap.size + 2]? = some (.cells #[.slice none 0 0, .bool false] 91 (0, 0))) ∧
      w9.cell? ⟨w.heap.size, 0, none⟩ = some (.slice a la ca) ∧ w9.cell? ⟨w.heap.size + 1, 0, none⟩ = some (.slice b lb cb) ∧ w9.cell? ⟨w.heap.size + 1, 1, none⟩ = some (.bool (!m)) ∧
      w9.cell? ⟨w.heap.size + 2, 0, none⟩ = some (.slice none 0 0) ∧ w9.cell? ⟨w.heap.size + 2, 1, none⟩ = some (.bool false) ∧ w9.frozen? ⟨w.heap.size + 2, 0, none⟩ = false ∧ w9.frozen? ⟨w.heap.size + 2, 1, none⟩ = false) := fun n => by
    refine (cm0 _ (box3n n).drew).mono ?_
    rintro e w9 ⟨⟨v, cap, rfl, hR⟩, hb9⟩
    have hB : Boxes w w9 a b la ca lb cb m (!m) := boxes_of (W := (World.drewN _ n).drew) rfl (box3n n).drew hb9
    exact ⟨v, cap, rfl, hR, hB.below, hB.out, hB.a0, hB.b0, hB.b1, two_cell0 hB.out, two_cell1 hB.out, two_free hB.out 0, two_free hB.out 1⟩
  have co : Hid (Calls Tryz.prog 101 #[.slice a la ca, .slice b lb cb] (((w.alloc (.cells #[.slice a la ca, .bool m] 91)).alloc (.cells #[.slice b lb cb, .bool (!m)] 91)).alloc (.cells #[.slice none 0 0, .bool false] 91)) fun e w' => e = .returned (.int .i64 (-1)) ∧ ∃ n, w' = World.drewN _ n) :=
    co0 _ (by have := box3n (w := w) (A := .cells #[.slice a la ca, .bool m] 91) (B := .cells #[.slice b lb cb, .bool (!m)] 91) (C := .cells #[.slice none 0 0, .bool false] 91) 0; exact ⟨this.os, this.tape, this.output, this.size, this.block⟩)
  have hmm : (m == !m) = false := by cases m <;> rfl
  have n1 : ¬ w.heap.size + 1 + 1 = w.heap.size := by omega
  have n2 : ¬ w.heap.size = w.heap.size + 1 + 1 := by omega
  clear cm0 co0
  obtain ⟨m', em⟩ : ∃ m', (!m) = m' := ⟨_, rfl⟩
  rw [em] at cm co hmm ⊢
  clear em
  · go_enter Tryz.func64, Tryz.ntmps64
    go_wp2_with fail
    refine co.out.mono ?_
    rintro e w' ⟨rfl, n, rfl⟩
    go_wp2_with fail
    go_region_held2 (fun w' => w'.cell? ⟨w.heap.size, 0, none⟩ = some (.slice a la ca) ∧ w'.cell? ⟨w.heap.size + 1, 0, none⟩ = some (.slice b lb cb) ∧ w'.cell? ⟨w.heap.size + 1, 1, none⟩ = some (.bool m')) (go_keep)
      (first | (go_at_call 102; go_loud (refine (cm.out n).mono ?_; rintro e w9 ⟨v, cap, rfl, HR9, HB9, HG9, k0, k1, k2, k3, k4, k5, k6⟩)))
    all_goals
      have HQ : Hid (∀ x y, _ ∧ _) := two_both HG9.out
      go_wp2_with fail
      refine bodyPost_ret (v := .agg #[.slice v S.length cap, .bool m']) (by simp [results, Tryz.results64, go_sem, HQ.out]) rfl ?_
      exact ⟨⟨v, cap, rfl, HR9.out.store2 HG9.out _ _⟩, (HB9.out.setCell (by show _ ≤ w.heap.size + 2; omega) _).setCell (by show _ ≤ w.heap.size + 2; omega) _⟩

/-- The sum of two whole numbers. -/
theorem sum_any (w : World) (u v : Value) (x y : Int) (hu : BigIs w u x) (hv : BigIs w v y) (hl : (repr (x.natAbs + y.natAbs)).length ≤ 1000000000000) :
    Calls Tryz.prog 64 #[u, v] w fun e w' => (∃ r, e = .returned r ∧ BigIs w' r (x + y)) ∧ Below w.heap.size w w' := by
  obtain ⟨a, ca, rfl, ha⟩ := hu
  obtain ⟨b, cb, rfl, hb⟩ := hv
  have mono : ∀ p q : Nat, p ≤ q → (repr p).length ≤ (repr q).length := fun p q h => by
    rcases Nat.lt_or_ge (repr q).length (repr p).length with h' | h'
    · have := repr_len_lt h'; omega
    · exact h'
  by_cases hs : decide (x < 0) = decide (y < 0)
  · rw [hs]
    refine (sum_same w a b ca cb _ _ _ ha hb hl).mono ?_
    rintro e w' ⟨⟨r, cap, rfl, hR⟩, hB⟩
    have hiff := decide_eq_decide.1 hs
    have e1 : x.natAbs + y.natAbs = (x + y).natAbs := by omega
    have e2 : decide (y < 0) = decide (x + y < 0) := decide_eq_decide.2 (by omega)
    rw [e1] at hR
    rw [e1, e2]
    exact ⟨⟨_, rfl, r, cap, rfl, hR⟩, hB⟩
  · have hs' : decide (y < 0) = !decide (x < 0) := by
      cases h1 : decide (x < 0) <;> cases h2 : decide (y < 0) <;> simp_all
    rw [hs']
    have hopp : (x < 0 ∧ 0 ≤ y) ∨ (0 ≤ x ∧ y < 0) := by
      by_cases h1 : x < 0 <;> by_cases h2 : y < 0 <;> simp_all <;> omega
    by_cases hle : y.natAbs ≤ x.natAbs
    · refine (sum_ge w a b ca cb _ _ _ ha hb hle (Nat.le_trans (mono _ _ (by omega)) hl)).mono ?_
      rintro e w' ⟨⟨r, cap, rfl, hR⟩, hB⟩
      have e1 : x.natAbs - y.natAbs = (x + y).natAbs := by omega
      have e2 : (decide (x < 0) && decide (x.natAbs ≠ y.natAbs)) = decide (x + y < 0) := by
        rw [← Bool.decide_and]
        exact decide_eq_decide.2 (by omega)
      rw [e1] at hR
      rw [e1, e2]
      exact ⟨⟨_, rfl, r, cap, rfl, hR⟩, hB⟩
    · refine (sum_lt w a b ca cb _ _ _ ha hb (by omega) (Nat.le_trans (mono _ _ (by omega)) hl)).mono ?_
      rintro e w' ⟨⟨r, cap, rfl, hR⟩, hB⟩
      have e1 : y.natAbs - x.natAbs = (x + y).natAbs := by omega
      have e2 : (!decide (x < 0)) = decide (x + y < 0) := by
        rw [← hs']
        exact decide_eq_decide.2 (by omega)
      rw [e1] at hR
      rw [e1, e2]
      exact ⟨⟨_, rfl, r, cap, rfl, hR⟩, hB⟩
end Go.Proofs.YtjbkjeabobccaabGreatDoor
