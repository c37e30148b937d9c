import Derived.Test.YtjbkjeabobccaabGreatDoorNumParses1
namespace Go.Proofs.YtjbkjeabobccaabGreatDoor
open Go.RowKit Go.Sort Go.Lib
set_option linter.unusedVariables false

theorem BigIs.store2 {w : World} {v : Value} {z : Int} (h : BigIs w v z) {b : Nat} {c : Option Addr} {n k : Nat} {u : Value} {T : TypeId} (hg : w.heap[b]? = some (.cells #[.slice c n k, u] T (0, 0))) (x y : Value) :
    BigIs ((w.setCell ⟨b, 0, none⟩ x).setCell ⟨b, 1, none⟩ y) v z := by
  obtain ⟨a, cap, e, hR⟩ := h
  exact ⟨a, cap, e, hR.store2 hg x y⟩
theorem times_wide (w : World) (u v : Value) (x y : Int) (hu : BigIs w u x) (hv : BigIs w v y) (hl : (repr x.natAbs).length + (repr y.natAbs).length ≤ 1000000000000) :
    Calls Tryz.prog 65 #[u, v] w fun e w1 => ∃ c l k q, e = .returned (.agg #[.slice c l k, .bool q]) ∧ BigIs w1 (.agg #[.slice c l k, .bool q]) (x * y) ∧ Below w.heap.size w w1 := by
  obtain ⟨a, ca, rfl, ha⟩ := hu
  obtain ⟨b, cb, rfl, hb⟩ := hv
  refine (times_rows w a b ca cb _ _ _ _ ha hb hl).mono ?_
  rintro e w1 ⟨⟨c, k, rfl, hR⟩, hB⟩
  refine ⟨c, _, k, _, rfl, ⟨c, k, ?_, ?_⟩, hB⟩
  · rw [sign_mul, Int.natAbs_mul]
  · rw [Int.natAbs_mul]; exact hR
theorem repr_ten : (repr (10 : Int).natAbs).length = 1 := by
  show (repr 10).length = 1
  rw [repr_pos (by omega)]
  rfl

set_option maxHeartbeats 400000 in
theorem digit_any (c : UInt8) (w : World) : Calls Tryz.prog 63 #[.int .u8 (c.toNat : Int)] w fun e w' => e = .returned (.bool (isDig c)) ∧ w' = w := by
  have hc : (c.toNat : Int) < 256 := by have := c.toNat_lt; omega
  by_cases h1 : 48 ≤ (c.toNat : Int)
  · by_cases h2 : (c.toNat : Int) ≤ 57
    · rw [show isDig c = true by unfold isDig; simp; omega]
      go_enter Tryz.func63, Tryz.ntmps63
      go_wp2
      go_ret
      exact ⟨ret_bool (by first | rfl | (simp; omega)), rfl⟩
    · rw [show isDig c = false by unfold isDig; simp; omega]
      go_enter Tryz.func63, Tryz.ntmps63
      go_wp2
      go_ret
      exact ⟨ret_bool (by first | rfl | (simp; omega)), rfl⟩
  · rw [show isDig c = false by unfold isDig; simp; omega]
    go_enter Tryz.func63, Tryz.ntmps63
    go_wp2
    go_ret
    exact ⟨ret_bool (by first | rfl | (simp; omega)), rfl⟩

/-- The boxes of the number told so far and of ten. -/
def PBox (w w1 wr : World) (x : Option Addr) (l m : Nat) (q : Bool) (x7 : Option Addr) (l7 m7 : Nat) (q7 : Bool) : Prop :=
  wr.heap[w.heap.size]? = some (.cells #[.slice x l m, .bool q] 91 (0, 0)) ∧ wr.heap[w1.heap.size]? = some (.cells #[.slice x7 l7 m7, .bool q7] 91 (0, 0))
theorem PBox.step {w w1 wr w9 : World} {x : Option Addr} {l m : Nat} {q : Bool} {x7 : Option Addr} {l7 m7 : Nat} {q7 : Bool} (h : PBox w w1 wr x l m q x7 l7 m7 q7) (hb : Below wr.heap.size wr w9) : PBox w w1 w9 x l m q x7 l7 m7 q7 :=
  ⟨newbox2 h.1 hb, newbox2 h.2 hb⟩
def PNum (w wr : World) (x : Option Addr) (l m : Nat) (q : Bool) (x7 : Option Addr) (l7 m7 : Nat) (q7 : Bool) (V : Int) : Prop :=
  BigIs wr (.agg #[.slice x l m, .bool q]) V ∧ BigIs wr (.agg #[.slice x7 l7 m7, .bool q7]) 10 ∧ Below w.heap.size w wr

/-- The callees of a round that takes one digit more: each by its contract in whatever world it is met. -/
structure Round (w w1 wr : World) (x : Option Addr) (l m : Nat) (q : Bool) (x7 : Option Addr) (l7 m7 : Nat) (q7 : Bool) (V d : Int) : Prop where
  times : ∀ W, Below wr.heap.size wr W → Calls Tryz.prog 65 #[.agg #[.slice x l m, .bool q], .agg #[.slice x7 l7 m7, .bool q7]] W fun e wT => ∃ c l' k q', e = .returned (.agg #[.slice c l' k, .bool q']) ∧
    Hid (BigIs wT (.agg #[.slice c l' k, .bool q']) (V * 10) ∧ Below wr.heap.size wr wT) ∧ Hid (∀ v z, BigIs W v z → BigIs wT v z) ∧
    wT.cell? ⟨w.heap.size, 0, none⟩ = some (.slice x l m) ∧ wT.cell? ⟨w.heap.size, 1, none⟩ = some (.bool q) ∧ wT.cell? ⟨w1.heap.size, 0, none⟩ = some (.slice x7 l7 m7) ∧ wT.cell? ⟨w1.heap.size, 1, none⟩ = some (.bool q7)
  digit : ∀ W, Below wr.heap.size wr W → Calls Tryz.prog 62 #[.int .i64 d] W fun e wO => ∃ c l' k q', e = .returned (.agg #[.slice c l' k, .bool q']) ∧
    Hid (BigIs wO (.agg #[.slice c l' k, .bool q']) d ∧ Below wr.heap.size wr wO) ∧ Hid (∀ v z, BigIs W v z → BigIs wO v z) ∧
    wO.cell? ⟨w.heap.size, 0, none⟩ = some (.slice x l m) ∧ wO.cell? ⟨w.heap.size, 1, none⟩ = some (.bool q) ∧ wO.cell? ⟨w1.heap.size, 0, none⟩ = some (.slice x7 l7 m7) ∧ wO.cell? ⟨w1.heap.size, 1, none⟩ = some (.bool q7)
  sum : ∀ W u v, Below wr.heap.size wr W → BigIs W u (V * 10) → BigIs W v d → Calls Tryz.prog 64 #[u, v] W fun e wS => ∃ c l' k q', e = .returned (.agg #[.slice c l' k, .bool q']) ∧
    Hid (PBox w w1 wS x l m q x7 l7 m7 q7 ∧ PNum w wS c l' k q' x7 l7 m7 q7 (V * 10 + d)) ∧
    wS.cell? ⟨w.heap.size, 0, none⟩ = some (.slice x l m) ∧ wS.cell? ⟨w.heap.size, 1, none⟩ = some (.bool q) ∧ wS.frozen? ⟨w.heap.size, 0, none⟩ = false ∧ wS.frozen? ⟨w.heap.size, 1, none⟩ = false
theorem round_of {w w1 wr : World} {x : Option Addr} {l m : Nat} {q : Bool} {x7 : Option Addr} {l7 m7 : Nat} {q7 : Bool} {V d : Int} (hB : PBox w w1 wr x l m q x7 l7 m7 q7) (hN : PNum w wr x l m q x7 l7 m7 q7 V)
    (hV : 0 ≤ V) (hd0 : 0 ≤ d) (hd1 : d < 10) (hl : (repr V.natAbs).length ≤ 5000000000) (hl2 : (repr ((V * 10).natAbs + d.natAbs)).length ≤ 5000000001) : Round w w1 wr x l m q x7 l7 m7 q7 V d := by
  refine ⟨fun W hW => ?_, fun W hW => ?_, fun W u v hW hu hv => ?_⟩
  · refine (times_wide W _ _ V 10 (hN.1.step hW) (hN.2.1.step hW) (by rw [repr_ten]; omega)).mono ?_
    rintro e wT ⟨c, l', k, q', rfl, h, hb⟩
    have hb' := hW.trans (hb.mono hW.size)
    have hx := hB.step hb'
    exact ⟨c, l', k, q', rfl, ⟨h, hb'⟩, fun v z hv => hv.step hb, two_cell0 hx.1, two_cell1 hx.1, two_cell0 hx.2, two_cell1 hx.2⟩
  · refine (of_boxed d W (by omega) (by omega)).mono ?_
    rintro e wT ⟨c, l', k, q', rfl, h, hb⟩
    have hb' := hW.trans (hb.mono hW.size)
    have hx := hB.step hb'
    exact ⟨c, l', k, q', rfl, ⟨h, hb'⟩, fun v z hv => hv.step hb, two_cell0 hx.1, two_cell1 hx.1, two_cell0 hx.2, two_cell1 hx.2⟩
  · refine (sum_boxed W u v (V * 10) d hu hv (by omega)).mono ?_
    rintro e wT ⟨c, l', k, q', rfl, h, hb⟩
    have hb' := hW.trans (hb.mono hW.size)
    have hx := hB.step hb'
    exact ⟨c, l', k, q', rfl, ⟨hx, h, hN.2.1.step hb', hN.2.2.trans (hb'.mono hN.2.2.size)⟩, two_cell0 hx.1, two_cell1 hx.1, two_free hx.1 0, two_free hx.1 1⟩
/-- What is stored behind a round. -/
theorem stored {w w1 wS : World} {x : Option Addr} {l m : Nat} {q : Bool} {x7 : Option Addr} {l7 m7 : Nat} {q7 : Bool} {c : Option Addr} {l' k : Nat} {q' : Bool} {V : Int} (hne : w.heap.size ≠ w1.heap.size)
    (h : PBox w w1 wS x l m q x7 l7 m7 q7 ∧ PNum w wS c l' k q' x7 l7 m7 q7 V) :
    PBox w w1 ((wS.setCell ⟨w.heap.size, 0, none⟩ (.slice c l' k)).setCell ⟨w.heap.size, 1, none⟩ (.bool q')) c l' k q' x7 l7 m7 q7 ∧ PNum w ((wS.setCell ⟨w.heap.size, 0, none⟩ (.slice c l' k)).setCell ⟨w.heap.size, 1, none⟩ (.bool q')) c l' k q' x7 l7 m7 q7 V := by
  obtain ⟨⟨h1, h2⟩, h3, h4, h5⟩ := h
  refine ⟨⟨two_set1 (two_set0 h1), ?_⟩, h3.store2 h1 _ _, h4.store2 h1 _ _, (h5.setCell (Nat.le_refl _) _).setCell (Nat.le_refl _) _⟩
  rw [Below.heap_setCell _ _ _ _ (by simpa using fun e => hne e.symm), Below.heap_setCell _ _ _ _ (by simpa using fun e => hne e.symm)]
  exact h2
end Go.Proofs.YtjbkjeabobccaabGreatDoor
