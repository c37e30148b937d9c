import Derived.Test.YtjbkjeabobccaabGreatDoorNumParses2
import Derived.Deep.CutRange
import Derived.Deep.CutBlock
import Derived.Deep.RegionHeld2
namespace Go.Proofs.YtjbkjeabobccaabGreatDoor
open Go.RowKit Go.Sort Go.Lib
set_option linter.unusedVariables false

/-- The digits that were taken so far. -/
def At1 (L : List UInt8) (frm p : Nat) (D : List UInt8) (V : Int) : Prop := D.all isDig = true ∧ L.drop frm = D ++ L.drop p ∧ D.length + frm = p ∧ V = val D 0
theorem At1.next {s : ByteArray} {frm p : Nat} {D : List UInt8} {V : Int} (h : At1 s.data.toList frm p D V) (hp : p < s.size) (hd : isDig s[p] = true) : At1 s.data.toList frm (p + 1) (D ++ [s[p]]) (V * 10 + ((s[p].toNat : Int) - 48)) := by
  obtain ⟨h1, h2, h3, h4⟩ := h
  refine ⟨by rw [List.all_append, h1]; simp [hd], ?_, by simp; omega, by rw [val_snoc, h4]⟩
  rw [h2, drop_cons s p hp]
  simp
theorem At1.bd {s : ByteArray} {frm p : Nat} {D : List UInt8} {V : Int} (h : At1 s.data.toList frm p D V) (hp : p ≤ s.size) (hs : s.size < 4294967281) : 0 ≤ V ∧ (repr V.natAbs).length ≤ 5000000000 := by
  obtain ⟨h1, h2, h3, h4⟩ := h
  have hv := val_bd D 0 h1 (by omega)
  have hl := val_len D h1
  rw [← h4] at hv hl
  have : V.natAbs = V.toNat := by omega
  rw [this]
  exact ⟨hv.1, by omega⟩
theorem At1.bd2 {s : ByteArray} {frm p : Nat} {D : List UInt8} {V : Int} (h : At1 s.data.toList frm p D V) (hp : p < s.size) (hd : isDig s[p] = true) (hs : s.size < 4294967281) : (repr ((V * 10).natAbs + ((s[p].toNat : Int) - 48).natAbs)).length ≤ 5000000001 := by
  have h0 := (h.bd (by omega) hs).1
  have hn := (h.next hp hd).bd (by omega) hs
  have hc : 48 ≤ (s[p].toNat : Int) := by simp [isDig] at hd; omega
  rw [show (V * 10).natAbs + ((s[p].toNat : Int) - 48).natAbs = (V * 10 + ((s[p].toNat : Int) - 48)).natAbs by omega]
  omega
theorem ends_at {s : ByteArray} {p : Nat} (hp : p < s.size) (hd : isDig s[p] = false) : Ends (s.data.toList.drop p) := .inr ⟨s[p], _, drop_cons s p hp, hd⟩
theorem ends_end {s : ByteArray} {p : Nat} (hp : s.size ≤ p) : Ends (s.data.toList.drop p) := .inl (List.drop_eq_nil_of_le (by simp; omega))

theorem wrc (c : UInt8) : IntKind.i64.wrap (c.toNat : Int) = (c.toNat : Int) ∧ IntKind.i64.wrap ((c.toNat : Int) - 48) = (c.toNat : Int) - 48 := by
  have hc := c.toNat_lt
  constructor
  · simp [IntKind.wrap, IntKind.bits, IntKind.signed]; omega
  · simp [IntKind.wrap, IntKind.bits, IntKind.signed]; omega
theorem signed_at {s : ByteArray} {neg : Bool} (h : decide (s.data.toList.head? = some 45) = neg) {frm : Nat} (hf : frm = if neg then 1 else 0) : Signed s.data.toList (s.data.toList.take frm) (s.data.toList.drop frm) neg := by
  refine ⟨(List.take_append_drop _ _).symm, fun e => ?_, fun e => ?_⟩
  · subst e
    subst hf
    have h' : s.data.toList.head? = some 45 := by simpa using h
    cases hl : s.data.toList with
    | nil => rw [hl] at h'; simp at h'
    | cons a t => rw [hl] at h'; simp at h'; simp [h']
  · subst e
    subst hf
    exact ⟨by simp, by simpa using h⟩
theorem frm_le {s : ByteArray} {neg : Bool} (h : decide (s.data.toList.head? = some 45) = neg) {frm : Nat} (hf : frm = if neg then 1 else 0) : frm ≤ s.size := by
  subst hf
  cases neg
  · simp
  · have h' : s.data.toList.head? = some 45 := by simpa using h
    rw [Lib.size_eq]
    cases hl : s.data.toList with
    | nil => rw [hl] at h'; simp at h'
    | cons a t => simp
theorem len_ok {l : List UInt8} (h : l.all isDig = true) (hl : l.length ≤ 4999999999) : 0 ≤ val l 0 ∧ (repr (val l 0).natAbs).length ≤ 5000000000 := by
  have hv := val_bd l 0 h (by omega)
  have hl2 := val_len l h
  have : (val l 0).natAbs = (val l 0).toNat := by omega
  rw [this]
  exact ⟨hv.1, by omega⟩
theorem len_ok2 {l : List UInt8} {c : UInt8} (h : l.all isDig = true) (hc : isDig c = true) (hl : l.length ≤ 4999999999) : (repr ((val l 0 * 10).natAbs + ((c.toNat : Int) - 48).natAbs)).length ≤ 5000000001 := by
  have h0 := (len_ok h hl).1
  have h2 : (l ++ [c]).all isDig = true := by rw [List.all_append, h]; simp [hc]
  have hv := val_bd (l ++ [c]) 0 h2 (by omega)
  have hl2 := val_len (l ++ [c]) h2
  rw [val_snoc] at hv hl2
  have hc' : 48 ≤ (c.toNat : Int) := by simp [isDig] at hc; omega
  rw [show (val l 0 * 10).natAbs + ((c.toNat : Int) - 48).natAbs = (val l 0 * 10 + ((c.toNat : Int) - 48)).toNat by omega]
  simp at hl2
  omega
theorem repr_sum_len {n : Nat} (h : (repr n).length ≤ 5000000000) : (repr (9223372036854775807 + n)).length ≤ 1000000000000 := by
  have h1 : n < 10000 ^ (repr n).length := Nat.lt_of_not_le (fun h => absurd (repr_len_ge _ n h) (Nat.lt_irrefl _))
  have h2 : 9223372036854775807 + n < 10000 ^ ((repr n).length + 5) := by
    rw [Nat.pow_add, show (10000 : Nat) ^ 5 = 100000000000000000000 by decide]
    omega
  have := repr_len_le _ _ h2
  omega
/-- What is known where the whole part and the fraction are read. -/
structure Jn (L : List UInt8) (frm : Nat) (D : List UInt8) (p p2 k : Nat) (E : List UInt8) (V : Int) (dot : Bool) : Prop where
  len : E.length = k
  six : k ≤ 6
  dig : E.all isDig = true
  v : V = val (D ++ E) 0
  no : dot = false → E = [] ∧ p2 = p
  yes : dot = true → L.drop frm = D ++ 46 :: (E ++ L.drop p2)
  ends : dot = true → E ≠ [] ∧ (Ends (L.drop p2) ∨ k = 6)
/-- The fraction's digits that were taken so far. -/
structure Fr (L : List UInt8) (frm : Nat) (D : List UInt8) (p2 k : Nat) (E : List UInt8) (V : Int) : Prop where
  len : E.length = k
  six : k ≤ 6
  dig : E.all isDig = true
  v : V = val (D ++ E) 0
  yes : L.drop frm = D ++ 46 :: (E ++ L.drop p2)
theorem Fr.next {s : ByteArray} {frm : Nat} {D : List UInt8} {p2 k : Nat} {E : List UInt8} {V : Int} (h : Fr s.data.toList frm D p2 k E V) (hp : p2 < s.size) (hd : isDig s[p2] = true) (hk : k < 6) : Fr s.data.toList frm D (p2 + 1) (k + 1) (E ++ [s[p2]]) (V * 10 + ((s[p2].toNat : Int) - 48)) := by
  refine ⟨by simp [h.len], by omega, by rw [List.all_append, h.dig]; simp [hd], by rw [← List.append_assoc, val_snoc, h.v], ?_⟩
  rw [h.yes, drop_cons s p2 hp]
  simp
theorem times_round {w w1 wr : World} {x : Option Addr} {l m : Nat} {q : Bool} {x7 : Option Addr} {l7 m7 : Nat} {q7 : Bool} {V : Int} (hB : PBox w w1 wr x l m q x7 l7 m7 q7) (hN : PNum w wr x l m q x7 l7 m7 q7 V) (hl : (repr V.natAbs).length ≤ 5000000000) :
    Calls Tryz.prog 65 #[.agg #[.slice x l m, .bool q], .agg #[.slice x7 l7 m7, .bool q7]] wr fun e wT => ∃ c l' k q', e = .returned (.agg #[.slice c l' k, .bool q']) ∧
      Hid (PBox w w1 wT x l m q x7 l7 m7 q7 ∧ PNum w wT c l' k q' x7 l7 m7 q7 (V * 10)) ∧
      wT.cell? ⟨w.heap.size, 0, none⟩ = some (.slice x l m) ∧ wT.cell? ⟨w.heap.size, 1, none⟩ = some (.bool q) ∧ wT.frozen? ⟨w.heap.size, 0, none⟩ = false ∧ wT.frozen? ⟨w.heap.size, 1, none⟩ = false := by
  refine (times_wide wr _ _ V 10 hN.1 hN.2.1 (by rw [repr_ten]; omega)).mono ?_
  rintro e wT ⟨c, l', k, q', rfl, h, hb⟩
  have hx := hB.step hb
  exact ⟨c, l', k, q', rfl, ⟨hx, h, hN.2.1.step hb, hN.2.2.trans (hb.mono hN.2.2.size)⟩, two_cell0 hx.1, two_cell1 hx.1, two_free hx.1 0, two_free hx.1 1⟩
theorem neg_round {w w1 wr : World} {x : Option Addr} {l m : Nat} {q : Bool} {x7 : Option Addr} {l7 m7 : Nat} {q7 : Bool} {V : Int} (hB : PBox w w1 wr x l m q x7 l7 m7 q7) (hN : PNum w wr x l m q x7 l7 m7 q7 V) :
    Calls Tryz.prog 66 #[.agg #[.slice x l m, .bool q]] wr fun e wT => ∃ c l' k q', e = .returned (.agg #[.slice c l' k, .bool q']) ∧
      Hid (PBox w w1 wT x l m q x7 l7 m7 q7 ∧ PNum w wT c l' k q' x7 l7 m7 q7 (-V)) ∧
      wT.cell? ⟨w.heap.size, 0, none⟩ = some (.slice x l m) ∧ wT.cell? ⟨w.heap.size, 1, none⟩ = some (.bool q) ∧ wT.frozen? ⟨w.heap.size, 0, none⟩ = false ∧ wT.frozen? ⟨w.heap.size, 1, none⟩ = false := by
  refine (neg_any wr _ V hN.1).mono ?_
  rintro e wT ⟨⟨u, rfl, h⟩, hb⟩
  have hx := hB.step hb
  obtain ⟨c, k, eu, _⟩ := id h
  exact ⟨c, _, k, _, by rw [eu], ⟨hx, by rw [← eu]; exact h, hN.2.1.step hb, hN.2.2.trans (hb.mono hN.2.2.size)⟩, two_cell0 hx.1, two_cell1 hx.1, two_free hx.1 0, two_free hx.1 1⟩

set_option maxHeartbeats 16000000 in
set_option maxRecDepth 100000 in
theorem rParse_any (s : ByteArray) (w : World) (hs : s.size < 4294967281) :
    Calls Tryz.prog 34 #[.string s] w fun e w' => e = .returned (.tuple #[.int .i64 (parseR s.data.toList).1, .bool (parseR s.data.toList).2]) ∧ Below w.heap.size w w' := by
  obtain ⟨neg, eneg⟩ : ∃ b, decide (s.data.toList.head? = some 45) = b := ⟨_, rfl⟩
  have HNEG := hidd eneg
  clear eneg
  obtain ⟨P, eP⟩ : ∃ P, parseR s.data.toList = P := ⟨_, rfl⟩
  rw [eP]
  have HP := hidd eP
  clear eP
  go_enter Tryz.func34, Tryz.ntmps34
  go_upto_region 2 with fail
  go_cut [16] from 9 (fun t wx => t = .bool neg ∧ w = wx)
  case first =>
    by_cases h0 : 0 < s.size
    · have hh := drop_cons s 0 h0
      rw [List.drop_zero] at hh
      have h0' : (0 : Int) < s.size := by omega
      by_cases hc : (s[0].toNat : Int) = 45
      · have hb : ((s[0].toNat : Int) == 45) = true := by simpa using hc
        have HB : Hid (true = neg) := by
          show _ = _
          rw [← HNEG.out, hh]
          have : s[0] = 45 := by apply UInt8.toNat_inj.1; simp; omega
          simp [this]
        clear hh hc
        go_wp2_with fail
        go_meet
        exact ⟨by rw [HB.out], rfl⟩
      · have hb : ((s[0].toNat : Int) == 45) = false := by simpa using hc
        have HB : Hid (false = neg) := by
          show _ = _
          rw [← HNEG.out, hh]
          have : s[0] ≠ 45 := by intro e; apply hc; rw [e]; rfl
          simp [this]
        clear hh hc
        go_wp2_with fail
        go_meet
        exact ⟨by rw [HB.out], rfl⟩
    · have h0' : s.size = 0 := by omega
      have HB : Hid (false = neg) := by
        show _ = _
        rw [← HNEG.out]
        have : s.data.toList = [] := List.eq_nil_of_length_eq_zero (by simpa using h0')
        simp [this]
      go_wp2_with fail
      go_meet
      exact ⟨by rw [HB.out], rfl⟩
  case rest =>
  obtain ⟨rfl, rfl⟩ := hcut
  obtain ⟨frm, efrm⟩ : ∃ f : Nat, f = (if neg then 1 else 0) := ⟨_, rfl⟩
  have HFR := hidd efrm
  have hf1 : frm ≤ 1 := by rw [efrm]; split <;> omega
  clear efrm
  go_upto_if 16 with fail
  go_cut [4] from 9 (fun t wx => t = .int .i64 frm ∧ w = wx)
  case first =>
    cases hn : neg
    · have HB : Hid (frm = 0) := by show _ = _; rw [HFR.out, hn]; rfl
      subst hn
      go_wp2_with fail
      go_meet
      exact ⟨by rw [HB.out]; rfl, rfl⟩
    · have HB : Hid (frm = 1) := by show _ = _; rw [HFR.out, hn]; rfl
      subst hn
      go_wp2_with fail
      go_meet
      exact ⟨by rw [HB.out]; rfl, rfl⟩
  case rest =>
  obtain ⟨rfl, rfl⟩ := hcut
  have c1 := hidd (of_boxed 10 (w.alloc (.cells #[.slice none 0 0, .bool false] 91)) (by omega) (by omega))
  go_wp2_with fail
  refine c1.out.mono ?_
  rintro e w1 ⟨x7, l7, m7, q7, rfl, h7, hb7⟩
  obtain ⟨b6, b7⟩ := box1 (W := w.alloc (.cells #[.slice none 0 0, .bool false] 91)) rfl hb7
  have hne : w.heap.size < w1.heap.size := by omega
  have H0 : Hid (PBox w w1 (w1.alloc (.cells #[.slice x7 l7 m7, .bool q7] 91)) none 0 0 false x7 l7 m7 q7 ∧ PNum w (w1.alloc (.cells #[.slice x7 l7 m7, .bool q7] 91)) none 0 0 false x7 l7 m7 q7 0) := by
    have hg := gr3 w1 (.cells #[.slice x7 l7 m7, .bool q7] 91)
    refine ⟨⟨newbox2 b6 hg, ?_⟩, ⟨none, 0, rfl, RowIs.nil (by unfold maxLen; omega)⟩, h7.step hg, key2 (key2 (gr3 w _) hb7) hg⟩
    show (w1.heap.push _)[_]? = _
    rw [Array.getElem?_push_size]
  clear h7 hb7 b6 b7 c1
  go_upto_block 0 with fail
  go_cut [4] from 9 (fun i wx => ∃ (p : Nat) (D : List UInt8) (V : Int) (x : Option Addr) (l m : Nat) (q : Bool), i = .int .i64 p ∧ p ≤ s.size ∧ Hid (PBox w w1 wx x l m q x7 l7 m7 q7 ∧ PNum w wx x l m q x7 l7 m7 q7 V) ∧ Hid (At1 s.data.toList frm p D V ∧ Ends (s.data.toList.drop p)))
  case first =>
    go_wp2_with fail
    go_loopw [4] (fun i wr => ∃ (p : Nat) (D : List UInt8) (V : Int) (x : Option Addr) (l m : Nat) (q : Bool), i = .int .i64 p ∧ p ≤ s.size ∧ Hid (PBox w w1 wr x l m q x7 l7 m7 q7 ∧ PNum w wr x l m q x7 l7 m7 q7 V) ∧ Hid (At1 s.data.toList frm p D V)) (fun i _ => s.size - (RowKit.intOf i).toNat)
    case atStart => exact ⟨frm, [], 0, none, 0, 0, false, rfl, frm_le HNEG.out HFR.out, H0, ⟨rfl, by simp, by simp, rfl⟩⟩
    case round =>
      obtain ⟨p, D, V, x, l, m, q, rfl, hp, HN, HA⟩ := hrel
      by_cases hlt : p < s.size
      · have cd := hidd (fun w => digit_any s[p] w)
        cases hd : isDig s[p]
        · rw [hd] at cd
          have HE := hidd (ends_at hlt hd)
          clear hd
          go_wp2_with (go_at_call 63; refine (cd.out _).mono ?_; rintro e w' ⟨rfl, rfl⟩)
          go_meet
          exact ⟨p, D, V, x, l, m, q, rfl, hp, HN, HA.out, HE.out⟩
        · rw [hd] at cd
          obtain ⟨hV, hl1⟩ := HA.out.bd (by omega) hs
          have hc : 48 ≤ (s[p].toNat : Int) ∧ (s[p].toNat : Int) ≤ 57 := by simp [isDig] at hd; omega
          have R := hidd (round_of HN.out.1 HN.out.2 hV (d := (s[p].toNat : Int) - 48) (by omega) (by omega) hl1 (HA.out.bd2 hlt hd hs))
          have HA2 := hidd (HA.out.next hlt hd)
          have p0 := two_cell0 HN.out.1.1
          have p1 := two_cell1 HN.out.1.1
          have p2 := two_cell0 HN.out.1.2
          have p3 := two_cell1 HN.out.1.2
          obtain ⟨hw1, hw2⟩ := wrc s[p]
          clear hd hV hl1
          go_wp2_with (go_at_call 63; refine (cd.out _).mono ?_; rintro e w' ⟨rfl, rfl⟩)
          have hne' : w.heap.size ≠ w1.heap.size := by omega
          refine wp_region_held_drew (S := (fun w' => w'.cell? ⟨w1.heap.size, 0, none⟩ = some (.slice x7 l7 m7) ∧ w'.cell? ⟨w1.heap.size, 1, none⟩ = some (.bool q7))) (by kernel_rfl) ?_ (fun hHeld => ?_)
          · (try dsimp only); go_keep
          refine wpAnyH_take (i := 1) (oi := ({ dst := some 31, op := Op.load 91 (Operand.tmp 7), type := 91, pos := "num.go:233", after := #[], guard := none } : Oper)) (v := .agg #[.slice x7 l7 m7, .bool q7]) rfl (by kernel_rfl) (by kernel_rfl) (by kernel_rfl) (fun _ _ _ h => h) (Or.inl ⟨by rfl, fun w hSw => ?_⟩) (by assumption) ?_
          · (try dsimp only at hSw); go_simp <;> with_reducible rfl
          try simp only [Act.put, List.setIfInBounds_toArray, List.set_cons_zero, List.set_cons_succ]
          refine wpAnyH_take (i := 3) (oi := ({ dst := some 33, op := Op.move (Operand.tmp 0), type := 9, pos := "num.go:233", after := #[], guard := none } : Oper)) (v := .string s) rfl (by kernel_rfl) (by kernel_rfl) (by kernel_rfl) (fun _ _ _ h => h) (Or.inl ⟨by rfl, fun w hSw => ?_⟩) (by assumption) ?_
          · (try dsimp only at hSw); go_simp <;> with_reducible rfl
          try simp only [Act.put, List.setIfInBounds_toArray, List.set_cons_zero, List.set_cons_succ]
          refine wpAnyH_take (i := 4) (oi := ({ dst := some 34, op := Op.move (Operand.tmp 4), type := 3, pos := "num.go:233", after := #[], guard := none } : Oper)) (v := .int .i64 p) rfl (by kernel_rfl) (by kernel_rfl) (by kernel_rfl) (fun _ _ _ h => h) (Or.inl ⟨by rfl, fun w hSw => ?_⟩) (by assumption) ?_
          · (try dsimp only at hSw); go_simp <;> with_reducible rfl
          try simp only [Act.put, List.setIfInBounds_toArray, List.set_cons_zero, List.set_cons_succ]
          refine wpAnyH_take (i := 5) (oi := ({ dst := some 35, op := Op.index 9 (Operand.tmp 33) (Operand.tmp 34), type := 5, pos := "num.go:233", after := #[{ on := 3, ground := Ground.data }, { on := 4, ground := Ground.data }], guard := none } : Oper)) (v := .int .u8 (s[p].toNat : Int)) rfl (by kernel_rfl) (by kernel_rfl) (by kernel_rfl) (fun _ _ _ h => h) (Or.inl ⟨by rfl, fun w hSw => ?_⟩) (by assumption) ?_
          · (try dsimp only at hSw); go_simp <;> with_reducible rfl
          try simp only [Act.put, List.setIfInBounds_toArray, List.set_cons_zero, List.set_cons_succ]
          refine wpAnyH_take (i := 6) (oi := ({ dst := some 36, op := Op.convert 5 3 (Operand.tmp 35), type := 3, pos := "num.go:233", after := #[{ on := 5, ground := Ground.data }], guard := none } : Oper)) (v := .int .i64 (s[p].toNat : Int)) rfl (by kernel_rfl) (by kernel_rfl) (by kernel_rfl) (fun _ _ _ h => h) (Or.inl ⟨by rfl, fun w hSw => ?_⟩) (by assumption) ?_
          · (try dsimp only at hSw); go_simp <;> with_reducible rfl
          try simp only [Act.put, List.setIfInBounds_toArray, List.set_cons_zero, List.set_cons_succ]
          refine wpAnyH_take (i := 7) (oi := ({ dst := some 37, op := Op.binOp BinOp.sub 3 (Operand.tmp 36) (Operand.const (Value.int IntKind.i64 48)) 3, type := 3, pos := "num.go:233", after := #[{ on := 6, ground := Ground.data }], guard := none } : Oper)) (v := .int .i64 ((s[p].toNat : Int) - 48)) rfl (by kernel_rfl) (by kernel_rfl) (by kernel_rfl) (fun _ _ _ h => h) (Or.inl ⟨by rfl, fun w hSw => ?_⟩) (by assumption) ?_
          · (try dsimp only at hSw); go_simp <;> with_reducible rfl
          try simp only [Act.put, List.setIfInBounds_toArray, List.set_cons_zero, List.set_cons_succ]
          refine wpAnyH_ready (rs := [0]) (by kernel_rfl) (by simp) ?_
          refine AllReadyH.cons (o := ({ dst := some 30, op := Op.load 91 (Operand.tmp 6), type := 91, pos := "num.go:233", after := #[], guard := none } : Oper)) rfl (fun K hK => ?_) AllReadyH.nil
          go_simp
          refine hK.out _ _ ?_ (fun hHeld => ?_)
          · (try dsimp only); go_keep
          clear hK K
          try simp only [Act.put, List.setIfInBounds_toArray, List.set_cons_zero, List.set_cons_succ]
          refine wpAnyH_ready (rs := [2]) (by kernel_rfl) (by simp) ?_
          refine AllReadyH.cons (o := ({ dst := some 32, op := Op.call { callee := Callee.value (Operand.func 65), args := #[Operand.tmp 30, Operand.tmp 31], argTypes := #[91, 91] }, type := 91, pos := "num.go:233", after := #[{ on := 0, ground := Ground.data }, { on := 1, ground := Ground.data }], guard := none } : Oper)) rfl (fun K hK => ?_) AllReadyH.nil
          go_simp
          go_wp2_with (go_at_call 65; refine (R.out.times _ (by exact gr0 _)).mono ?_; rintro e wT ⟨cT, lT, kT, qT, rfl, HT, CT, t0, t1, t2, t3⟩)
          refine hK.out _ _ ?_ (fun hHeld => ?_)
          · (try dsimp only); go_keep
          clear hK K
          try simp only [Act.put, List.setIfInBounds_toArray, List.set_cons_zero, List.set_cons_succ]
          refine wpAnyH_ready (rs := [8]) (by kernel_rfl) (by simp) ?_
          refine AllReadyH.cons (o := ({ dst := some 38, op := Op.call { callee := Callee.value (Operand.func 62), args := #[Operand.tmp 37], argTypes := #[3] }, type := 91, pos := "num.go:233", after := #[{ on := 7, ground := Ground.data }, { on := 2, ground := Ground.chain }], guard := none } : Oper)) rfl (fun K hK => ?_) AllReadyH.nil
          go_simp
          go_wp2_with (go_at_call 62; refine (R.out.digit _ (by exact HT.out.2)).mono ?_; rintro e wO ⟨cO, lO, kO, qO, rfl, HO, CO, o0, o1, o2, o3⟩)
          refine hK.out _ _ ?_ (fun hHeld => ?_)
          · (try dsimp only); go_keep
          clear hK K
          try simp only [Act.put, List.setIfInBounds_toArray, List.set_cons_zero, List.set_cons_succ]
          refine wpAnyH_ready (rs := [9]) (by kernel_rfl) (by simp) ?_
          refine AllReadyH.cons (o := ({ dst := some 39, op := Op.call { callee := Callee.value (Operand.func 64), args := #[Operand.tmp 32, Operand.tmp 38], argTypes := #[91, 91] }, type := 91, pos := "num.go:233", after := #[{ on := 2, ground := Ground.data }, { on := 8, ground := Ground.data }, { on := 8, ground := Ground.chain }], guard := none } : Oper)) rfl (fun K hK => ?_) AllReadyH.nil
          go_simp
          go_wp2_with (go_at_call 64; refine (R.out.sum _ _ _ (by exact HO.out.2) (by exact CO.out _ _ HT.out.1) (by exact HO.out.1)).mono ?_; rintro e wS ⟨cS, lS, kS, qS, rfl, HS, s0, s1, s2, s3⟩; have s4 := two_cell0 HS.out.1.2; have s5 := two_cell1 HS.out.1.2)
          refine hK.out _ _ ?_ (fun hHeld => ?_)
          · (try dsimp only); go_keep
          clear hK K
          try simp only [Act.put, List.setIfInBounds_toArray, List.set_cons_zero, List.set_cons_succ]
          refine wpAnyH_ready (rs := [10]) (by kernel_rfl) (by simp) ?_
          refine AllReadyH.cons (o := ({ dst := none, op := Op.store 91 (Operand.tmp 6) (Operand.tmp 39), type := 0, pos := "num.go:233", after := #[{ on := 9, ground := Ground.data }, { on := 9, ground := Ground.chain }, { on := 0, ground := Ground.phase }, { on := 1, ground := Ground.phase }, { on := 2, ground := Ground.phase }, { on := 3, ground := Ground.phase }, { on := 4, ground := Ground.phase }, { on := 5, ground := Ground.phase }, { on := 6, ground := Ground.phase }, { on := 7, ground := Ground.phase }, { on := 8, ground := Ground.phase }, { on := 9, ground := Ground.phase }], guard := none } : Oper)) rfl (fun K hK => ?_) AllReadyH.nil
          go_simp
          refine hK.out _ _ ?_ (fun hHeld => ?_)
          · (try dsimp only); go_keep
          clear hK K
          try simp only [Act.put, List.setIfInBounds_toArray, List.set_cons_zero, List.set_cons_succ]
          refine wpAnyH_done (by kernel_rfl) ?_ _
          go_wp2_with fail
          go_roundw
          case rel => exact ⟨p + 1, D ++ [s[p]], V * 10 + ((s[p].toNat : Int) - 48), cS, lS, kS, qS, by go_num, by omega, hidd (stored hne' HS.out), HA2⟩
          case measure => simp [RowKit.intOf]; omega
      · have HE := hidd (ends_end (s := s) (p := p) (by omega))
        go_wp2_with fail
        go_meet
        exact ⟨p, D, V, x, l, m, q, rfl, hp, HN, HA.out, HE.out⟩
  case rest =>
  obtain ⟨p, D, V, x, l, m, q, rfl, hp, HN, HA⟩ := hcut
  have HSG := hidd (signed_at HNEG.out HFR.out)
  by_cases hpf : p = frm
  · have VP : Hid (P = (0, false)) := by
      show _ = _
      rw [← HP.out]
      refine parse_no1 HSG.out ?_
      have := HA.out.2
      rw [hpf] at this
      exact this
    have hq : ((p : Int) == (frm : Int)) = true := by rw [hpf]; simp
    have HL := hidd HN.out.2.2.2
    clear hpf
    go_wp2_with fail
    go_ret2
    exact ⟨by rw [VP.out]; rfl, HL.out⟩
  have hq : ((p : Int) == (frm : Int)) = false := by simp; omega
  have HD0 : Hid (D ≠ []) := by
    show _ ≠ _
    intro e
    have := HA.out.1.2.2.1
    rw [e] at this
    simp at this
    omega
  have HDL : Hid (D.length ≤ s.size) := by show _ ≤ _; have := HA.out.1.2.2.1; omega
  clear hpf
  obtain ⟨dot, edot⟩ : ∃ b, decide ((s.data.toList.drop p).head? = some 46) = b := ⟨_, rfl⟩
  have HDOT := hidd edot
  clear edot
  go_upto_region 13 with fail
  go_cut [54] from 9 (fun t wx => t = .bool dot ∧ wc = wx)
  case first =>
    by_cases h0 : p < s.size
    · have hh := drop_cons s p h0
      have h0' : (p : Int) < s.size := by omega
      by_cases hc : (s[p].toNat : Int) = 46
      · have hb : ((s[p].toNat : Int) == 46) = true := by simpa using hc
        have HB : Hid (true = dot) := by
          show _ = _
          rw [← HDOT.out, hh]
          have : s[p] = 46 := by apply UInt8.toNat_inj.1; simp; omega
          simp [this]
        clear hh hc
        go_wp2_with fail
        go_meet
        exact ⟨by rw [HB.out], rfl⟩
      · have hb : ((s[p].toNat : Int) == 46) = false := by simpa using hc
        have HB : Hid (false = dot) := by
          show _ = _
          rw [← HDOT.out, hh]
          have : s[p] ≠ 46 := by intro e; apply hc; rw [e]; rfl
          simp [this]
        clear hh hc
        go_wp2_with fail
        go_meet
        exact ⟨by rw [HB.out], rfl⟩
    · have h0' : ¬ (p : Int) < s.size := by omega
      have HB : Hid (false = dot) := by
        show _ = _
        rw [← HDOT.out, List.drop_eq_nil_of_le (by simp; omega)]
        simp
      go_wp2_with fail
      go_meet
      exact ⟨by rw [HB.out], rfl⟩
  case rest =>
  obtain ⟨rfl, rfl⟩ := hcut
  go_upto_if 54 with fail
  go_cut [4, 8] from 9 (fun i k wx => ∃ (p2 kk : Nat) (E : List UInt8) (V2 : Int) (x : Option Addr) (l m : Nat) (q : Bool), i = .int .i64 p2 ∧ k = .int .i64 kk ∧ p2 ≤ s.size ∧ Hid (PBox w w1 wx x l m q x7 l7 m7 q7 ∧ PNum w wx x l m q x7 l7 m7 q7 V2) ∧ Hid (Jn s.data.toList frm D p p2 kk E V2 dot))
  case first =>
    cases dot
    · go_wp2_with fail
      go_meet
      exact ⟨p, 0, [], V, x, l, m, q, rfl, rfl, hp, HN, ⟨rfl, by omega, rfl, by rw [List.append_nil]; exact HA.out.1.2.2.2, fun _ => ⟨rfl, rfl⟩, fun h => (by cases h), fun h => (by cases h)⟩⟩
    · have hps : p < s.size := by
        rcases Nat.lt_or_ge p s.size with h | h
        · exact h
        · exfalso
          have := HDOT.out
          rw [List.drop_eq_nil_of_le (by simp; omega)] at this
          simp at this
      have HF0 : Hid (Fr s.data.toList frm D (p + 1) 0 [] V) := by
        refine ⟨rfl, by omega, rfl, by rw [List.append_nil]; exact HA.out.1.2.2.2, ?_⟩
        have h1 := HDOT.out
        rw [drop_cons s p hps] at h1
        have h2 : s[p] = 46 := by simpa using h1
        rw [HA.out.1.2.1, drop_cons s p hps, h2]
        simp
      go_wp2_with fail
      go_loopw [4, 8] (fun i k wr => ∃ (p2 kk : Nat) (E : List UInt8) (V2 : Int) (x : Option Addr) (l m : Nat) (q : Bool), i = .int .i64 p2 ∧ k = .int .i64 kk ∧ p2 ≤ s.size ∧ Hid (PBox w w1 wr x l m q x7 l7 m7 q7 ∧ PNum w wr x l m q x7 l7 m7 q7 V2) ∧ Hid (Fr s.data.toList frm D p2 kk E V2)) (fun i _ _ => s.size - (RowKit.intOf i).toNat)
      case atStart => exact ⟨p + 1, 0, [], V, x, l, m, q, by go_num, rfl, by omega, HN, HF0⟩
      case round =>
        clear HF0
        obtain ⟨p2, kk, E, V2, x, l, m, q, rfl, rfl, hp2, HN, HF⟩ := hrel
        have hk6 := HF.out.six
        by_cases hlt : p2 < s.size
        · have cd := hidd (fun w => digit_any s[p2] w)
          cases hd : isDig s[p2]
          · rw [hd] at cd
            have HE := hidd (ends_at hlt hd)
            clear hd
            by_cases hk0 : kk = 0
            · subst hk0
              have VP : Hid (P = (0, false)) := by
                show _ = _
                rw [← HP.out]
                have hE0 : E = [] := List.eq_nil_of_length_eq_zero HF.out.len
                have hy := HF.out.yes
                rw [hE0, List.nil_append] at hy
                have hsg := HSG.out
                rw [hy] at hsg
                refine parse_no3 hsg HA.out.1.1 (.inl ?_)
                rcases HE.out with e | ⟨c, t, e, hc⟩
                · rw [e]; rfl
                · rw [e]; exact digB_mem (c := c) (by simp) hc
              have HL := hidd HN.out.2.2.2
              go_wp2_with (go_at_call 63; refine (cd.out _).mono ?_; rintro e w' ⟨rfl, rfl⟩)
              go_ret2
              exact ⟨by rw [VP.out]; rfl, HL.out⟩
            · have hk0' : ((kk : Int) == 0) = false := by simp; omega
              have HJ : Hid (Jn s.data.toList frm D p p2 kk E V2 true) := ⟨HF.out.len, HF.out.six, HF.out.dig, HF.out.v, fun h => (by cases h), fun _ => HF.out.yes, fun _ => ⟨fun e => hk0 (by rw [← HF.out.len, e]; rfl), .inl HE.out⟩⟩
              clear hk0
              go_wp2_with (go_at_call 63; refine (cd.out _).mono ?_; rintro e w' ⟨rfl, rfl⟩)
              go_meet
              exact ⟨p2, kk, E, V2, x, l, m, q, rfl, rfl, hp2, HN, HJ⟩
          · rw [hd] at cd
            by_cases h6 : kk < 6
            · have hDE : (D ++ E).all isDig = true := by rw [List.all_append, HA.out.1.1, HF.out.dig]; rfl
              have hDL : (D ++ E).length ≤ 4999999999 := by rw [List.length_append, HF.out.len]; have := HDL.out; omega
              have hV := HF.out.v
              obtain ⟨hV0, hl1⟩ := len_ok hDE hDL
              have hl2 := len_ok2 hDE hd hDL
              rw [← hV] at hV0 hl1 hl2
              have hc : 48 ≤ (s[p2].toNat : Int) ∧ (s[p2].toNat : Int) ≤ 57 := by simp [isDig] at hd; omega
              have R := hidd (round_of HN.out.1 HN.out.2 hV0 (d := (s[p2].toNat : Int) - 48) (by omega) (by omega) hl1 hl2)
              have HF2 := hidd (HF.out.next hlt hd h6)
              have p0 := two_cell0 HN.out.1.1
              have p1 := two_cell1 HN.out.1.1
              have p2' := two_cell0 HN.out.1.2
              have p3 := two_cell1 HN.out.1.2
              obtain ⟨hw1, hw2⟩ := wrc s[p2]
              have h6' : (kk : Int) < 6 := by omega
              clear hd hV0 hl1 hl2 hDE hDL hV
              go_wp2_with (go_at_call 63; refine (cd.out _).mono ?_; rintro e w' ⟨rfl, rfl⟩)
              have hne' : w.heap.size ≠ w1.heap.size := by omega
              refine wp_region_held_drew (S := (fun w' => w'.cell? ⟨w1.heap.size, 0, none⟩ = some (.slice x7 l7 m7) ∧ w'.cell? ⟨w1.heap.size, 1, none⟩ = some (.bool q7))) (by kernel_rfl) ?_ (fun hHeld => ?_)
              · (try dsimp only); go_keep
              refine wpAnyH_take (i := 1) (oi := ({ dst := some 72, op := Op.load 91 (Operand.tmp 7), type := 91, pos := "num.go:243", after := #[], guard := none } : Oper)) (v := .agg #[.slice x7 l7 m7, .bool q7]) rfl (by kernel_rfl) (by kernel_rfl) (by kernel_rfl) (fun _ _ _ h => h) (Or.inl ⟨by rfl, fun w hSw => ?_⟩) (by assumption) ?_
              · (try dsimp only at hSw); go_simp <;> with_reducible rfl
              try simp only [Act.put, List.setIfInBounds_toArray, List.set_cons_zero, List.set_cons_succ]
              refine wpAnyH_take (i := 3) (oi := ({ dst := some 74, op := Op.move (Operand.tmp 0), type := 9, pos := "num.go:243", after := #[], guard := none } : Oper)) (v := .string s) rfl (by kernel_rfl) (by kernel_rfl) (by kernel_rfl) (fun _ _ _ h => h) (Or.inl ⟨by rfl, fun w hSw => ?_⟩) (by assumption) ?_
              · (try dsimp only at hSw); go_simp <;> with_reducible rfl
              try simp only [Act.put, List.setIfInBounds_toArray, List.set_cons_zero, List.set_cons_succ]
              refine wpAnyH_take (i := 4) (oi := ({ dst := some 75, op := Op.move (Operand.tmp 4), type := 3, pos := "num.go:243", after := #[], guard := none } : Oper)) (v := .int .i64 p2) rfl (by kernel_rfl) (by kernel_rfl) (by kernel_rfl) (fun _ _ _ h => h) (Or.inl ⟨by rfl, fun w hSw => ?_⟩) (by assumption) ?_
              · (try dsimp only at hSw); go_simp <;> with_reducible rfl
              try simp only [Act.put, List.setIfInBounds_toArray, List.set_cons_zero, List.set_cons_succ]
              refine wpAnyH_take (i := 5) (oi := ({ dst := some 76, op := Op.index 9 (Operand.tmp 74) (Operand.tmp 75), type := 5, pos := "num.go:243", after := #[{ on := 3, ground := Ground.data }, { on := 4, ground := Ground.data }], guard := none } : Oper)) (v := .int .u8 (s[p2].toNat : Int)) rfl (by kernel_rfl) (by kernel_rfl) (by kernel_rfl) (fun _ _ _ h => h) (Or.inl ⟨by rfl, fun w hSw => ?_⟩) (by assumption) ?_
              · (try dsimp only at hSw); go_simp <;> with_reducible rfl
              try simp only [Act.put, List.setIfInBounds_toArray, List.set_cons_zero, List.set_cons_succ]
              refine wpAnyH_take (i := 6) (oi := ({ dst := some 77, op := Op.convert 5 3 (Operand.tmp 76), type := 3, pos := "num.go:243", after := #[{ on := 5, ground := Ground.data }], guard := none } : Oper)) (v := .int .i64 (s[p2].toNat : Int)) rfl (by kernel_rfl) (by kernel_rfl) (by kernel_rfl) (fun _ _ _ h => h) (Or.inl ⟨by rfl, fun w hSw => ?_⟩) (by assumption) ?_
              · (try dsimp only at hSw); go_simp <;> with_reducible rfl
              try simp only [Act.put, List.setIfInBounds_toArray, List.set_cons_zero, List.set_cons_succ]
              refine wpAnyH_take (i := 7) (oi := ({ dst := some 78, op := Op.binOp BinOp.sub 3 (Operand.tmp 77) (Operand.const (Value.int IntKind.i64 48)) 3, type := 3, pos := "num.go:243", after := #[{ on := 6, ground := Ground.data }], guard := none } : Oper)) (v := .int .i64 ((s[p2].toNat : Int) - 48)) rfl (by kernel_rfl) (by kernel_rfl) (by kernel_rfl) (fun _ _ _ h => h) (Or.inl ⟨by rfl, fun w hSw => ?_⟩) (by assumption) ?_
              · (try dsimp only at hSw); go_simp <;> with_reducible rfl
              try simp only [Act.put, List.setIfInBounds_toArray, List.set_cons_zero, List.set_cons_succ]
              refine wpAnyH_ready (rs := [0]) (by kernel_rfl) (by simp) ?_
              refine AllReadyH.cons (o := ({ dst := some 71, op := Op.load 91 (Operand.tmp 6), type := 91, pos := "num.go:243", after := #[], guard := none } : Oper)) rfl (fun K hK => ?_) AllReadyH.nil
              go_simp
              refine hK.out _ _ ?_ (fun hHeld => ?_)
              · (try dsimp only); go_keep
              clear hK K
              try simp only [Act.put, List.setIfInBounds_toArray, List.set_cons_zero, List.set_cons_succ]
              refine wpAnyH_ready (rs := [2]) (by kernel_rfl) (by simp) ?_
              refine AllReadyH.cons (o := ({ dst := some 73, op := Op.call { callee := Callee.value (Operand.func 65), args := #[Operand.tmp 71, Operand.tmp 72], argTypes := #[91, 91] }, type := 91, pos := "num.go:243", after := #[{ on := 0, ground := Ground.data }, { on := 1, ground := Ground.data }], guard := none } : Oper)) rfl (fun K hK => ?_) AllReadyH.nil
              go_simp
              go_wp2_with (go_at_call 65; refine (R.out.times _ (by exact gr0 _)).mono ?_; rintro e wT ⟨cT, lT, kT, qT, rfl, HT, CT, t0, t1, t2, t3⟩)
              refine hK.out _ _ ?_ (fun hHeld => ?_)
              · (try dsimp only); go_keep
              clear hK K
              try simp only [Act.put, List.setIfInBounds_toArray, List.set_cons_zero, List.set_cons_succ]
              refine wpAnyH_ready (rs := [8]) (by kernel_rfl) (by simp) ?_
              refine AllReadyH.cons (o := ({ dst := some 79, op := Op.call { callee := Callee.value (Operand.func 62), args := #[Operand.tmp 78], argTypes := #[3] }, type := 91, pos := "num.go:243", after := #[{ on := 7, ground := Ground.data }, { on := 2, ground := Ground.chain }], guard := none } : Oper)) rfl (fun K hK => ?_) AllReadyH.nil
              go_simp
              go_wp2_with (go_at_call 62; refine (R.out.digit _ (by exact HT.out.2)).mono ?_; rintro e wO ⟨cO, lO, kO, qO, rfl, HO, CO, o0, o1, o2, o3⟩)
              refine hK.out _ _ ?_ (fun hHeld => ?_)
              · (try dsimp only); go_keep
              clear hK K
              try simp only [Act.put, List.setIfInBounds_toArray, List.set_cons_zero, List.set_cons_succ]
              refine wpAnyH_ready (rs := [9]) (by kernel_rfl) (by simp) ?_
              refine AllReadyH.cons (o := ({ dst := some 80, op := Op.call { callee := Callee.value (Operand.func 64), args := #[Operand.tmp 73, Operand.tmp 79], argTypes := #[91, 91] }, type := 91, pos := "num.go:243", after := #[{ on := 2, ground := Ground.data }, { on := 8, ground := Ground.data }, { on := 8, ground := Ground.chain }], guard := none } : Oper)) rfl (fun K hK => ?_) AllReadyH.nil
              go_simp
              go_wp2_with (go_at_call 64; refine (R.out.sum _ _ _ (by exact HO.out.2) (by exact CO.out _ _ HT.out.1) (by exact HO.out.1)).mono ?_; rintro e wS ⟨cS, lS, kS, qS, rfl, HS, s0, s1, s2, s3⟩; have s4 := two_cell0 HS.out.1.2; have s5 := two_cell1 HS.out.1.2)
              refine hK.out _ _ ?_ (fun hHeld => ?_)
              · (try dsimp only); go_keep
              clear hK K
              try simp only [Act.put, List.setIfInBounds_toArray, List.set_cons_zero, List.set_cons_succ]
              refine wpAnyH_ready (rs := [10]) (by kernel_rfl) (by simp) ?_
              refine AllReadyH.cons (o := ({ dst := none, op := Op.store 91 (Operand.tmp 6) (Operand.tmp 80), type := 0, pos := "num.go:243", after := #[{ on := 9, ground := Ground.data }, { on := 9, ground := Ground.chain }, { on := 0, ground := Ground.phase }, { on := 1, ground := Ground.phase }, { on := 2, ground := Ground.phase }, { on := 3, ground := Ground.phase }, { on := 4, ground := Ground.phase }, { on := 5, ground := Ground.phase }, { on := 6, ground := Ground.phase }, { on := 7, ground := Ground.phase }, { on := 8, ground := Ground.phase }, { on := 9, ground := Ground.phase }], guard := none } : Oper)) rfl (fun K hK => ?_) AllReadyH.nil
              go_simp
              refine hK.out _ _ ?_ (fun hHeld => ?_)
              · (try dsimp only); go_keep
              clear hK K
              try simp only [Act.put, List.setIfInBounds_toArray, List.set_cons_zero, List.set_cons_succ]
              refine wpAnyH_done (by kernel_rfl) ?_ _
              go_wp2_with fail
              go_roundw
              case rel => exact ⟨p2 + 1, kk + 1, E ++ [s[p2]], V2 * 10 + ((s[p2].toNat : Int) - 48), cS, lS, kS, qS, by go_num, by go_num, by omega, hidd (stored hne' HS.out), HF2⟩
              case measure => simp [RowKit.intOf]; omega
            · have h6' : ¬ (kk : Int) < 6 := by omega
              have hk0' : ((kk : Int) == 0) = false := by simp; omega
              have HJ : Hid (Jn s.data.toList frm D p p2 kk E V2 true) := ⟨HF.out.len, HF.out.six, HF.out.dig, HF.out.v, fun h => (by cases h), fun _ => HF.out.yes, fun _ => ⟨fun e => h6 (by rw [← HF.out.len, e]; simp), .inr (by omega)⟩⟩
              clear hd
              go_wp2_with (go_at_call 63; refine (cd.out _).mono ?_; rintro e w' ⟨rfl, rfl⟩)
              go_meet
              exact ⟨p2, kk, E, V2, x, l, m, q, rfl, rfl, hp2, HN, HJ⟩
        · have hlt' : ¬ (p2 : Int) < s.size := by omega
          have HE := hidd (ends_end (s := s) (p := p2) (by omega))
          by_cases hk0 : kk = 0
          · subst hk0
            have VP : Hid (P = (0, false)) := by
              show _ = _
              rw [← HP.out]
              have hE0 : E = [] := List.eq_nil_of_length_eq_zero HF.out.len
              have hy := HF.out.yes
              rw [hE0, List.nil_append] at hy
              have hsg := HSG.out
              rw [hy] at hsg
              refine parse_no3 hsg HA.out.1.1 (.inl ?_)
              rcases HE.out with e | ⟨c, t, e, hc⟩
              · rw [e]; rfl
              · rw [e]; exact digB_mem (c := c) (by simp) hc
            have HL := hidd HN.out.2.2.2
            go_wp2_with fail
            go_ret2
            exact ⟨by rw [VP.out]; rfl, HL.out⟩
          · have hk0' : ((kk : Int) == 0) = false := by simp; omega
            have HJ : Hid (Jn s.data.toList frm D p p2 kk E V2 true) := ⟨HF.out.len, HF.out.six, HF.out.dig, HF.out.v, fun h => (by cases h), fun _ => HF.out.yes, fun _ => ⟨fun e => hk0 (by rw [← HF.out.len, e]; rfl), .inl HE.out⟩⟩
            clear hk0
            go_wp2_with fail
            go_meet
            exact ⟨p2, kk, E, V2, x, l, m, q, rfl, rfl, hp2, HN, HJ⟩
  case rest =>
  obtain ⟨p2, kk, E, V2, x, l, m, q, rfl, rfl, hp2, HN, HJ⟩ := hcut
  have hk6 := HJ.out.six
  by_cases hlt : p2 < s.size
  · have hlt' : (p2 : Int) < s.size := by omega
    have VP : Hid (P = (0, false)) := by
      show _ = _
      rw [← HP.out]
      cases dot
      · obtain ⟨e1, e2⟩ := HJ.out.no rfl
        subst e2
        have hsg := HSG.out
        rw [HA.out.1.2.1, drop_cons s p2 hlt] at hsg
        have hc : isDig s[p2] = false := by
          rcases HA.out.2 with e | ⟨c, t, e, hc⟩
          · rw [drop_cons s p2 hlt] at e; cases e
          · rw [drop_cons s p2 hlt] at e; cases e; exact hc
        refine parse_no2 hsg HA.out.1.1 hc ?_
        intro e
        have := HDOT.out
        rw [drop_cons s p2 hlt, e] at this
        simp at this
      · have hsg := HSG.out
        rw [HJ.out.yes rfl] at hsg
        refine parse_no3 hsg HA.out.1.1 ?_
        rcases (HJ.out.ends rfl).2 with h | h
        · left
          rcases h with e | ⟨c, t, e, hc⟩
          · rw [drop_cons s p2 hlt] at e; cases e
          · exact digB_mem (c := c) (by rw [e]; simp) hc
        · right
          rw [List.length_append, HJ.out.len, drop_cons s p2 hlt]
          simp
          omega
    have HL := hidd HN.out.2.2.2
    go_wp2_with fail
    go_ret2
    exact ⟨by rw [VP.out]; rfl, HL.out⟩
  have hlt' : ¬ (p2 : Int) < s.size := by omega
  have VP : Hid (P = if val (D ++ E ++ List.replicate (6 - kk) 48) 0 ≤ 9223372036854775807 then (if neg then -(val (D ++ E ++ List.replicate (6 - kk) 48) 0) else val (D ++ E ++ List.replicate (6 - kk) 48) 0, true) else (0, false)) := by
    show _ = _
    rw [← HP.out, ← HJ.out.len]
    have hnil : s.data.toList.drop p2 = [] := List.drop_eq_nil_of_le (by simp; omega)
    refine parse_yes HSG.out HA.out.1.1 HD0.out HJ.out.dig (by rw [HJ.out.len]; exact hk6) ?_
    cases dot
    · obtain ⟨e1, e2⟩ := HJ.out.no rfl
      left
      subst e2
      rw [HA.out.1.2.1, hnil, List.append_nil]
      exact ⟨rfl, e1⟩
    · right
      rw [HJ.out.yes rfl, hnil, List.append_nil]
      exact ⟨rfl, (HJ.out.ends rfl).1⟩
  have hDEa : (D ++ E).all isDig = true := by rw [List.all_append, HA.out.1.1, HJ.out.dig]; rfl
  have HDE := hidd hDEa
  have HDEL : Hid ((D ++ E).length ≤ 4999999980) := by show _ ≤ _; rw [List.length_append, HJ.out.len]; have := HDL.out; omega
  have HV2 := hidd HJ.out.v
  have hrep : ∀ n, (D ++ E ++ List.replicate n 48).all isDig = true := fun n => by
    rw [List.all_append, HDE.out]
    simp [List.all_replicate]
    right; decide
  have HREP := hidd hrep
  have hlen : ∀ n, n ≤ 6 → (D ++ E ++ List.replicate n 48).length ≤ 4999999999 := fun n hn => by
    rw [List.length_append, List.length_replicate]; have := HDEL.out; omega
  have HLEN := hidd hlen
  clear hDEa hrep hlen hlt HA HJ HSG HDOT HD0 HDL
  go_upto_block 4 with fail
  go_cut [8] from 9 (fun k wx => ∃ (V3 : Int) (x : Option Addr) (l m : Nat) (q : Bool), Hid (PBox w w1 wx x l m q x7 l7 m7 q7 ∧ PNum w wx x l m q x7 l7 m7 q7 V3) ∧ Hid (V3 = val (D ++ E ++ List.replicate (6 - kk) 48) 0))
  case first =>
    go_wp2_with fail
    go_loopw [8] (fun k wr => ∃ (j : Nat) (V3 : Int) (x : Option Addr) (l m : Nat) (q : Bool), k = .int .i64 ((kk + j : Nat) : Int) ∧ kk + j ≤ 6 ∧ Hid (PBox w w1 wr x l m q x7 l7 m7 q7 ∧ PNum w wr x l m q x7 l7 m7 q7 V3) ∧ Hid (V3 = val (D ++ E ++ List.replicate j 48) 0)) (fun k _ => 6 - (RowKit.intOf k).toNat)
    case atStart => exact ⟨0, V2, x, l, m, q, by simp, by omega, HN, by show _ = _; rw [List.replicate_zero, List.append_nil]; exact HV2.out⟩
    case round =>
      obtain ⟨j, V3, x, l, m, q, rfl, hj, HN, HV⟩ := hrel
      by_cases h6 : kk + j < 6
      · have h6' : ((kk + j : Nat) : Int) < 6 := by omega
        have hb := len_ok (HREP.out j) (HLEN.out j (by omega))
        rw [← HV.out] at hb
        have cT := hidd (times_round HN.out.1 HN.out.2 hb.2)
        have HV' : Hid (V3 * 10 = val (D ++ E ++ List.replicate (j + 1) 48) 0) := by
          show _ = _
          rw [List.replicate_succ', ← List.append_assoc, val_snoc, HV.out]
          simp
        have p0 := two_cell0 HN.out.1.1
        have p1 := two_cell1 HN.out.1.1
        have p2' := two_cell0 HN.out.1.2
        have p3 := two_cell1 HN.out.1.2
        have hne' : w.heap.size ≠ w1.heap.size := by omega
        clear hb
        go_wp2_with fail
        refine cT.out.mono ?_
        rintro e wT ⟨cS, lS, kS, qS, rfl, HS, s0, s1, s2, s3⟩
        go_wp2_with fail
        go_roundw
        case rel => exact ⟨j + 1, V3 * 10, cS, lS, kS, qS, by go_num, by omega, hidd (stored hne' HS.out), HV'⟩
        case measure => simp [RowKit.intOf]; omega
      · have h6' : ¬ ((kk + j : Nat) : Int) < 6 := by omega
        obtain rfl : j = 6 - kk := by omega
        go_wp2_with fail
        go_meet
        exact ⟨V3, x, l, m, q, HN, HV⟩
  case rest =>
  obtain ⟨V3, x, l, m, q, HN, HV⟩ := hcut
  have hb := len_ok (HREP.out (6 - kk)) (HLEN.out (6 - kk) (by omega))
  rw [← HV.out] at hb VP
  obtain ⟨hV0, hVl⟩ := hb
  have HVL := hidd hVl
  have p0 := two_cell0 HN.out.1.1
  have p1 := two_cell1 HN.out.1.1
  have p2' := two_cell0 HN.out.1.2
  have p3 := two_cell1 HN.out.1.2
  have hne' : w.heap.size ≠ w1.heap.size := by omega
  clear hVl HV HREP HLEN HV2 HDE HDEL
  have hsum : ∀ z : Int, z.natAbs = V3.natAbs → (repr (9223372036854775807 + z.natAbs)).length ≤ 1000000000000 := fun z hz => by
    rw [hz]
    exact repr_sum_len HVL.out
  cases neg
  · obtain rfl : frm = 0 := by have := HFR.out; simpa using this
    by_cases hm : V3 ≤ 9223372036854775807
    · have ci := hidd (int_in wc x l m q V3 HN.out.2.1 (hsum V3 rfl) hm (by omega))
      have VP2 : Hid (P = (V3, true)) := by show _ = _; rw [VP.out]; simp [hm]
      have HL := hidd HN.out.2.2.2
      clear hsum hm
      go_wp2_with fail
      refine ci.out.mono ?_
      rintro e w5 ⟨rfl, hb5⟩
      have B5 := hidd (key2 HL.out hb5)
      go_wp2_with fail
      go_ret2
      exact ⟨by rw [VP2.out]; rfl, B5.out⟩
    · have ci := hidd (int_out wc x l m q V3 HN.out.2.1 (hsum V3 rfl) (.inl (by omega)))
      have VP2 : Hid (P = (0, false)) := by show _ = _; rw [VP.out]; simp [hm]
      have HL := hidd HN.out.2.2.2
      clear hsum hm
      go_wp2_with fail
      refine ci.out.mono ?_
      rintro e w5 ⟨rfl, hb5⟩
      have B5 := hidd (key2 HL.out hb5)
      go_wp2_with fail
      go_ret2
      exact ⟨by rw [VP2.out]; rfl, B5.out⟩
  · obtain rfl : frm = 1 := by have := HFR.out; simpa using this
    have cN := hidd (neg_round HN.out.1 HN.out.2)
    go_wp2_with fail
    refine cN.out.mono ?_
    rintro e wT ⟨cS, lS, kS, qS, rfl, HS, s0, s1, s2, s3⟩
    have HT := hidd (stored hne' HS.out)
    go_upto_region 28 with fail
    clear s0 s1 s2 s3 p0 p1 p2' p3
    generalize ((wT.setCell ⟨w.heap.size, 0, none⟩ (.slice cS lS kS)).setCell ⟨w.heap.size, 1, none⟩ (.bool qS)) = wz at HT ⊢
    have p0 := two_cell0 HT.out.1.1
    have p1 := two_cell1 HT.out.1.1
    have HL := hidd HT.out.2.2.2
    by_cases hm : V3 ≤ 9223372036854775807
    · have ci := hidd (int_in wz cS lS kS qS (-V3) HT.out.2.1 (hsum (-V3) (by omega)) (by omega) (by omega))
      have VP2 : Hid (P = (-V3, true)) := by show _ = _; rw [VP.out]; simp [hm]
      clear hsum hm
      go_wp2_with fail
      refine ci.out.mono ?_
      rintro e w5 ⟨rfl, hb5⟩
      have B5 := hidd (key2 HL.out hb5)
      go_wp2_with fail
      go_ret2
      exact ⟨by rw [VP2.out]; rfl, B5.out⟩
    · have ci := hidd (int_out wz cS lS kS qS (-V3) HT.out.2.1 (hsum (-V3) (by omega)) (.inr (by omega)))
      have VP2 : Hid (P = (0, false)) := by show _ = _; rw [VP.out]; simp [hm]
      clear hsum hm
      go_wp2_with fail
      refine ci.out.mono ?_
      rintro e w5 ⟨rfl, hb5⟩
      have B5 := hidd (key2 HL.out hb5)
      go_wp2_with fail
      go_ret2
      exact ⟨by rw [VP2.out]; rfl, B5.out⟩
end Go.Proofs.YtjbkjeabobccaabGreatDoor
