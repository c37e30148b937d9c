import Derived.Test.YtjbkjeabobccaacDoorRefPrint5
namespace Go.Proofs.YtjbkjeabobccaacDoor
open Go.RowKit Go.Sort Go.Lib
set_option linter.unusedVariables false

/-- A small letter as a capital one. -/
def up (c : UInt8) : UInt8 := if 97 ≤ c.toNat ∧ c.toNat ≤ 122 then c - 32 else c
def isNum (c : UInt8) : Bool := decide (48 ≤ c.toNat) && decide (c.toNat ≤ 57)
def upOk (c : UInt8) : Bool := (isLet (up c) == isLet c) && (!isLet c || (letNum (up c) == letNum c && decide (((up c).toNat : Int) = 64 + letNum c) && decide (1 ≤ letNum c) && decide (letNum c ≤ 26))) && (decide (up c = 36) == decide (c = 36)) && (isNum (up c) == isNum c) && (!isNum c || (up c == c))
theorem up_all : ∀ n, n < 256 → upOk (UInt8.ofNat n) = true := by decide +kernel
theorem up_ok (c : UInt8) : upOk c = true := by
  have := up_all c.toNat c.toNat_lt
  rwa [UInt8.ofNat_toNat] at this
theorem up_let (c : UInt8) : isLet (up c) = isLet c := by have := up_ok c; simp [upOk] at this; exact this.1.1.1.1
theorem up_36 (c : UInt8) : up c = 36 ↔ c = 36 := by have := up_ok c; simp [upOk] at this; exact this.1.1.2
theorem up_num (c : UInt8) : isNum (up c) = isNum c := by have := up_ok c; simp [upOk] at this; exact this.1.2
theorem up_same {c : UInt8} (h : isNum c = true) : up c = c := by
  have := up_ok c
  simp [upOk, h] at this
  exact this.2
theorem up_letter {c : UInt8} (h : isLet c = true) : letNum (up c) = letNum c ∧ ((up c).toNat : Int) = 64 + letNum c ∧ 1 ≤ letNum c ∧ letNum c ≤ 26 := by
  have := up_ok c
  simp [upOk, h] at this
  obtain ⟨⟨⟨⟨_, h2⟩, _⟩, _⟩, _⟩ := this
  exact ⟨h2.1.1.1, h2.1.1.2, h2.1.2, h2.2⟩
theorem num_iff (c : UInt8) : isNum c = true ↔ ¬ ((c.toNat : Int) < 48 ∨ 57 < (c.toNat : Int)) := by simp [isNum]; omega

theorem cn_up : ∀ (l : List UInt8) (n : Int), l.all isLet = true → cn (l.map up) n = cn l n
  | [], _, _ => rfl
  | c :: l, n, h => by
    simp only [List.all_cons, Bool.and_eq_true] at h
    rw [List.map_cons, cn, cn, (up_letter h.1).1, cn_up l _ h.2]
theorem colR_up (l : List UInt8) (h : l.all isLet = true) : colR (l.map up) = colR l := by
  unfold colR
  rw [List.length_map, cn_up l 0 h]
theorem rr_up : ∀ (l : List UInt8) (n : Int), rr (l.map up) n = rr l n
  | [], _ => rfl
  | c :: l, n => by
    rw [List.map_cons, rr, rr]
    have e := up_num c
    cases hc : isNum c
    · rw [hc] at e
      have h1 : (c.toNat : Int) < 48 ∨ 57 < (c.toNat : Int) := Decidable.byContradiction fun hn => by have := (num_iff c).2 hn; rw [hc] at this; cases this
      have h2 : ((up c).toNat : Int) < 48 ∨ 57 < ((up c).toNat : Int) := Decidable.byContradiction fun hn => by have := (num_iff (up c)).2 hn; rw [e] at this; cases this
      rw [if_pos h1, if_pos h2]
    · rw [up_same hc, rr_up l]
theorem rowR_up (l : List UInt8) : rowR (l.map up) = rowR l := by
  unfold rowR
  rw [rr_up]
  have h48 : (l.map up).head? = some 48 ↔ l.head? = some 48 := by
    cases l with
    | nil => simp
    | cons c l =>
      simp only [List.map_cons, List.head?_cons, Option.some.injEq]
      constructor
      · intro h
        have hn : isNum (up c) = true := by rw [h]; rfl
        rw [up_num] at hn
        rw [← up_same hn]; exact h
      · rintro rfl; exact up_same rfl
  have hnil : l.map up = [] ↔ l = [] := by simp
  simp only [h48, hnil]
theorem pre_up (l : List UInt8) : Lib.hasPrefix (l.map up) [36] = Lib.hasPrefix l [36] ∧ Lib.trimPrefix (l.map up) [36] = (Lib.trimPrefix l [36]).map up := by
  cases l with
  | nil => simp [Lib.hasPrefix, Lib.trimPrefix, List.isPrefixOf]
  | cons c l =>
    have h := up_36 c
    by_cases hc : c = 36
    · subst hc
      have : up 36 = 36 := h.2 rfl
      simp [Lib.hasPrefix, Lib.trimPrefix, List.isPrefixOf, this]
    · have hc1 : (36 == c) = false := by simp only [beq_eq_false_iff_ne]; exact fun e => hc e.symm
      have hc2 : (36 == up c) = false := by simp only [beq_eq_false_iff_ne]; exact fun e => hc (h.1 e.symm)
      simp [Lib.hasPrefix, Lib.trimPrefix, List.isPrefixOf, hc1, hc2]
theorem cellR_up (l : List UInt8) : cellR (l.map up) = cellR l := by
  have hp : ∀ m : List UInt8, (m.map up).takeWhile isLet = (m.takeWhile isLet).map up ∧ (m.map up).dropWhile isLet = (m.dropWhile isLet).map up := by
    intro m
    induction m with
    | nil => simp
    | cons c m ih =>
      rw [List.map_cons, List.takeWhile_cons, List.takeWhile_cons, List.dropWhile_cons, List.dropWhile_cons, up_let]
      split
      · exact ⟨by rw [ih.1]; rfl, ih.2⟩
      · exact ⟨rfl, rfl⟩
  unfold cellR
  simp only [(pre_up l).1, (pre_up l).2, (hp _).1, (hp _).2]
  rw [(pre_up _).1, (pre_up _).2, colR_up _ List.all_takeWhile, rowR_up]

/-! What the program reads is a cell's own name. -/
theorem fix_parts (l : List UInt8) : l = fixL (Lib.hasPrefix l [36]) ++ Lib.trimPrefix l [36] := by
  cases l with
  | nil => simp [Lib.hasPrefix, Lib.trimPrefix, List.isPrefixOf, fixL]
  | cons c l =>
    by_cases hc : c = 36
    · subst hc; simp [Lib.hasPrefix, Lib.trimPrefix, List.isPrefixOf, fixL]
    · have hc1 : (36 == c) = false := by simp only [beq_eq_false_iff_ne]; exact fun e => hc e.symm
      simp [Lib.hasPrefix, Lib.trimPrefix, List.isPrefixOf, fixL, hc1]
theorem ofNat_of {c : UInt8} {n : Nat} (h : (c.toNat : Int) = n) : c = UInt8.ofNat n := by
  apply UInt8.toNat_inj.1
  have := c.toNat_lt
  simp
  omega
theorem col_name (L : List UInt8) (h : L.all isLet = true) (hc : (colR L).2 = true) : 0 ≤ (colR L).1 ∧ (colR L).1 < 64 ∧ L.map up = colN (colR L).1.toNat := by
  unfold colR at hc ⊢
  by_cases hl : L.length < 1 ∨ 2 < L.length
  · rw [if_pos hl] at hc; cases hc
  · rw [if_neg hl] at hc ⊢
    simp only [decide_eq_true_eq] at hc
    match L, hl, h, hc with
    | [a], _, h, hc =>
      simp only [List.all_cons, List.all_nil, Bool.and_true] at h
      obtain ⟨_, u1, u2, u3⟩ := up_letter h
      simp only [cn] at hc ⊢
      refine ⟨by omega, by omega, ?_⟩
      unfold colN
      rw [if_pos (by omega)]
      simp only [List.map_cons, List.map_nil]
      congr 1
      exact ofNat_of (by omega)
    | [a, b], _, h, hc =>
      simp only [List.all_cons, List.all_nil, Bool.and_true, Bool.and_eq_true] at h
      obtain ⟨_, u1, u2, u3⟩ := up_letter h.1
      obtain ⟨_, v1, v2, v3⟩ := up_letter h.2
      simp only [cn] at hc ⊢
      refine ⟨by omega, by omega, ?_⟩
      unfold colN
      rw [if_neg (by omega)]
      simp only [List.map_cons, List.map_nil]
      rw [ofNat_of (c := up a) (n := 64 + ((0 * 26 + letNum a) * 26 + letNum b - 1).toNat / 26) (by omega), ofNat_of (c := up b) (n := 65 + ((0 * 26 + letNum a) * 26 + letNum b - 1).toNat % 26) (by omega)]
    | [], hl, _, _ => exact absurd (.inl (by simp)) hl
    | a :: b :: c :: L, hl, _, _ => exact absurd (.inr (by simp)) hl
/-- What a row of digits is. -/
def vn : List UInt8 → Nat → Nat
  | [], n => n
  | c :: l, n => vn l (n * 10 + (c.toNat - 48))
theorem vn_append : ∀ (l m : List UInt8) (n : Nat), vn (l ++ m) n = vn m (vn l n)
  | [], _, _ => rfl
  | _ :: l, m, _ => vn_append l m _
theorem rr_vn : ∀ (l : List UInt8) (n : Nat) (v : Int), rr l n = some v → l.all isNum = true ∧ v = vn l n ∧ (n ≤ 1024 → v ≤ 1024)
  | [], n, v, h => by simp [rr] at h; subst h; exact ⟨rfl, rfl, fun h => by omega⟩
  | c :: l, n, v, h => by
    rw [rr] at h
    split at h
    · cases h
    · rename_i hc
      split at h
      · cases h
      · have hn := (num_iff c).2 hc
        have e : (n : Int) * 10 + ((c.toNat : Int) - 48) = ((n * 10 + (c.toNat - 48) : Nat) : Int) := by omega
        rw [e] at h
        obtain ⟨i1, i2, i3⟩ := rr_vn l _ v h
        exact ⟨by simp [hn, i1], i2, fun _ => i3 (by omega)⟩
theorem vn_mono : ∀ (l : List UInt8) (n : Nat), n ≤ vn l n
  | [], _ => Nat.le_refl _
  | c :: l, n => Nat.le_trans (by omega) (vn_mono l _)
theorem dec_vn (l : List UInt8) (hl : l.all isNum = true) (h0 : l.head? ≠ some 48) (hn : l ≠ []) : decDigits (vn l 0) = l := by
  have key : ∀ k (l : List UInt8), l.length = k → l.all isNum = true → l.head? ≠ some 48 → l ≠ [] → decDigits (vn l 0) = l := by
    intro k
    induction k with
    | zero => intro l hk _ _ hn; exact absurd (List.eq_nil_of_length_eq_zero hk) hn
    | succ k ih =>
      intro l hk ha h0 hn
      obtain ⟨m, c, rfl⟩ : ∃ m c, l = m ++ [c] := ⟨l.dropLast, l.getLast hn, (List.dropLast_concat_getLast hn).symm⟩
      rw [List.all_append] at ha
      simp only [Bool.and_eq_true, List.all_cons, List.all_nil, Bool.and_true] at ha
      have hc : 48 ≤ c.toNat ∧ c.toNat ≤ 57 := by have := ha.2; simp [isNum] at this; omega
      rw [vn_append]
      show decDigits (vn m 0 * 10 + (c.toNat - 48)) = _
      have hcc : c = UInt8.ofNat (48 + (c.toNat - 48)) := by rw [show 48 + (c.toNat - 48) = c.toNat by omega, UInt8.ofNat_toNat]
      by_cases hm : m = []
      · subst hm
        rw [decDigits, dif_pos (by simp [vn]; omega)]
        simp only [vn, Nat.zero_mul, Nat.zero_add, List.nil_append]
        rw [← hcc]
      · have hm0 : m.head? ≠ some 48 := by cases m with | nil => exact absurd rfl hm | cons a m => simpa using h0
        have im := ih m (by simp at hk; omega) ha.1 hm0 hm
        have hpos : 0 < vn m 0 := by
          cases m with
          | nil => exact absurd rfl hm
          | cons a m =>
            have h1 := ha.1
            simp only [List.all_cons, Bool.and_eq_true] at h1
            have ha' : 48 ≤ a.toNat := by have := h1.1; simp [isNum] at this; omega
            have hne : a.toNat ≠ 48 := by intro e; apply hm0; simp only [List.head?_cons, Option.some.injEq]; apply UInt8.toNat_inj.1; simpa using e
            have := vn_mono m (0 * 10 + (a.toNat - 48))
            show 0 < vn m (0 * 10 + (a.toNat - 48))
            omega
        rw [decDigits, dif_neg (by omega), show (vn m 0 * 10 + (c.toNat - 48)) / 10 = vn m 0 by omega, show (vn m 0 * 10 + (c.toNat - 48)) % 10 = c.toNat - 48 by omega, im, ← hcc]
  exact key l.length l rfl hl h0 hn
theorem row_name (R : List UInt8) (h : (rowR R).2 = true) : 0 ≤ (rowR R).1 ∧ (rowR R).1 < 1024 ∧ R.map up = dg 4 ((rowR R).1.toNat + 1) := by
  unfold rowR at h ⊢
  by_cases h0 : R = [] ∨ R.head? = some 48
  · rw [if_pos h0] at h; cases h
  · rw [if_neg h0] at h ⊢
    cases hr : rr R 0 with
    | none => rw [hr] at h; cases h
    | some n =>
      obtain ⟨i1, i2, i3⟩ := rr_vn R 0 n (by simpa using hr)
      have hd := dec_vn R i1 (fun e => h0 (.inr e)) (fun e => h0 (.inl e))
      have hpos : 0 < vn R 0 := by
        rcases Nat.eq_zero_or_pos (vn R 0) with hz | hz
        · rw [hz, decDigits] at hd
          simp at hd
          exact absurd (by rw [← hd]; rfl) (fun e => h0 (.inr e))
        · exact hz
      have hle := i3 (by omega)
      have hmap : R.map up = R := by
        have : ∀ a ∈ R, up a = a := fun a ha => up_same (List.all_eq_true.1 i1 a ha)
        rw [List.map_congr_left this, List.map_id']
      simp only
      refine ⟨by omega, by omega, ?_⟩
      rw [hmap, show ((n : Int) - 1).toNat + 1 = vn R 0 by omega, dg_eq 4 (vn R 0) (by omega) (by omega), hd]
/-- A text that tells a cell is that cell's name, but for small letters. -/
theorem cell_is_name (l : List UInt8) (h : (cellR l).2.2.2.2 = true) : 0 ≤ (cellR l).1 ∧ (cellR l).1 < 64 ∧ 0 ≤ (cellR l).2.1 ∧ (cellR l).2.1 < 1024 ∧ l.map up = fixL (cellR l).2.2.1 ++ colN (cellR l).1.toNat ++ fixL (cellR l).2.2.2.1 ++ dg 4 ((cellR l).2.1.toNat + 1) := by
  unfold cellR at h ⊢
  simp only at h ⊢
  split at h
  · rename_i hh
    rw [if_pos hh]
    obtain ⟨c1, c2, c3⟩ := col_name _ List.all_takeWhile hh.1
    obtain ⟨r1, r2, r3⟩ := row_name _ hh.2
    refine ⟨c1, c2, r1, r2, ?_⟩
    have e1 := fix_parts l
    have e2 := fix_parts ((Lib.trimPrefix l [36]).dropWhile isLet)
    have hfix : ∀ f, (fixL f).map up = fixL f := by intro f; cases f <;> decide
    simp only
    rw [← c3, ← r3]
    conv => lhs; rw [e1, ← List.takeWhile_append_dropWhile (p := isLet) (l := Lib.trimPrefix l [36]), e2]
    simp only [List.map_append, hfix, List.append_assoc]
  · cases h
end Go.Proofs.YtjbkjeabobccaacDoor
