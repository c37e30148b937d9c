import Derived.Test.YtjbkjeabobccaabGreatDoorNumPrints2
namespace Go.Proofs.YtjbkjeabobccaabGreatDoor
open Go.RowKit Go.Sort Go.Lib
set_option linter.unusedVariables false

theorem index_miss : ∀ (l : List UInt8), l.all isDig = true → Lib.index l [46] = -1
  | [], _ => by simp [Lib.index]
  | c :: l, h => by
    simp only [List.all_cons, Bool.and_eq_true] at h
    have hc : (46 == c) = false := by
      have : c ≠ 46 := by rintro rfl; have := h.1; revert this; decide
      simp only [beq_eq_false_iff_ne]; exact fun h => this h.symm
    simp [Lib.index, List.isPrefixOf, hc, index_miss l h.2]
theorem index_hit : ∀ (l m : List UInt8), l.all isDig = true → Lib.index (l ++ 46 :: m) [46] = l.length
  | [], m, _ => by simp [Lib.index, List.isPrefixOf]
  | c :: l, m, h => by
    simp only [List.all_cons, Bool.and_eq_true] at h
    have hc : (46 == c) = false := by
      have : c ≠ 46 := by rintro rfl; have := h.1; revert this; decide
      simp only [beq_eq_false_iff_ne]; exact fun h => this h.symm
    have ih := index_hit l m h.2
    rw [List.cons_append, Lib.index]
    simp only [List.isPrefixOf, hc, Bool.false_and, Bool.false_eq_true, if_false, ih]
    rw [if_neg (by simp)]
    simp
theorem cut_hit (l m : List UInt8) (h : l.all isDig = true) : Lib.cut (l ++ 46 :: m) [46] = (l, m, true) := by
  unfold Lib.cut
  rw [index_hit l m h, if_pos (by omega)]
  simp
theorem cut_miss (l : List UInt8) (h : l.all isDig = true) : Lib.cut l [46] = (l, [], false) := by
  unfold Lib.cut
  rw [index_miss l h, if_neg (by omega)]
theorem pre_neg (l : List UInt8) : Lib.hasPrefix (45 :: l) [45] = true ∧ Lib.trimPrefix (45 :: l) [45] = l := by
  simp [Lib.hasPrefix, Lib.trimPrefix, List.isPrefixOf]
theorem pre_pos (l m : List UInt8) (h : isDigB l = true) : Lib.hasPrefix (l ++ m) [45] = false ∧ Lib.trimPrefix (l ++ m) [45] = l ++ m := by
  cases l with
  | nil => simp [isDigB] at h
  | cons c l =>
    have hc : (45 == c) = false := by
      have : c ≠ 45 := by
        rintro rfl
        simp [isDigB] at h
        have := h.1
        revert this; decide
      simp only [beq_eq_false_iff_ne]; exact fun h => this h.symm
    simp [Lib.hasPrefix, Lib.trimPrefix, List.isPrefixOf, hc]

theorem dec_digB (u : Nat) : isDigB (Lib.decDigits u) = true := by
  have h := (dec_val u).1
  have hl : Lib.decDigits u ≠ [] := by
    rw [Lib.decDigits]
    split <;> simp
  simp [isDigB, h, hl]
theorem frac_ok (a : Nat) : (fracL a).all isDig = true ∧ (fracL a).length ≤ 6 ∧ fracL a ++ List.replicate (6 - (fracL a).length) 48 = digs 6 (a % 1000000) := by
  have e : fracL a = Lib.trimRightB (digs 6 (a % 1000000)) 48 := by
    unfold fracL
    rw [show (1000000 : Nat) + a % 1000000 = 10 ^ 6 + a % 1000000 by rfl, dec_digs 6 _ (Nat.mod_lt _ (by decide))]
    rfl
  have hl : (digs 6 (a % 1000000)).length = 6 := by
    have : ∀ k g, (digs k g).length = k := by
      intro k
      induction k with
      | zero => intro g; rfl
      | succ k ih => intro g; simp [digs, ih]
    exact this 6 _
  have hb := trim_back (digs 6 (a % 1000000))
  rw [hl] at hb
  have hle := trimRightB_le (digs 6 (a % 1000000)) 48
  rw [hl] at hle
  rw [e]
  refine ⟨?_, hle, hb⟩
  have hd := (digs_val 6 (a % 1000000) 0 (Nat.mod_lt _ (by decide))).1
  rw [← hb, List.all_append] at hd
  simp only [Bool.and_eq_true] at hd
  exact hd.1

/-- The digits without a point tell the number of millionths. -/
theorem whole_val (a : Nat) (h : a ≤ 9223372036854775807) : rdR (Lib.decDigits (a / 1000000) ++ fracL a ++ List.replicate (6 - (fracL a).length) 48) = ((a : Int), true) := by
  obtain ⟨_, _, h3⟩ := frac_ok a
  rw [List.append_assoc, h3]
  obtain ⟨d1, d2⟩ := dec_val (a / 1000000)
  obtain ⟨g1, g2⟩ := digs_val 6 (a % 1000000) (val (Lib.decDigits (a / 1000000)) 0) (Nat.mod_lt _ (by decide))
  have hv : val (Lib.decDigits (a / 1000000) ++ digs 6 (a % 1000000)) 0 = (a : Int) := by
    rw [val_append, g2, d2 0]
    have : (10 : Int) ^ 6 = 1000000 := by decide
    rw [this]
    omega
  have := rd_val (Lib.decDigits (a / 1000000) ++ digs 6 (a % 1000000)) 0 (by rw [List.all_append, d1, g1]; rfl) (by omega) (by rw [hv]; omega)
  unfold rdR
  rw [this, hv]
  simp
  omega

theorem printL_eq (n : Int) : printL n = (if n < 0 then [45] else []) ++ (Lib.decDigits (n.natAbs / 1000000) ++ (if (fracL n.natAbs).isEmpty then [] else 46 :: fracL n.natAbs)) := by
  unfold printL
  rw [List.append_assoc]

theorem parse_print (n : Int) (h1 : -9223372036854775807 ≤ n) (h2 : n ≤ 9223372036854775807) : parseR (printL n) = (n, true) := by
  obtain ⟨f1, f2, _⟩ := frac_ok n.natAbs
  have hw := whole_val n.natAbs (by omega)
  have hd := dec_digB (n.natAbs / 1000000)
  have hda := (dec_val (n.natAbs / 1000000)).1
  have hcut : Lib.cut (Lib.decDigits (n.natAbs / 1000000) ++ (if (fracL n.natAbs).isEmpty then [] else 46 :: fracL n.natAbs)) [46] = (Lib.decDigits (n.natAbs / 1000000), fracL n.natAbs, !(fracL n.natAbs).isEmpty) := by
    cases hf : (fracL n.natAbs).isEmpty
    · simp only [Bool.false_eq_true, if_false, Bool.not_false]
      exact cut_hit _ _ hda
    · have : fracL n.natAbs = [] := by simpa using hf
      rw [this]
      simp only [if_true, List.append_nil, Bool.not_true]
      exact cut_miss _ hda
  have hneg : ¬ ((!(fracL n.natAbs).isEmpty) = true ∧ (isDigB (fracL n.natAbs) = false ∨ 6 < (fracL n.natAbs).length)) := by
    rintro ⟨he, h | h⟩
    · unfold isDigB at h
      rw [f1] at h
      simp at h he
      exact he h
    · omega
  unfold parseR
  rw [printL_eq]
  by_cases hn : n < 0
  · rw [if_pos hn]
    obtain ⟨p1, p2⟩ := pre_neg (Lib.decDigits (n.natAbs / 1000000) ++ (if (fracL n.natAbs).isEmpty then [] else 46 :: fracL n.natAbs))
    rw [List.singleton_append]
    simp only [p1, p2, hcut, hw, hd]
    rw [if_neg (by simp), if_neg hneg, if_neg (by simp)]
    simp
    omega
  · rw [if_neg hn, List.nil_append]
    obtain ⟨p1, p2⟩ := pre_pos (Lib.decDigits (n.natAbs / 1000000)) (if (fracL n.natAbs).isEmpty then [] else 46 :: fracL n.natAbs) hd
    simp only [p1, p2, hcut, hw, hd]
    rw [if_neg (by simp), if_neg hneg, if_neg (by simp)]
    simp
    omega

/-! The document's own printer. -/
def DivAt (k : Nat) (F : Int) : Prop := match k with
  | 0 => F % 1000000 = 0
  | 1 => F % 100000 = 0
  | 2 => F % 10000 = 0
  | 3 => F % 1000 = 0
  | 4 => F % 100 = 0
  | 5 => F % 10 = 0
  | _ => True
theorem DivAt.next : ∀ (k : Nat) (F : Int), 0 ≤ F → k < 6 → DivAt (k + 1) F → DivAt k (F % 100000 * 10)
  | 0, F, h0, _, h => by simp only [DivAt] at h ⊢; omega
  | 1, F, h0, _, h => by simp only [DivAt] at h ⊢; omega
  | 2, F, h0, _, h => by simp only [DivAt] at h ⊢; omega
  | 3, F, h0, _, h => by simp only [DivAt] at h ⊢; omega
  | 4, F, h0, _, h => by simp only [DivAt] at h ⊢; omega
  | 5, F, h0, _, h => by simp only [DivAt] at h ⊢; omega
  | k + 6, F, h0, hk, h => absurd hk (by omega)
/-- What of a fraction is still to be told. -/
def FracAt (f k : Nat) (F : Int) (D : List UInt8) : Prop := k ≤ 6 ∧ D.length + k ≤ 6 ∧ emit 6 f = D ++ emit k F.toNat ∧ DivAt k F
theorem FracAt.next {f k : Nat} {F : Int} {D : List UInt8} (h : FracAt f k F D) (h0 : 0 < F) (h1 : F < 1000000) : ∃ j, k = j + 1 ∧ FracAt f j (F % 100000 * 10) (D ++ [UInt8.ofNat (48 + F.toNat / 100000)]) := by
  obtain ⟨a1, a2, a3, a4⟩ := h
  cases k with
  | zero => simp only [DivAt] at a4; omega
  | succ j =>
    refine ⟨j, rfl, by omega, by simp; omega, ?_, DivAt.next j F (by omega) (by omega) a4⟩
    rw [a3, emit, if_neg (by omega), List.append_assoc, List.singleton_append]
    congr 3
    omega
theorem FracAt.done {f k : Nat} {D : List UInt8} (h : FracAt f k 0 D) : D = emit 6 f := by
  obtain ⟨a1, a2, a3, a4⟩ := h
  rw [a3]
  cases k <;> simp [emit]

set_option maxHeartbeats 4000000 in
theorem rPrint_pos (n : Int) (w : World) (h0 : 0 ≤ n) (h1 : n ≤ 9223372036854775807) :
    Calls Tryz.prog 42 #[.int .i64 n] w fun e w' => e = .returned (.string ⟨(Lib.decDigits (n.natAbs / 1000000) ++ (if (fracL n.natAbs).isEmpty then [] else 46 :: fracL n.natAbs)).toArray⟩) ∧ Below w.heap.size w w' := by
  have cw : Hid (∀ w, _) := fun w => whole_any (n.natAbs / 1000000) (by omega) (n / 1000000) w (by omega)
  have hl : (decDigits (n.natAbs / 1000000)).length ≤ 20 := by rw [decDigits_length]; exact nDigits_le20 _ (by omega)
  have hne : (n == -9223372036854775808) = false := by simp; omega
  have hemp := frac_empty n.natAbs
  have hem := frac_emit n.natAbs
  obtain ⟨P, eP⟩ : ∃ P, decDigits (n.natAbs / 1000000) = P := ⟨_, rfl⟩
  rw [eP] at cw hl ⊢
  clear eP
  by_cases hf : n.natAbs % 1000000 = 0
  · rw [hemp, show decide (n.natAbs % 1000000 = 0) = true by simpa using hf, if_pos rfl, List.append_nil]
    have hz : (n % 1000000 == 0) = true := by simp; omega
    clear hemp hem hf
    go_enter Tryz.func42, Tryz.ntmps42
    go_wp2_with fail
    refine (cw.out _).mono ?_
    rintro e w1 ⟨rfl, hb1⟩
    go_wp2_with fail
    go_ret
    exact ⟨rfl, hb1⟩
  · rw [hemp, show decide (n.natAbs % 1000000 = 0) = false by simpa using hf, if_neg (by simp), hem]
    have hz : (n % 1000000 == 0) = false := by simp; omega
    obtain ⟨f, ef⟩ : ∃ f, n.natAbs % 1000000 = f := ⟨_, rfl⟩
    rw [ef]
    have HF : Hid (f = (n % 1000000).toNat) := by show _ = _; omega
    have sm0 : ∀ W, (Op.stringOp .add ⟨P.toArray⟩ ⟨#[46]⟩).run Tryz.prog W = .ok (.string ⟨(P ++ [46]).toArray⟩) W := fun W => by
      rw [run_string_add_sum W ⟨P.toArray⟩ ⟨#[46]⟩ (by simp [ByteArray.size]; omega)]
      congr 2
    clear hemp hem hf ef
    go_enter Tryz.func42, Tryz.ntmps42
    go_wp2_with fail
    refine (cw.out _).mono ?_
    rintro e w1 ⟨rfl, hb1⟩
    go_wp2_with fail
    go_loopg [4, 5] 6 (fun k s g wr => ∃ (F : Int) (D : List UInt8), s = .string ⟨(P ++ 46 :: D).toArray⟩ ∧ g = .int .i64 F ∧ 0 ≤ F ∧ F < 1000000 ∧ Below w.heap.size w wr ∧ Hid (FracAt f k F D))
    case atStart => exact ⟨n % 1000000, [], rfl, rfl, by omega, by omega, hb1, by omega, by simp, by rw [HF.out]; rfl, trivial⟩
    case round =>
      obtain ⟨F, D, rfl, rfl, hF0, hF1, hbr, hP⟩ := hrel
      by_cases hp : 0 < F
      · obtain ⟨j, rfl, hN⟩ := hP.out.next hp hF1
        have cv : Hid (∀ W : World, _) := fun W => cv_one W (48 + F / 100000) (UInt8.ofNat (48 + F.toNat / 100000)) (byte_of _ (by omega) (by omega))
        obtain ⟨b, eb⟩ : ∃ b, UInt8.ofNat (48 + F.toNat / 100000) = b := ⟨_, rfl⟩
        rw [eb] at cv hN
        have hD6 : D.length ≤ 6 := by have := hP.out.2.1; omega
        have sm : ∀ W, (Op.stringOp .add ⟨(P ++ 46 :: D).toArray⟩ ⟨#[b]⟩).run Tryz.prog W = .ok (.string ⟨(P ++ 46 :: (D ++ [b])).toArray⟩) W := fun W => by
          rw [run_string_add_sum W ⟨(P ++ 46 :: D).toArray⟩ ⟨#[b]⟩ (by simp [ByteArray.size]; omega)]
          congr 2
          apply ByteArray.ext
          simp
        have HN := Lib.hid hN
        have cv' := cv.out
        clear eb hN hP
        go_wp2_with fail
        go_roundg j
        case measure => omega
        case rel => exact ⟨F % 100000 * 10, D ++ [b], rfl, rfl, by omega, by omega, hbr.alloc hbr.size _, HN⟩
      · obtain rfl : F = 0 := by omega
        have hD := hP.out.done
        subst hD
        go_wp2_with fail
        go_ret
        exact ⟨rfl, hbr⟩

theorem rPrint_any (n : Int) (w : World) (h1 : -9223372036854775807 ≤ n) (h2 : n ≤ 9223372036854775807) :
    Calls Tryz.prog 42 #[.int .i64 n] w fun e w' => e = .returned (.string ⟨(printL n).toArray⟩) ∧ Below w.heap.size w w' := by
  rw [printL_eq]
  by_cases h : n < 0
  · rw [if_pos h]
    have cp0 := fun w => rPrint_pos (-n) w (by omega) (by omega)
    rw [Int.natAbs_neg] at cp0
    have hlen : (Lib.decDigits (n.natAbs / 1000000) ++ (if (fracL n.natAbs).isEmpty then [] else 46 :: fracL n.natAbs)).length ≤ 30 := by
      have a1 : (decDigits (n.natAbs / 1000000)).length ≤ 20 := by rw [decDigits_length]; exact nDigits_le20 _ (by omega)
      have a2 := (frac_ok n.natAbs).2.1
      rw [List.length_append]
      split <;> simp <;> omega
    obtain ⟨L, eL⟩ : ∃ L, Lib.decDigits (n.natAbs / 1000000) ++ (if (fracL n.natAbs).isEmpty then [] else 46 :: fracL n.natAbs) = L := ⟨_, rfl⟩
    rw [eL] at cp0 hlen ⊢
    have cp := Lib.hid cp0
    have hne : (n == -9223372036854775808) = false := by simp; omega
    have sm : ∀ W, (Op.stringOp .add ⟨#[45]⟩ ⟨L.toArray⟩).run Tryz.prog W = .ok (.string ⟨([45] ++ L).toArray⟩) W := fun W => by
      rw [run_string_add_sum W ⟨#[45]⟩ ⟨L.toArray⟩ (by simp [ByteArray.size]; omega)]
      congr 2
    clear cp0 eL hlen
    go_enter Tryz.func42, Tryz.ntmps42
    go_wp2_with fail
    refine (cp.out _).mono ?_
    rintro e w1 ⟨rfl, hb1⟩
    go_wp2_with fail
    go_ret
    exact ⟨rfl, hb1⟩
  · rw [if_neg h, List.nil_append]
    exact rPrint_pos n w (by omega) h2
set_option maxHeartbeats 1000000 in
theorem rPrint_none (w : World) : Calls Tryz.prog 42 #[.int .i64 (-9223372036854775808)] w fun e w' => e = .returned (.string ⟨#[]⟩) ∧ w' = w := by
  go_enter Tryz.func42, Tryz.ntmps42
  go_wp2_with fail
  go_ret
  exact ⟨rfl, rfl⟩
set_option maxHeartbeats 1000000 in
theorem print_none (w : World) : Calls Tryz.prog 40 #[.int .i64 (-9223372036854775808)] w fun e w' => e = .returned (.string ⟨#[]⟩) ∧ w' = w := by
  go_enter Tryz.func40, Tryz.ntmps40
  go_wp2_with (go_at_call 69; go_in)
  go_ret
  exact ⟨rfl, rfl⟩
theorem parse_none : parseR [] = (0, false) := by decide +kernel
end Go.Proofs.YtjbkjeabobccaabGreatDoor
