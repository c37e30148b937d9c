import Derived.Test.YtjbkjeabobccaabGreatDoorValAlive
namespace Go.Proofs.YtjbkjeabobccaabGreatDoor
open Go.RowKit Go.Sort Go.Lib
set_option linter.unusedVariables false

/-- Which truth a text names (B2). -/
def truR (l : List UInt8) : Bool × Bool := if l.map cap = [84, 82, 85, 69] then (true, true) else if l.map cap = [70, 65, 76, 83, 69] then (false, true) else (false, false)
set_option maxHeartbeats 800000 in
theorem readTruth_any (s : ByteArray) (w : World) (hs : s.size ≤ maxLen) :
    Calls Tryz.prog 28 #[.string s] w fun e w' => e = .returned (.tuple #[.bool (truR s.data.toList).1, .bool (truR s.data.toList).2]) ∧ Below w.heap.size w w' := by
  have cc := hidv (fun w => capitals_any s w hs)
  obtain ⟨C, eC⟩ : ∃ C : ByteArray, (⟨(s.data.toList.map cap).toArray⟩ : ByteArray) = C := ⟨_, rfl⟩
  have eL : C.toList = s.data.toList.map cap := by rw [Lib.toList_data, ← eC]
  rw [eC] at cc
  clear eC
  by_cases h1 : s.data.toList.map cap = [84, 82, 85, 69]
  · have q1 : (C.toList == [84, 82, 85, 69]) = true := by rw [eL, h1]; rfl
    rw [show truR s.data.toList = (true, true) by simp [truR, h1]]
    clear eL h1
    go_enter Tryz.func28, Tryz.ntmps28
    go_wp2_with fail
    refine (cc.out _).mono ?_
    rintro e w1 ⟨rfl, hb1⟩
    go_wp2_with fail
    go_ret2
    exact ⟨rfl, hb1⟩
  · have q1 : (C.toList == [84, 82, 85, 69]) = false := by rw [eL]; simpa using h1
    by_cases h2 : s.data.toList.map cap = [70, 65, 76, 83, 69]
    · have q2 : (C.toList == [70, 65, 76, 83, 69]) = true := by rw [eL, h2]; rfl
      rw [show truR s.data.toList = (false, true) by simp [truR, h2]]
      clear eL h1 h2
      go_enter Tryz.func28, Tryz.ntmps28
      go_wp2_with fail
      refine (cc.out _).mono ?_
      rintro e w1 ⟨rfl, hb1⟩
      go_wp2_with fail
      go_ret2
      exact ⟨rfl, hb1⟩
    · have q2 : (C.toList == [70, 65, 76, 83, 69]) = false := by rw [eL]; simpa using h2
      rw [show truR s.data.toList = (false, false) by simp [truR, h1, h2]]
      clear eL h1 h2
      go_enter Tryz.func28, Tryz.ntmps28
      go_wp2_with fail
      refine (cc.out _).mono ?_
      rintro e w1 ⟨rfl, hb1⟩
      go_wp2_with fail
      go_ret2
      exact ⟨rfl, hb1⟩

/-- Which error a text names; 0: none (B2). -/
def fltR (l : List UInt8) : Int := if l = [35, 68, 73, 86, 47, 48, 33] then 1 else if l = [35, 78, 85, 77, 33] then 2 else if l = [35, 86, 65, 76, 85, 69, 33] then 3 else if l = [35, 82, 69, 70, 33] then 4 else if l = [35, 78, 47, 65] then 5 else if l = [35, 67, 89, 67, 76, 69, 33] then 6 else 0
set_option maxHeartbeats 4000000 in
theorem readFault_any (s : ByteArray) (w : World) (hF : FTab w) :
    Calls Tryz.prog 30 #[.string s] w fun e w' => e = .returned (.tuple #[.int .i64 (fltR s.data.toList), .bool (fltR s.data.toList != 0)]) ∧ w' = w := by
  obtain ⟨m1, m2, m3, m4, m5, m6⟩ := hF w (Below.refl _ _)
  obtain ⟨R, eR⟩ : ∃ R, fltR s.data.toList = R := ⟨_, rfl⟩
  rw [eR]
  have HR := hidv eR
  clear eR
  have HT := hidv (Lib.toList_data s)
  go_enter Tryz.func30, Tryz.ntmps30
  go_wp2_with fail
  go_loopw [4] (fun i wr => ∃ k : Nat, 1 ≤ k ∧ k ≤ 7 ∧ i = .int .i64 k ∧ wr = w ∧ Hid ((1 < k → s.data.toList ≠ [35, 68, 73, 86, 47, 48, 33]) ∧ (2 < k → s.data.toList ≠ [35, 78, 85, 77, 33]) ∧ (3 < k → s.data.toList ≠ [35, 86, 65, 76, 85, 69, 33]) ∧ (4 < k → s.data.toList ≠ [35, 82, 69, 70, 33]) ∧ (5 < k → s.data.toList ≠ [35, 78, 47, 65]) ∧ (6 < k → s.data.toList ≠ [35, 67, 89, 67, 76, 69, 33]))) (fun i _ => 7 - (RowKit.intOf i).toNat)
  case atStart => exact ⟨1, by omega, by omega, rfl, rfl, ⟨fun h => (by omega), fun h => (by omega), fun h => (by omega), fun h => (by omega), fun h => (by omega), fun h => (by omega)⟩⟩
  case round =>
    obtain ⟨k, hk1, hk7, rfl, rfl, HK⟩ := hrel
    have hc : k = 1 ∨ k = 2 ∨ k = 3 ∨ k = 4 ∨ k = 5 ∨ k = 6 ∨ k = 7 := by omega
    rcases hc with h | h | h | h | h | h | h
    · subst h
      by_cases h : s.data.toList = [35, 68, 73, 86, 47, 48, 33]
      · have q : (([35, 68, 73, 86, 47, 48, 33] : List UInt8) == s.toList) = true := by rw [HT.out, h]; rfl
        have VR : Hid (R = 1) := by show _ = _; rw [← HR.out]; simp [fltR, h]
        clear h
        go_wp2_with fail
        go_ret2
        exact ⟨by rw [VR.out]; rfl, rfl⟩
      · have q : (([35, 68, 73, 86, 47, 48, 33] : List UInt8) == s.toList) = false := by rw [HT.out]; simpa using fun e => h e.symm
        have HN : Hid ((1 < 2 → s.data.toList ≠ [35, 68, 73, 86, 47, 48, 33]) ∧ (2 < 2 → s.data.toList ≠ [35, 78, 85, 77, 33]) ∧ (3 < 2 → s.data.toList ≠ [35, 86, 65, 76, 85, 69, 33]) ∧ (4 < 2 → s.data.toList ≠ [35, 82, 69, 70, 33]) ∧ (5 < 2 → s.data.toList ≠ [35, 78, 47, 65]) ∧ (6 < 2 → s.data.toList ≠ [35, 67, 89, 67, 76, 69, 33])) := ⟨fun _ => h, fun h => (by omega), fun h => (by omega), fun h => (by omega), fun h => (by omega), fun h => (by omega)⟩
        clear h
        go_wp2_with fail
        go_roundw
        case rel => exact ⟨2, by omega, by omega, by go_num, by first | rfl | trivial, HN⟩
        case measure => simp [RowKit.intOf]
    · subst h
      by_cases h : s.data.toList = [35, 78, 85, 77, 33]
      · have q : (([35, 78, 85, 77, 33] : List UInt8) == s.toList) = true := by rw [HT.out, h]; rfl
        have VR : Hid (R = 2) := by show _ = _; rw [← HR.out]; simp [fltR, h]
        clear h
        go_wp2_with fail
        go_ret2
        exact ⟨by rw [VR.out]; rfl, rfl⟩
      · have q : (([35, 78, 85, 77, 33] : List UInt8) == s.toList) = false := by rw [HT.out]; simpa using fun e => h e.symm
        have HN : Hid ((1 < 3 → s.data.toList ≠ [35, 68, 73, 86, 47, 48, 33]) ∧ (2 < 3 → s.data.toList ≠ [35, 78, 85, 77, 33]) ∧ (3 < 3 → s.data.toList ≠ [35, 86, 65, 76, 85, 69, 33]) ∧ (4 < 3 → s.data.toList ≠ [35, 82, 69, 70, 33]) ∧ (5 < 3 → s.data.toList ≠ [35, 78, 47, 65]) ∧ (6 < 3 → s.data.toList ≠ [35, 67, 89, 67, 76, 69, 33])) := ⟨fun _ => HK.out.1 (by omega), fun _ => h, fun h => (by omega), fun h => (by omega), fun h => (by omega), fun h => (by omega)⟩
        clear h
        go_wp2_with fail
        go_roundw
        case rel => exact ⟨3, by omega, by omega, by go_num, by first | rfl | trivial, HN⟩
        case measure => simp [RowKit.intOf]
    · subst h
      by_cases h : s.data.toList = [35, 86, 65, 76, 85, 69, 33]
      · have q : (([35, 86, 65, 76, 85, 69, 33] : List UInt8) == s.toList) = true := by rw [HT.out, h]; rfl
        have VR : Hid (R = 3) := by show _ = _; rw [← HR.out]; simp [fltR, h]
        clear h
        go_wp2_with fail
        go_ret2
        exact ⟨by rw [VR.out]; rfl, rfl⟩
      · have q : (([35, 86, 65, 76, 85, 69, 33] : List UInt8) == s.toList) = false := by rw [HT.out]; simpa using fun e => h e.symm
        have HN : Hid ((1 < 4 → s.data.toList ≠ [35, 68, 73, 86, 47, 48, 33]) ∧ (2 < 4 → s.data.toList ≠ [35, 78, 85, 77, 33]) ∧ (3 < 4 → s.data.toList ≠ [35, 86, 65, 76, 85, 69, 33]) ∧ (4 < 4 → s.data.toList ≠ [35, 82, 69, 70, 33]) ∧ (5 < 4 → s.data.toList ≠ [35, 78, 47, 65]) ∧ (6 < 4 → s.data.toList ≠ [35, 67, 89, 67, 76, 69, 33])) := ⟨fun _ => HK.out.1 (by omega), fun _ => HK.out.2.1 (by omega), fun _ => h, fun h => (by omega), fun h => (by omega), fun h => (by omega)⟩
        clear h
        go_wp2_with fail
        go_roundw
        case rel => exact ⟨4, by omega, by omega, by go_num, by first | rfl | trivial, HN⟩
        case measure => simp [RowKit.intOf]
    · subst h
      by_cases h : s.data.toList = [35, 82, 69, 70, 33]
      · have q : (([35, 82, 69, 70, 33] : List UInt8) == s.toList) = true := by rw [HT.out, h]; rfl
        have VR : Hid (R = 4) := by show _ = _; rw [← HR.out]; simp [fltR, h]
        clear h
        go_wp2_with fail
        go_ret2
        exact ⟨by rw [VR.out]; rfl, rfl⟩
      · have q : (([35, 82, 69, 70, 33] : List UInt8) == s.toList) = false := by rw [HT.out]; simpa using fun e => h e.symm
        have HN : Hid ((1 < 5 → s.data.toList ≠ [35, 68, 73, 86, 47, 48, 33]) ∧ (2 < 5 → s.data.toList ≠ [35, 78, 85, 77, 33]) ∧ (3 < 5 → s.data.toList ≠ [35, 86, 65, 76, 85, 69, 33]) ∧ (4 < 5 → s.data.toList ≠ [35, 82, 69, 70, 33]) ∧ (5 < 5 → s.data.toList ≠ [35, 78, 47, 65]) ∧ (6 < 5 → s.data.toList ≠ [35, 67, 89, 67, 76, 69, 33])) := ⟨fun _ => HK.out.1 (by omega), fun _ => HK.out.2.1 (by omega), fun _ => HK.out.2.2.1 (by omega), fun _ => h, fun h => (by omega), fun h => (by omega)⟩
        clear h
        go_wp2_with fail
        go_roundw
        case rel => exact ⟨5, by omega, by omega, by go_num, by first | rfl | trivial, HN⟩
        case measure => simp [RowKit.intOf]
    · subst h
      by_cases h : s.data.toList = [35, 78, 47, 65]
      · have q : (([35, 78, 47, 65] : List UInt8) == s.toList) = true := by rw [HT.out, h]; rfl
        have VR : Hid (R = 5) := by show _ = _; rw [← HR.out]; simp [fltR, h]
        clear h
        go_wp2_with fail
        go_ret2
        exact ⟨by rw [VR.out]; rfl, rfl⟩
      · have q : (([35, 78, 47, 65] : List UInt8) == s.toList) = false := by rw [HT.out]; simpa using fun e => h e.symm
        have HN : Hid ((1 < 6 → s.data.toList ≠ [35, 68, 73, 86, 47, 48, 33]) ∧ (2 < 6 → s.data.toList ≠ [35, 78, 85, 77, 33]) ∧ (3 < 6 → s.data.toList ≠ [35, 86, 65, 76, 85, 69, 33]) ∧ (4 < 6 → s.data.toList ≠ [35, 82, 69, 70, 33]) ∧ (5 < 6 → s.data.toList ≠ [35, 78, 47, 65]) ∧ (6 < 6 → s.data.toList ≠ [35, 67, 89, 67, 76, 69, 33])) := ⟨fun _ => HK.out.1 (by omega), fun _ => HK.out.2.1 (by omega), fun _ => HK.out.2.2.1 (by omega), fun _ => HK.out.2.2.2.1 (by omega), fun _ => h, fun h => (by omega)⟩
        clear h
        go_wp2_with fail
        go_roundw
        case rel => exact ⟨6, by omega, by omega, by go_num, by first | rfl | trivial, HN⟩
        case measure => simp [RowKit.intOf]
    · subst h
      by_cases h : s.data.toList = [35, 67, 89, 67, 76, 69, 33]
      · have q : (([35, 67, 89, 67, 76, 69, 33] : List UInt8) == s.toList) = true := by rw [HT.out, h]; rfl
        have VR : Hid (R = 6) := by show _ = _; rw [← HR.out]; simp [fltR, h]
        clear h
        go_wp2_with fail
        go_ret2
        exact ⟨by rw [VR.out]; rfl, rfl⟩
      · have q : (([35, 67, 89, 67, 76, 69, 33] : List UInt8) == s.toList) = false := by rw [HT.out]; simpa using fun e => h e.symm
        have HN : Hid ((1 < 7 → s.data.toList ≠ [35, 68, 73, 86, 47, 48, 33]) ∧ (2 < 7 → s.data.toList ≠ [35, 78, 85, 77, 33]) ∧ (3 < 7 → s.data.toList ≠ [35, 86, 65, 76, 85, 69, 33]) ∧ (4 < 7 → s.data.toList ≠ [35, 82, 69, 70, 33]) ∧ (5 < 7 → s.data.toList ≠ [35, 78, 47, 65]) ∧ (6 < 7 → s.data.toList ≠ [35, 67, 89, 67, 76, 69, 33])) := ⟨fun _ => HK.out.1 (by omega), fun _ => HK.out.2.1 (by omega), fun _ => HK.out.2.2.1 (by omega), fun _ => HK.out.2.2.2.1 (by omega), fun _ => HK.out.2.2.2.2.1 (by omega), fun _ => h⟩
        clear h
        go_wp2_with fail
        go_roundw
        case rel => exact ⟨7, by omega, by omega, by go_num, by first | rfl | trivial, HN⟩
        case measure => simp [RowKit.intOf]
    · subst h
      have VR : Hid (R = 0) := by show _ = _; rw [← HR.out]; simp [fltR, HK.out.1 (by omega), HK.out.2.1 (by omega), HK.out.2.2.1 (by omega), HK.out.2.2.2.1 (by omega), HK.out.2.2.2.2.1 (by omega), HK.out.2.2.2.2.2 (by omega)]
      go_wp2_with fail
      go_ret2
      exact ⟨by rw [VR.out]; rfl, rfl⟩

/-- What a text is, typed into a cell (B2). -/
def trimL (l : List UInt8) : List UInt8 := Lib.trimPrefix l [39]
def rdV (l : List UInt8) : Int × Int × ByteArray :=
  if l = [] then (0, 0, ⟨#[]⟩)
  else if (parseR l).2 then (1, (parseR l).1, ⟨#[]⟩)
  else if (truR l).2 then (3, if (truR l).1 then 1 else 0, ⟨#[]⟩)
  else if fltR l ≠ 0 then (4, fltR l, ⟨#[]⟩)
  else if 1000 < (trimL l).length then (4, 3, ⟨#[]⟩) else (2, 0, ⟨(trimL l).toArray⟩)
theorem parseR_bd (l : List UInt8) (h : (parseR l).2 = true) : -9223372036854775807 ≤ (parseR l).1 ∧ (parseR l).1 ≤ 9223372036854775807 := by
  have hc := (cut_len (Lib.trimPrefix l [45])).2
  unfold parseR at h ⊢
  simp only at h ⊢
  generalize Lib.cut (Lib.trimPrefix l [45]) [46] = c at h hc ⊢
  by_cases h1 : isDigB c.1 = false
  · rw [if_pos h1] at h; cases h
  rw [if_neg h1] at h ⊢
  by_cases h2 : c.2.2 = true ∧ (isDigB c.2.1 = false ∨ 6 < c.2.1.length)
  · rw [if_pos h2] at h; cases h
  rw [if_neg h2] at h ⊢
  by_cases h3 : (rdR (c.1 ++ c.2.1 ++ List.replicate (6 - c.2.1.length) 48)).2 = false
  · rw [if_pos h3] at h; cases h
  rw [if_neg h3] at h ⊢
  have a1 : c.1.all isDig = true := by
    have : isDigB c.1 = true := by simpa using h1
    unfold isDigB at this
    simp at this
    simpa using this.2
  have a2 : c.2.1.all isDig = true := by
    cases hd : c.2.2
    · rw [hc hd]; rfl
    · have : isDigB c.2.1 = true := by
        cases hb : isDigB c.2.1
        · exact absurd ⟨hd, .inl hb⟩ h2
        · rfl
      unfold isDigB at this
      simp at this
      simpa using this.2
  have hd : (c.1 ++ c.2.1 ++ List.replicate (6 - c.2.1.length) 48).all isDig = true := by
    rw [List.all_append, List.all_append, a1, a2]
    simp [List.all_replicate]
    right; decide
  have hb := rdR_bd _ hd (by simpa using h3)
  generalize (rdR (c.1 ++ c.2.1 ++ List.replicate (6 - c.2.1.length) 48)).1 = v at hb ⊢
  split
  · exact ⟨by simp; omega, by simp; omega⟩
  · exact ⟨by simp; omega, by simp; omega⟩
theorem trim_len (l : List UInt8) : (trimL l).length ≤ l.length := Lib.trimPrefix_le _ _

set_option maxHeartbeats 4000000 in
set_option maxRecDepth 100000 in
theorem read_any (s : ByteArray) (w : World) (hE : Env w) (hF : FTab w) (hs : s.size < 4294967281) :
    Calls Tryz.prog 8 #[.string s] w fun e w' => e = .returned (.agg #[.int .i64 (rdV s.data.toList).1, .int .i64 (rdV s.data.toList).2.1, .string (rdV s.data.toList).2.2]) ∧ Below w.heap.size w w' := by
  have HE := hidv hE
  have HF := hidv hF
  have HB := hidv (oneB_new w 23 (.int .i64 0) (.int .i64 0) (.string ⟨#[]⟩))
  have hsz := Lib.size_eq s
  by_cases h0 : s.data.toList = []
  · have hq : s.toList.isEmpty = true := by rw [Lib.toList_data, h0]; rfl
    rw [show rdV s.data.toList = (0, 0, ⟨#[]⟩) by simp [rdV, h0]]
    have HL := hidv (fun x y z => (HB.out.seta x y z).low)
    clear h0 hsz hs hE hF HB
    go_enter Tryz.func8, Tryz.ntmps8
    go_wp2_with fail
    refine bodyPost_ret (v := .agg #[.int .i64 0, .int .i64 0, .string ⟨#[]⟩]) (by simp [results, Tryz.results8, go_sem]) rfl ?_
    exact ⟨rfl, by go_grown⟩
  have hq : s.toList.isEmpty = false := by rw [Lib.toList_data, List.isEmpty_eq_false_iff]; exact h0
  cases hp : (parseR s.data.toList).2
  rotate_left
  · have := read_num s (parseR s.data.toList).1 (by rw [← hp]) (by intro e; apply h0; rw [e] at hsz; exact List.eq_nil_of_length_eq_zero hsz.symm) hs (by have := parseR_bd _ hp; omega) w hE
    rw [show rdV s.data.toList = (1, (parseR s.data.toList).1, ⟨#[]⟩) by simp [rdV, h0, hp]]
    exact this
  have cp0 := fun w hE => parse_any s w hE hs
  simp only [hp] at cp0
  have cp := hidv cp0
  generalize (parseR s.data.toList).1 = pv at cp
  have hml : s.size ≤ maxLen := by unfold maxLen; omega
  have ct0 := fun w => readTruth_any s w hml
  clear cp0
  cases ht : (truR s.data.toList).2
  rotate_left
  · simp only [ht] at ct0
    have ct := hidv ct0
    obtain ⟨b, eb⟩ : ∃ b, (truR s.data.toList).1 = b := ⟨_, rfl⟩
    rw [show rdV s.data.toList = (3, if b then 1 else 0, ⟨#[]⟩) by simp [rdV, h0, hp, ht, eb]]
    rw [eb] at ct
    have cv := hidv (fun w => truthValue_any b w)
    obtain ⟨n, en⟩ : ∃ n : Int, (if b = true then (1 : Int) else 0) = n := ⟨_, rfl⟩
    rw [en] at cv ⊢
    clear ct0 eb en ht hp h0 hsz hs hml hE hF
    go_enter Tryz.func8, Tryz.ntmps8
    go_wp2_with fail
    refine (cp.out _ (HE.out.step HB.out.low)).mono ?_
    rintro e w1 ⟨rfl, hbx⟩
    have HB1 := hidv (HB.out.step hbx)
    clear hbx
    go_wp2_with fail
    refine (ct.out _).mono ?_
    rintro e w2 ⟨rfl, hbx⟩
    have HB2 := hidv (HB1.out.step hbx)
    clear hbx
    go_wp2_with fail
    refine (cv.out _).mono ?_
    rintro e w3 ⟨rfl, hbx⟩
    have HB3 := hidv (HB2.out.step hbx)
    clear hbx
    have HL := hidv (fun x y z => (HB3.out.seta x y z).low)
    obtain ⟨p0, p1, p2, f0, f1, f2⟩ := three HB3.out.a
    obtain ⟨s0, s1, s2⟩ := three_set p0 p1 p2
    go_wp2_with fail
    refine bodyPost_ret (v := .agg #[.int .i64 3, .int .i64 n, .string ⟨#[]⟩]) (by simp [results, Tryz.results8, go_sem, *]) rfl ?_
    exact ⟨rfl, HL.out _ _ _⟩
  simp only [ht] at ct0
  have ct := hidv ct0
  generalize (truR s.data.toList).1 = tv at ct
  clear ct0
  have cf0 := fun w hF => readFault_any s w hF
  by_cases hf : fltR s.data.toList ≠ 0
  · obtain ⟨n, en⟩ : ∃ n, fltR s.data.toList = n := ⟨_, rfl⟩
    have hn : 1 ≤ n ∧ n ≤ 6 := by
      rw [en] at hf
      unfold fltR at en
      repeat' split at en
      all_goals omega
    have hn' : n ≠ 0 := by omega
    rw [show rdV s.data.toList = (4, n, ⟨#[]⟩) by simp [rdV, h0, hp, ht, en, hn']]
    rw [en] at hf
    simp only [en, show (n != 0) = true by simpa using hf] at cf0
    have cf := hidv cf0
    have cv0 := fun w => faultValue_any n w
    simp only [if_neg (show ¬ (n < 1 ∨ 6 < n) by omega)] at cv0
    have cv := hidv cv0
    clear cf0 cv0 hn hn' hf en ht hp h0 hsz hs hml hE hF
    go_enter Tryz.func8, Tryz.ntmps8
    go_wp2_with fail
    refine (cp.out _ (HE.out.step HB.out.low)).mono ?_
    rintro e w1 ⟨rfl, hbx⟩
    have HB1 := hidv (HB.out.step hbx)
    clear hbx
    go_wp2_with fail
    refine (ct.out _).mono ?_
    rintro e w2 ⟨rfl, hbx⟩
    have HB2 := hidv (HB1.out.step hbx)
    clear hbx
    go_wp2_with fail
    refine (cf.out _ (HF.out.step HB2.out.low)).mono ?_
    rintro e w' ⟨rfl, rfl⟩
    go_wp2_with fail
    refine (cv.out _).mono ?_
    rintro e w3 ⟨rfl, hbx⟩
    have HB3 := hidv (HB2.out.step hbx)
    clear hbx
    have HL := hidv (fun x y z => (HB3.out.seta x y z).low)
    obtain ⟨p0, p1, p2, f0, f1, f2⟩ := three HB3.out.a
    obtain ⟨s0, s1, s2⟩ := three_set p0 p1 p2
    go_wp2_with fail
    refine bodyPost_ret (v := .agg #[.int .i64 4, .int .i64 n, .string ⟨#[]⟩]) (by simp [results, Tryz.results8, go_sem, *]) rfl ?_
    exact ⟨rfl, HL.out _ _ _⟩
  have hf' : fltR s.data.toList = 0 := by simpa using hf
  simp only [hf', show ((0 : Int) != 0) = false by rfl] at cf0
  have cf := hidv cf0
  obtain ⟨U, eU⟩ : ∃ U : ByteArray, (⟨(trimL s.data.toList).toArray⟩ : ByteArray) = U := ⟨_, rfl⟩
  have hU : U.size = (trimL s.data.toList).length := by rw [← eU, Lib.size_eq]
  have cr0 := fun w => Tryz.strings_TrimPrefix s ⟨#[39]⟩ w
  rw [show (⟨(Lib.trimPrefix s.data.toList (⟨#[39]⟩ : ByteArray).data.toList).toArray⟩ : ByteArray) = U by rw [← eU]; rfl] at cr0
  have cr := hidv cr0
  have cv0 := fun w => textValue_any U w
  by_cases hl : 1000 < U.size
  · rw [show rdV s.data.toList = (4, 3, ⟨#[]⟩) by simp [rdV, h0, hp, ht, hf', ← hU, hl]]
    simp only [if_pos hl] at cv0
    have cv := hidv cv0
    clear cf0 cv0 cr0 hl hU eU hf hf' ht hp h0 hsz hs hml hE hF
    go_enter Tryz.func8, Tryz.ntmps8
    go_wp2_with fail
    refine (cp.out _ (HE.out.step HB.out.low)).mono ?_
    rintro e w1 ⟨rfl, hbx⟩
    have HB1 := hidv (HB.out.step hbx)
    clear hbx
    go_wp2_with fail
    refine (ct.out _).mono ?_
    rintro e w2 ⟨rfl, hbx⟩
    have HB2 := hidv (HB1.out.step hbx)
    clear hbx
    go_wp2_with fail
    refine (cf.out _ (HF.out.step HB2.out.low)).mono ?_
    rintro e w' ⟨rfl, rfl⟩
    go_wp2_with fail
    refine (cr.out _).mono ?_
    rintro e w' ⟨rfl, rfl⟩
    go_wp2_with fail
    refine (cv.out _).mono ?_
    rintro e w3 ⟨rfl, hbx⟩
    have HB3 := hidv (HB2.out.step hbx)
    clear hbx
    have HL := hidv (fun x y z => (HB3.out.seta x y z).low)
    obtain ⟨p0, p1, p2, f0, f1, f2⟩ := three HB3.out.a
    obtain ⟨s0, s1, s2⟩ := three_set p0 p1 p2
    go_wp2_with fail
    refine bodyPost_ret (v := .agg #[.int .i64 4, .int .i64 3, .string ⟨#[]⟩]) (by simp [results, Tryz.results8, go_sem, *]) rfl ?_
    exact ⟨rfl, HL.out _ _ _⟩
  · rw [show rdV s.data.toList = (2, 0, U) by simp [rdV, h0, hp, ht, hf', ← hU, hl, eU]]
    simp only [if_neg hl] at cv0
    have cv := hidv cv0
    clear cf0 cv0 cr0 hl hU eU hf hf' ht hp h0 hsz hs hml hE hF
    go_enter Tryz.func8, Tryz.ntmps8
    go_wp2_with fail
    refine (cp.out _ (HE.out.step HB.out.low)).mono ?_
    rintro e w1 ⟨rfl, hbx⟩
    have HB1 := hidv (HB.out.step hbx)
    clear hbx
    go_wp2_with fail
    refine (ct.out _).mono ?_
    rintro e w2 ⟨rfl, hbx⟩
    have HB2 := hidv (HB1.out.step hbx)
    clear hbx
    go_wp2_with fail
    refine (cf.out _ (HF.out.step HB2.out.low)).mono ?_
    rintro e w' ⟨rfl, rfl⟩
    go_wp2_with fail
    refine (cr.out _).mono ?_
    rintro e w' ⟨rfl, rfl⟩
    go_wp2_with fail
    refine (cv.out _).mono ?_
    rintro e w3 ⟨rfl, hbx⟩
    have HB3 := hidv (HB2.out.step hbx)
    clear hbx
    have HL := hidv (fun x y z => (HB3.out.seta x y z).low)
    obtain ⟨p0, p1, p2, f0, f1, f2⟩ := three HB3.out.a
    obtain ⟨s0, s1, s2⟩ := three_set p0 p1 p2
    go_wp2_with fail
    refine bodyPost_ret (v := .agg #[.int .i64 2, .int .i64 0, .string U]) (by simp [results, Tryz.results8, go_sem, *]) rfl ?_
    exact ⟨rfl, HL.out _ _ _⟩
end Go.Proofs.YtjbkjeabobccaabGreatDoor
