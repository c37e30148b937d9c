import Derived.Test.YtjbkjeabobccaabGreatDoorValRTell
namespace Go.Proofs.YtjbkjeabobccaabGreatDoor
open Go.RowKit Go.Sort Go.Lib
set_option linter.unusedVariables false

theorem rdV_text {l : List UInt8} {U : ByteArray} (h0 : l ≠ []) (hp : (parseR l).2 = false) (ht : (truR l).2 = false) (hf : fltR l = 0) (hU : U.data.toList = trimL l) : rdV l = cnt 2 0 U := by
  have hs : U.size = (trimL l).length := by rw [Lib.size_eq, hU]
  have hU' : (⟨(trimL l).toArray⟩ : ByteArray) = U := by rw [← hU]
  simp [rdV, h0, hp, ht, hf, cnt, hs, hU']

set_option maxHeartbeats 8000000 in
set_option maxRecDepth 100000 in
theorem rRead_any (s : ByteArray) (w : World) (hs : s.size < 4294967281) :
    Calls Tryz.prog 9 #[.string s] w fun e w' => e = .returned (.agg #[.int .i64 (rdV s.data.toList).1, .int .i64 (rdV s.data.toList).2.1, .string (rdV s.data.toList).2.2]) ∧ Below w.heap.size w w' := by
  have HB := hidv (oneB_new w 25 (.int .i64 0) (.int .i64 0) (.string ⟨#[]⟩))
  have hsz := Lib.size_eq s
  by_cases h0 : s.data.toList = []
  · have hq : s.toList.isEmpty = true := by rw [Lib.toList_data, h0]; rfl
    rw [show rdV s.data.toList = (0, 0, ⟨#[]⟩) by simp [rdV, h0]]
    clear h0 hsz hs HB
    go_enter Tryz.func9, Tryz.ntmps9
    go_wp2_with fail
    refine bodyPost_ret (v := .agg #[.int .i64 0, .int .i64 0, .string ⟨#[]⟩]) (by simp [results, Tryz.results9, go_sem]) rfl ?_
    exact ⟨rfl, by go_grown⟩
  have hq : s.toList.isEmpty = false := by rw [Lib.toList_data, List.isEmpty_eq_false_iff]; exact h0
  have hpos : 0 < s.size := by
    rcases Nat.eq_zero_or_pos s.size with e | e
    · exfalso; apply h0; rw [e] at hsz; exact List.eq_nil_of_length_eq_zero hsz.symm
    · exact e
  have cp0 := fun w => rParse_any s w hs
  cases hp : (parseR s.data.toList).2
  rotate_left
  · simp only [hp] at cp0
    have cp := hidv cp0
    rw [show rdV s.data.toList = (1, (parseR s.data.toList).1, ⟨#[]⟩) by simp [rdV, h0, hp]]
    generalize (parseR s.data.toList).1 = v at cp ⊢
    clear cp0 hp h0 hsz hs hpos
    go_enter Tryz.func9, Tryz.ntmps9
    go_wp2_with fail
    refine (cp.out _).mono ?_
    rintro e w1 ⟨rfl, hbx⟩
    have HB1 := hidv (HB.out.step hbx)
    clear hbx
    have HL := hidv (fun x y z => (HB1.out.seta x y z).low)
    obtain ⟨p0, p1, p2, f0, f1, f2⟩ := three HB1.out.a
    obtain ⟨s0, s1, s2⟩ := three_set p0 p1 p2
    go_wp2_with fail
    refine bodyPost_ret (v := .agg #[.int .i64 1, .int .i64 v, .string ⟨#[]⟩]) (by simp [results, Tryz.results9, go_sem, *]) rfl ?_
    exact ⟨rfl, HL.out _ _ _⟩
  simp only [hp] at cp0
  have cp := hidv cp0
  generalize (parseR s.data.toList).1 = pv at cp
  have hml : s.size ≤ maxLen := by unfold maxLen; omega
  have cb0 := fun w => bigs_any s w hml
  obtain ⟨C, eC⟩ : ∃ C : ByteArray, (⟨(s.data.toList.map cap).toArray⟩ : ByteArray) = C := ⟨_, rfl⟩
  have eL : C.toList = s.data.toList.map cap := by rw [Lib.toList_data, ← eC]
  rw [eC] at cb0
  have cb := hidv cb0
  clear cp0 cb0 eC
  by_cases t1 : s.data.toList.map cap = [84, 82, 85, 69]
  · rw [show rdV s.data.toList = (3, 1, ⟨#[]⟩) by simp [rdV, h0, hp, truR, t1]]
    have q1 : (C.toList == [84, 82, 85, 69]) = true := by rw [eL, t1]; rfl
    have co := hidv (fun w => ofb_any true w)
    simp only [if_true] at co
    clear t1 eL hp h0 hsz hs hpos hml
    go_enter Tryz.func9, Tryz.ntmps9
    go_wp2_with fail
    refine (cp.out _).mono ?_
    rintro e w1 ⟨rfl, hbx⟩
    have HB1 := hidv (HB.out.step hbx)
    clear hbx
    go_wp2_with fail
    refine (cb.out _).mono ?_
    rintro e w2 ⟨rfl, hbx⟩
    have HB2 := hidv (HB1.out.step hbx)
    clear hbx
    go_wp2_with fail
    refine (co.out _).mono ?_
    rintro e w3 ⟨rfl, hbx⟩
    have HB3 := hidv (HB2.out.step hbx)
    clear hbx
    have HL := hidv (fun x y z => (HB3.out.seta x y z).low)
    obtain ⟨p0, p1, p2, f0, f1, f2⟩ := three HB3.out.a
    obtain ⟨s0, s1, s2⟩ := three_set p0 p1 p2
    go_wp2_with fail
    refine bodyPost_ret (v := .agg #[.int .i64 3, .int .i64 1, .string ⟨#[]⟩]) (by simp [results, Tryz.results9, go_sem, *]) rfl ?_
    exact ⟨rfl, HL.out _ _ _⟩
  have q1 : (C.toList == [84, 82, 85, 69]) = false := by rw [eL]; simpa using t1
  by_cases t2 : s.data.toList.map cap = [70, 65, 76, 83, 69]
  · rw [show rdV s.data.toList = (3, 0, ⟨#[]⟩) by simp [rdV, h0, hp, truR, t2]]
    have q2 : (C.toList == [70, 65, 76, 83, 69]) = true := by rw [eL, t2]; rfl
    have co := hidv (fun w => ofb_any false w)
    simp only [Bool.false_eq_true, if_false] at co
    clear t1 t2 eL hp h0 hsz hs hpos hml
    go_enter Tryz.func9, Tryz.ntmps9
    go_wp2_with fail
    refine (cp.out _).mono ?_
    rintro e w1 ⟨rfl, hbx⟩
    have HB1 := hidv (HB.out.step hbx)
    clear hbx
    go_wp2_with fail
    refine (cb.out _).mono ?_
    rintro e w2 ⟨rfl, hbx⟩
    have HB2 := hidv (HB1.out.step hbx)
    clear hbx
    go_wp2_with fail
    refine (co.out _).mono ?_
    rintro e w3 ⟨rfl, hbx⟩
    have HB3 := hidv (HB2.out.step hbx)
    clear hbx
    have HL := hidv (fun x y z => (HB3.out.seta x y z).low)
    obtain ⟨p0, p1, p2, f0, f1, f2⟩ := three HB3.out.a
    obtain ⟨s0, s1, s2⟩ := three_set p0 p1 p2
    go_wp2_with fail
    refine bodyPost_ret (v := .agg #[.int .i64 3, .int .i64 0, .string ⟨#[]⟩]) (by simp [results, Tryz.results9, go_sem, *]) rfl ?_
    exact ⟨rfl, HL.out _ _ _⟩
  have q2 : (C.toList == [70, 65, 76, 83, 69]) = false := by rw [eL]; simpa using t2
  have ht : (truR s.data.toList).2 = false := by simp [truR, t1, t2]
  have HT := hidv (Lib.toList_data s)
  have HH := hidv (fun (n : Int) (hn : n ≠ 0) (e : fltR s.data.toList = n) => (show rdV s.data.toList = (4, n, ⟨#[]⟩) by simp [rdV, h0, hp, ht, e, hn]))
  have HX := hidv (fun (U : ByteArray) (e : fltR s.data.toList = 0) (hU : U.data.toList = trimL s.data.toList) => rdV_text (U := U) h0 hp ht e hU)
  obtain ⟨R, eR⟩ : ∃ R, rdV s.data.toList = R := ⟨_, rfl⟩
  rw [eR] at HH HX ⊢
  clear eR eL t1 t2 hp ht h0 hsz hs hml
  have cl := hidv called_any
  have cf := hidv fault_any
  have ca := hidv (fun U w => as_any 2 0 U w)
  go_enter Tryz.func9, Tryz.ntmps9
  go_wp2_with fail
  refine (cp.out _).mono ?_
  rintro e w1 ⟨rfl, hbx⟩
  have HB1 := hidv (HB.out.step hbx)
  clear hbx
  go_wp2_with fail
  refine (cb.out _).mono ?_
  rintro e w2 ⟨rfl, hbx⟩
  have HB2 := hidv (HB1.out.step hbx)
  clear hbx
  go_wp2_with fail
  go_loopw [6] (fun i wr => ∃ k : Nat, 1 ≤ k ∧ k ≤ 7 ∧ i = .int .i64 k ∧ wr = w2 ∧ Hid ((1 < k → s.data.toList ≠ [35, 68, 73, 86, 47, 48, 33]) ∧ (2 < k → s.data.toList ≠ [35, 78, 85, 77, 33]) ∧ (3 < k → s.data.toList ≠ [35, 86, 65, 76, 85, 69, 33]) ∧ (4 < k → s.data.toList ≠ [35, 82, 69, 70, 33]) ∧ (5 < k → s.data.toList ≠ [35, 78, 47, 65]) ∧ (6 < k → s.data.toList ≠ [35, 67, 89, 67, 76, 69, 33]))) (fun i _ => 7 - (RowKit.intOf i).toNat)
  case atStart => exact ⟨1, by omega, by omega, rfl, rfl, ⟨fun h => (by omega), fun h => (by omega), fun h => (by omega), fun h => (by omega), fun h => (by omega), fun h => (by omega)⟩⟩
  case round =>
    obtain ⟨k, hk1, hk7, rfl, rfl, HK⟩ := hrel
    have hc : k = 1 ∨ k = 2 ∨ k = 3 ∨ k = 4 ∨ k = 5 ∨ k = 6 ∨ k = 7 := by omega
    rcases hc with h | h | h | h | h | h | h
    · subst h
      have cl1 := hidv (cl.out 1 wr (by omega))
      rw [show errB 1 = ⟨#[35, 68, 73, 86, 47, 48, 33]⟩ by rfl] at cl1
      by_cases h : s.data.toList = [35, 68, 73, 86, 47, 48, 33]
      · have q : (s.toList == ([35, 68, 73, 86, 47, 48, 33] : List UInt8)) = true := by rw [HT.out, h]; rfl
        have VR := hidv (HH.out 1 (by omega) (by simp [fltR, h]))
        clear h
        go_wp2_with fail
        refine cl1.out.mono ?_
        rintro e w' ⟨rfl, rfl⟩
        go_wp2_with fail
        refine (cf.out _ _).mono ?_
        rintro e w3 ⟨rfl, hbx⟩
        have HB3 := hidv (HB2.out.step hbx)
        clear hbx
        have HL := hidv (fun x y z => (HB3.out.seta x y z).low)
        obtain ⟨p0, p1, p2, f0, f1, f2⟩ := three HB3.out.a
        obtain ⟨s0, s1, s2⟩ := three_set p0 p1 p2
        go_wp2_with fail
        refine bodyPost_ret (v := .agg #[.int .i64 4, .int .i64 1, .string ⟨#[]⟩]) (by simp [results, Tryz.results9, go_sem, *]) rfl ?_
        exact ⟨by rw [VR.out], HL.out _ _ _⟩
      · have q : (s.toList == ([35, 68, 73, 86, 47, 48, 33] : List UInt8)) = false := by rw [HT.out]; simpa using h
        have HN : Hid ((1 < 2 → s.data.toList ≠ [35, 68, 73, 86, 47, 48, 33]) ∧ (2 < 2 → s.data.toList ≠ [35, 78, 85, 77, 33]) ∧ (3 < 2 → s.data.toList ≠ [35, 86, 65, 76, 85, 69, 33]) ∧ (4 < 2 → s.data.toList ≠ [35, 82, 69, 70, 33]) ∧ (5 < 2 → s.data.toList ≠ [35, 78, 47, 65]) ∧ (6 < 2 → s.data.toList ≠ [35, 67, 89, 67, 76, 69, 33])) := ⟨fun _ => h, fun h => (by omega), fun h => (by omega), fun h => (by omega), fun h => (by omega), fun h => (by omega)⟩
        clear h
        go_wp2_with fail
        refine cl1.out.mono ?_
        rintro e w' ⟨rfl, rfl⟩
        go_wp2_with fail
        go_roundw
        case rel => exact ⟨2, by omega, by omega, by go_num, by first | rfl | trivial, HN⟩
        case measure => simp [RowKit.intOf]
    · subst h
      have cl1 := hidv (cl.out 2 wr (by omega))
      rw [show errB 2 = ⟨#[35, 78, 85, 77, 33]⟩ by rfl] at cl1
      by_cases h : s.data.toList = [35, 78, 85, 77, 33]
      · have q : (s.toList == ([35, 78, 85, 77, 33] : List UInt8)) = true := by rw [HT.out, h]; rfl
        have VR := hidv (HH.out 2 (by omega) (by simp [fltR, h]))
        clear h
        go_wp2_with fail
        refine cl1.out.mono ?_
        rintro e w' ⟨rfl, rfl⟩
        go_wp2_with fail
        refine (cf.out _ _).mono ?_
        rintro e w3 ⟨rfl, hbx⟩
        have HB3 := hidv (HB2.out.step hbx)
        clear hbx
        have HL := hidv (fun x y z => (HB3.out.seta x y z).low)
        obtain ⟨p0, p1, p2, f0, f1, f2⟩ := three HB3.out.a
        obtain ⟨s0, s1, s2⟩ := three_set p0 p1 p2
        go_wp2_with fail
        refine bodyPost_ret (v := .agg #[.int .i64 4, .int .i64 2, .string ⟨#[]⟩]) (by simp [results, Tryz.results9, go_sem, *]) rfl ?_
        exact ⟨by rw [VR.out], HL.out _ _ _⟩
      · have q : (s.toList == ([35, 78, 85, 77, 33] : List UInt8)) = false := by rw [HT.out]; simpa using h
        have HN : Hid ((1 < 3 → s.data.toList ≠ [35, 68, 73, 86, 47, 48, 33]) ∧ (2 < 3 → s.data.toList ≠ [35, 78, 85, 77, 33]) ∧ (3 < 3 → s.data.toList ≠ [35, 86, 65, 76, 85, 69, 33]) ∧ (4 < 3 → s.data.toList ≠ [35, 82, 69, 70, 33]) ∧ (5 < 3 → s.data.toList ≠ [35, 78, 47, 65]) ∧ (6 < 3 → s.data.toList ≠ [35, 67, 89, 67, 76, 69, 33])) := ⟨fun _ => HK.out.1 (by omega), fun _ => h, fun h => (by omega), fun h => (by omega), fun h => (by omega), fun h => (by omega)⟩
        clear h
        go_wp2_with fail
        refine cl1.out.mono ?_
        rintro e w' ⟨rfl, rfl⟩
        go_wp2_with fail
        go_roundw
        case rel => exact ⟨3, by omega, by omega, by go_num, by first | rfl | trivial, HN⟩
        case measure => simp [RowKit.intOf]
    · subst h
      have cl1 := hidv (cl.out 3 wr (by omega))
      rw [show errB 3 = ⟨#[35, 86, 65, 76, 85, 69, 33]⟩ by rfl] at cl1
      by_cases h : s.data.toList = [35, 86, 65, 76, 85, 69, 33]
      · have q : (s.toList == ([35, 86, 65, 76, 85, 69, 33] : List UInt8)) = true := by rw [HT.out, h]; rfl
        have VR := hidv (HH.out 3 (by omega) (by simp [fltR, h]))
        clear h
        go_wp2_with fail
        refine cl1.out.mono ?_
        rintro e w' ⟨rfl, rfl⟩
        go_wp2_with fail
        refine (cf.out _ _).mono ?_
        rintro e w3 ⟨rfl, hbx⟩
        have HB3 := hidv (HB2.out.step hbx)
        clear hbx
        have HL := hidv (fun x y z => (HB3.out.seta x y z).low)
        obtain ⟨p0, p1, p2, f0, f1, f2⟩ := three HB3.out.a
        obtain ⟨s0, s1, s2⟩ := three_set p0 p1 p2
        go_wp2_with fail
        refine bodyPost_ret (v := .agg #[.int .i64 4, .int .i64 3, .string ⟨#[]⟩]) (by simp [results, Tryz.results9, go_sem, *]) rfl ?_
        exact ⟨by rw [VR.out], HL.out _ _ _⟩
      · have q : (s.toList == ([35, 86, 65, 76, 85, 69, 33] : List UInt8)) = false := by rw [HT.out]; simpa using h
        have HN : Hid ((1 < 4 → s.data.toList ≠ [35, 68, 73, 86, 47, 48, 33]) ∧ (2 < 4 → s.data.toList ≠ [35, 78, 85, 77, 33]) ∧ (3 < 4 → s.data.toList ≠ [35, 86, 65, 76, 85, 69, 33]) ∧ (4 < 4 → s.data.toList ≠ [35, 82, 69, 70, 33]) ∧ (5 < 4 → s.data.toList ≠ [35, 78, 47, 65]) ∧ (6 < 4 → s.data.toList ≠ [35, 67, 89, 67, 76, 69, 33])) := ⟨fun _ => HK.out.1 (by omega), fun _ => HK.out.2.1 (by omega), fun _ => h, fun h => (by omega), fun h => (by omega), fun h => (by omega)⟩
        clear h
        go_wp2_with fail
        refine cl1.out.mono ?_
        rintro e w' ⟨rfl, rfl⟩
        go_wp2_with fail
        go_roundw
        case rel => exact ⟨4, by omega, by omega, by go_num, by first | rfl | trivial, HN⟩
        case measure => simp [RowKit.intOf]
    · subst h
      have cl1 := hidv (cl.out 4 wr (by omega))
      rw [show errB 4 = ⟨#[35, 82, 69, 70, 33]⟩ by rfl] at cl1
      by_cases h : s.data.toList = [35, 82, 69, 70, 33]
      · have q : (s.toList == ([35, 82, 69, 70, 33] : List UInt8)) = true := by rw [HT.out, h]; rfl
        have VR := hidv (HH.out 4 (by omega) (by simp [fltR, h]))
        clear h
        go_wp2_with fail
        refine cl1.out.mono ?_
        rintro e w' ⟨rfl, rfl⟩
        go_wp2_with fail
        refine (cf.out _ _).mono ?_
        rintro e w3 ⟨rfl, hbx⟩
        have HB3 := hidv (HB2.out.step hbx)
        clear hbx
        have HL := hidv (fun x y z => (HB3.out.seta x y z).low)
        obtain ⟨p0, p1, p2, f0, f1, f2⟩ := three HB3.out.a
        obtain ⟨s0, s1, s2⟩ := three_set p0 p1 p2
        go_wp2_with fail
        refine bodyPost_ret (v := .agg #[.int .i64 4, .int .i64 4, .string ⟨#[]⟩]) (by simp [results, Tryz.results9, go_sem, *]) rfl ?_
        exact ⟨by rw [VR.out], HL.out _ _ _⟩
      · have q : (s.toList == ([35, 82, 69, 70, 33] : List UInt8)) = false := by rw [HT.out]; simpa using h
        have HN : Hid ((1 < 5 → s.data.toList ≠ [35, 68, 73, 86, 47, 48, 33]) ∧ (2 < 5 → s.data.toList ≠ [35, 78, 85, 77, 33]) ∧ (3 < 5 → s.data.toList ≠ [35, 86, 65, 76, 85, 69, 33]) ∧ (4 < 5 → s.data.toList ≠ [35, 82, 69, 70, 33]) ∧ (5 < 5 → s.data.toList ≠ [35, 78, 47, 65]) ∧ (6 < 5 → s.data.toList ≠ [35, 67, 89, 67, 76, 69, 33])) := ⟨fun _ => HK.out.1 (by omega), fun _ => HK.out.2.1 (by omega), fun _ => HK.out.2.2.1 (by omega), fun _ => h, fun h => (by omega), fun h => (by omega)⟩
        clear h
        go_wp2_with fail
        refine cl1.out.mono ?_
        rintro e w' ⟨rfl, rfl⟩
        go_wp2_with fail
        go_roundw
        case rel => exact ⟨5, by omega, by omega, by go_num, by first | rfl | trivial, HN⟩
        case measure => simp [RowKit.intOf]
    · subst h
      have cl1 := hidv (cl.out 5 wr (by omega))
      rw [show errB 5 = ⟨#[35, 78, 47, 65]⟩ by rfl] at cl1
      by_cases h : s.data.toList = [35, 78, 47, 65]
      · have q : (s.toList == ([35, 78, 47, 65] : List UInt8)) = true := by rw [HT.out, h]; rfl
        have VR := hidv (HH.out 5 (by omega) (by simp [fltR, h]))
        clear h
        go_wp2_with fail
        refine cl1.out.mono ?_
        rintro e w' ⟨rfl, rfl⟩
        go_wp2_with fail
        refine (cf.out _ _).mono ?_
        rintro e w3 ⟨rfl, hbx⟩
        have HB3 := hidv (HB2.out.step hbx)
        clear hbx
        have HL := hidv (fun x y z => (HB3.out.seta x y z).low)
        obtain ⟨p0, p1, p2, f0, f1, f2⟩ := three HB3.out.a
        obtain ⟨s0, s1, s2⟩ := three_set p0 p1 p2
        go_wp2_with fail
        refine bodyPost_ret (v := .agg #[.int .i64 4, .int .i64 5, .string ⟨#[]⟩]) (by simp [results, Tryz.results9, go_sem, *]) rfl ?_
        exact ⟨by rw [VR.out], HL.out _ _ _⟩
      · have q : (s.toList == ([35, 78, 47, 65] : List UInt8)) = false := by rw [HT.out]; simpa using h
        have HN : Hid ((1 < 6 → s.data.toList ≠ [35, 68, 73, 86, 47, 48, 33]) ∧ (2 < 6 → s.data.toList ≠ [35, 78, 85, 77, 33]) ∧ (3 < 6 → s.data.toList ≠ [35, 86, 65, 76, 85, 69, 33]) ∧ (4 < 6 → s.data.toList ≠ [35, 82, 69, 70, 33]) ∧ (5 < 6 → s.data.toList ≠ [35, 78, 47, 65]) ∧ (6 < 6 → s.data.toList ≠ [35, 67, 89, 67, 76, 69, 33])) := ⟨fun _ => HK.out.1 (by omega), fun _ => HK.out.2.1 (by omega), fun _ => HK.out.2.2.1 (by omega), fun _ => HK.out.2.2.2.1 (by omega), fun _ => h, fun h => (by omega)⟩
        clear h
        go_wp2_with fail
        refine cl1.out.mono ?_
        rintro e w' ⟨rfl, rfl⟩
        go_wp2_with fail
        go_roundw
        case rel => exact ⟨6, by omega, by omega, by go_num, by first | rfl | trivial, HN⟩
        case measure => simp [RowKit.intOf]
    · subst h
      have cl1 := hidv (cl.out 6 wr (by omega))
      rw [show errB 6 = ⟨#[35, 67, 89, 67, 76, 69, 33]⟩ by rfl] at cl1
      by_cases h : s.data.toList = [35, 67, 89, 67, 76, 69, 33]
      · have q : (s.toList == ([35, 67, 89, 67, 76, 69, 33] : List UInt8)) = true := by rw [HT.out, h]; rfl
        have VR := hidv (HH.out 6 (by omega) (by simp [fltR, h]))
        clear h
        go_wp2_with fail
        refine cl1.out.mono ?_
        rintro e w' ⟨rfl, rfl⟩
        go_wp2_with fail
        refine (cf.out _ _).mono ?_
        rintro e w3 ⟨rfl, hbx⟩
        have HB3 := hidv (HB2.out.step hbx)
        clear hbx
        have HL := hidv (fun x y z => (HB3.out.seta x y z).low)
        obtain ⟨p0, p1, p2, f0, f1, f2⟩ := three HB3.out.a
        obtain ⟨s0, s1, s2⟩ := three_set p0 p1 p2
        go_wp2_with fail
        refine bodyPost_ret (v := .agg #[.int .i64 4, .int .i64 6, .string ⟨#[]⟩]) (by simp [results, Tryz.results9, go_sem, *]) rfl ?_
        exact ⟨by rw [VR.out], HL.out _ _ _⟩
      · have q : (s.toList == ([35, 67, 89, 67, 76, 69, 33] : List UInt8)) = false := by rw [HT.out]; simpa using h
        have HN : Hid ((1 < 7 → s.data.toList ≠ [35, 68, 73, 86, 47, 48, 33]) ∧ (2 < 7 → s.data.toList ≠ [35, 78, 85, 77, 33]) ∧ (3 < 7 → s.data.toList ≠ [35, 86, 65, 76, 85, 69, 33]) ∧ (4 < 7 → s.data.toList ≠ [35, 82, 69, 70, 33]) ∧ (5 < 7 → s.data.toList ≠ [35, 78, 47, 65]) ∧ (6 < 7 → s.data.toList ≠ [35, 67, 89, 67, 76, 69, 33])) := ⟨fun _ => HK.out.1 (by omega), fun _ => HK.out.2.1 (by omega), fun _ => HK.out.2.2.1 (by omega), fun _ => HK.out.2.2.2.1 (by omega), fun _ => HK.out.2.2.2.2.1 (by omega), fun _ => h⟩
        clear h
        go_wp2_with fail
        refine cl1.out.mono ?_
        rintro e w' ⟨rfl, rfl⟩
        go_wp2_with fail
        go_roundw
        case rel => exact ⟨7, by omega, by omega, by go_num, by first | rfl | trivial, HN⟩
        case measure => simp [RowKit.intOf]
    · subst h
      have hF0 : fltR s.data.toList = 0 := by simp [fltR, HK.out.1 (by omega), HK.out.2.1 (by omega), HK.out.2.2.1 (by omega), HK.out.2.2.2.1 (by omega), HK.out.2.2.2.2.1 (by omega), HK.out.2.2.2.2.2 (by omega)]
      have hd := drop_cons s 0 hpos
      rw [List.drop_zero] at hd
      by_cases h39 : (s[0].toNat : Int) = 39
      · have q0 : ((s[0].toNat : Int) == 39) = true := by simpa using h39
        have e39 : s[0] = 39 := by apply UInt8.toNat_inj.1; simp; omega
        have hU : (s.extract 1 s.size).data.toList = trimL s.data.toList := by
          rw [Lib.extract_to_end, hd, e39]
          simp [trimL, Lib.trimPrefix, Lib.hasPrefix]
        have VR := hidv (HX.out (s.extract 1 s.size) hF0 hU)
        have caU := hidv (ca.out (s.extract 1 s.size))
        generalize cnt 2 0 (s.extract 1 s.size) = Z at VR caU
        obtain ⟨z1, z2, z3⟩ := Z
        have hs1 : (1 : Int) ≤ s.size := by omega
        clear hF0 hd hU h39 e39
        go_wp2_with fail
        refine (caU.out _).mono ?_
        rintro e w3 ⟨rfl, hbx⟩
        have HB3 := hidv (HB2.out.step hbx)
        clear hbx
        have HL := hidv (fun x y z => (HB3.out.seta x y z).low)
        obtain ⟨p0, p1, p2, f0, f1, f2⟩ := three HB3.out.a
        obtain ⟨s0, s1, s2⟩ := three_set p0 p1 p2
        go_wp2_with fail
        refine bodyPost_ret (v := .agg #[.int .i64 z1, .int .i64 z2, .string z3]) (by simp [results, Tryz.results9, go_sem, *]) rfl ?_
        exact ⟨by rw [VR.out], HL.out _ _ _⟩
      · have q0 : ((s[0].toNat : Int) == 39) = false := by simpa using h39
        have e39 : s[0] ≠ 39 := by intro e; apply h39; rw [e]; rfl
        have hU : s.data.toList = trimL s.data.toList := by
          rw [hd]
          have : ((39 : UInt8) == s[0]) = false := by simp only [beq_eq_false_iff_ne]; exact fun e => e39 e.symm
          simp [trimL, Lib.trimPrefix, Lib.hasPrefix, List.isPrefixOf, this]
        have VR := hidv (HX.out s hF0 hU)
        have caU := hidv (ca.out s)
        generalize cnt 2 0 s = Z at VR caU
        obtain ⟨z1, z2, z3⟩ := Z
        clear hF0 hd hU h39 e39
        go_wp2_with fail
        refine (caU.out _).mono ?_
        rintro e w3 ⟨rfl, hbx⟩
        have HB3 := hidv (HB2.out.step hbx)
        clear hbx
        have HL := hidv (fun x y z => (HB3.out.seta x y z).low)
        obtain ⟨p0, p1, p2, f0, f1, f2⟩ := three HB3.out.a
        obtain ⟨s0, s1, s2⟩ := three_set p0 p1 p2
        go_wp2_with fail
        refine bodyPost_ret (v := .agg #[.int .i64 z1, .int .i64 z2, .string z3]) (by simp [results, Tryz.results9, go_sem, *]) rfl ?_
        exact ⟨by rw [VR.out], HL.out _ _ _⟩
end Go.Proofs.YtjbkjeabobccaabGreatDoor
