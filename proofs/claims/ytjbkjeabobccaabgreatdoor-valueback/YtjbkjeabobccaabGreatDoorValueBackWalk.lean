import Derived.Test.YtjbkjeabobccaabGreatDoorValRead
import Derived.Test.YtjbkjeabobccaabGreatDoorValueOrdersWalk
import Derived.Test.YtjbkjeabobccaabGreatDoorNumParses1
namespace Go.Proofs.YtjbkjeabobccaabGreatDoor
open Go.RowKit Go.Sort Go.Lib
set_option linter.unusedVariables false

/-! What is shown and typed in again. -/
theorem printL_len (n : Int) (h1 : -9223372036854775807 ≤ n) (h2 : n ≤ 9223372036854775807) : (printL n).length ≤ 31 := by
  have a1 : (decDigits (n.natAbs / 1000000)).length ≤ 20 := by rw [decDigits_length]; exact nDigits_le20 _ (by omega)
  have a2 := (frac_ok n.natAbs).2.1
  rw [printL_eq, List.length_append, List.length_append]
  split <;> split <;> simp <;> omega
theorem back_num (N : Int) (h1 : -9223372036854775807 ≤ N) (h2 : N ≤ 9223372036854775807) : rdV (printL N) = (1, N, ⟨#[]⟩) := by
  have hp := parse_print N h1 h2
  have h0 : printL N ≠ [] := by intro e; rw [e, parse_none] at hp; cases hp
  simp [rdV, h0, hp]
theorem back_true : rdV [84, 82, 85, 69] = (3, 1, ⟨#[]⟩) := by
  have h1 : (parseR [84, 82, 85, 69]).2 = false := by decide +kernel
  have h2 : truR [84, 82, 85, 69] = (true, true) := by decide +kernel
  simp [rdV, h1, h2]
theorem back_false : rdV [70, 65, 76, 83, 69] = (3, 0, ⟨#[]⟩) := by
  have h1 : (parseR [70, 65, 76, 83, 69]).2 = false := by decide +kernel
  have h2 : truR [70, 65, 76, 83, 69] = (false, true) := by decide +kernel
  simp [rdV, h1, h2]
theorem back_err (n : Int) (h : n = 1 ∨ n = 2 ∨ n = 3 ∨ n = 4 ∨ n = 5 ∨ n = 6) : rdV (errB n).data.toList = (4, n, ⟨#[]⟩) := by
  have key : ∀ l : List UInt8, (parseR l).2 = false → (truR l).2 = false → l ≠ [] → fltR l = n → n ≠ 0 → rdV l = (4, n, ⟨#[]⟩) := by
    intro l h1 h2 h3 h4 h5
    simp [rdV, h1, h2, h3, h4, h5]
  rcases h with h | h | h | h | h | h <;> subst h <;> exact key _ (by decide +kernel) (by decide +kernel) (by decide +kernel) (by decide +kernel) (by decide)
theorem back_text (T : List UInt8) (h : T.length ≤ 1000) : rdV (39 :: T) = (2, 0, ⟨T.toArray⟩) := by
  have hp : (parseR (39 :: T)).2 = false := by
    have := parse_no1 (l := 39 :: T) (pre := []) (T := 39 :: T) (neg := false) ⟨rfl, (fun e => by cases e), (fun _ => ⟨rfl, by simp⟩)⟩ (.inr ⟨39, T, rfl, by decide⟩)
    rw [this]
  have hc : cap 39 = 39 := by decide
  have ht : (truR (39 :: T)).2 = false := by
    unfold truR
    rw [List.map_cons, hc, if_neg (by simp), if_neg (by simp)]
  have hf : fltR (39 :: T) = 0 := by simp [fltR]
  have hr : trimL (39 :: T) = T := by simp [trimL, Lib.trimPrefix, Lib.hasPrefix]
  simp [rdV, hp, ht, hf, hr]
  omega

set_option maxHeartbeats 800000 in
theorem same2_yes (k n : Int) (t : ByteArray) (w : World) : Calls Tryz.prog 10 #[.agg #[.int .i64 k, .int .i64 n, .string t], .agg #[.int .i64 k, .int .i64 n, .string t]] w fun e w' => e = .returned (.bool true) ∧ Below w.heap.size w w' := by
  go_enter Tryz.func10, Tryz.ntmps10
  go_wp2
  go_ret
  exact ⟨rfl, by go_grown⟩
theorem cnt_text (k n : Int) (t : ByteArray) {K N : Int} {T : ByteArray} (h : cnt k n t = (K, N, T)) (hK : K = 2) : N = 0 := by
  subst hK
  unfold cnt at h
  split at h
  · split at h <;> simp at h
  · split at h
    · split at h
      · simp at h
      · simp at h; omega
    · split at h
      · simp at h
      · split at h <;> simp at h
theorem cnt_kinds (k n : Int) (t : ByteArray) {K N : Int} {T : ByteArray} (h : cnt k n t = (K, N, T)) : K = 1 ∨ K = 2 ∨ (K = 3 ∧ T = ⟨#[]⟩) ∨ (K = 4 ∧ T = ⟨#[]⟩) ∨ (K = 0 ∧ N = 0 ∧ T = ⟨#[]⟩) := by
  unfold cnt at h
  split at h
  · split at h <;> simp at h <;> simp [← h.1, ← h.2.2]
  · split at h
    · split at h <;> simp at h <;> simp [← h.1, ← h.2.2]
    · split at h
      · simp at h; simp [← h.1, ← h.2.2]
      · split at h <;> simp at h <;> simp [← h.1, ← h.2.1, ← h.2.2]
theorem cnt_num0 (k n : Int) (t : ByteArray) {K N : Int} {T : ByteArray} (h : cnt k n t = (K, N, T)) (hK : K = 1) : T = ⟨#[]⟩ := by
  subst hK
  unfold cnt at h
  split at h
  · split at h
    · simp at h
    · simp at h; exact h.2.symm
  · split at h
    · split at h <;> simp at h
    · split at h
      · simp at h
      · split at h <;> simp at h
/-- What is shown, typed in again: the value itself, but for texts. -/
theorem back_all (k n : Int) (t : ByteArray) (K N : Int) (T : ByteArray) (h : Ci k n t K N T) (h2 : K ≠ 2) : rdV (shwI K N T).data.toList = (K, N, T) := by
  rcases cnt_kinds k n t h.cn.e with e | e | ⟨e, eT⟩ | ⟨e, eT⟩ | ⟨e, eN, eT⟩
  · have hn := cnt_num k n t h.cn.e e
    have eT := cnt_num0 k n t h.cn.e e
    subst e eT
    have := back_num N (by have := h.lo; omega) (by have := h.hi; omega)
    simpa [shwI, txtI] using this
  · exact absurd e h2
  · subst e eT
    rcases cnt_truth k n t h.cn.e rfl with e | e
    · subst e; exact back_false
    · subst e; exact back_true
  · have hn := cnt_err k n t h.cn.e e
    subst e eT
    have : shwI 4 N ⟨#[]⟩ = errB N := by
      have h0 : N ≠ 0 := by omega
      simp [shwI, txtI, h0]
    rw [this]
    exact back_err N hn
  · subst e eN eT
    rfl

theorem shw_text (N : Int) (T : ByteArray) : shwI 2 N T = T := by simp [shwI, txtI]
theorem shw_size (k n : Int) (t : ByteArray) (K N : Int) (T : ByteArray) (h : Ci k n t K N T) : (shwI K N T).size ≤ 1000 := by
  rcases cnt_kinds k n t h.cn.e with e | e | ⟨e, eT⟩ | ⟨e, eT⟩ | ⟨e, eN, eT⟩
  · have hn := cnt_num k n t h.cn.e e
    subst e
    have h1 := printL_len N (by have := h.lo; omega) (by have := h.hi; omega)
    have : shwI 1 N T = ⟨(printL N).toArray⟩ := by simp [shwI, txtI]
    rw [this, Lib.size_eq]
    simp
    omega
  · subst e
    rw [shw_text]
    exact cnt_size k n t h.cn.e
  · subst e eT
    rcases cnt_truth k n t h.cn.e rfl with e | e <;> subst e <;> decide
  · have hn := cnt_err k n t h.cn.e e
    subst e eT
    rcases hn with e | e | e | e | e | e <;> subst e <;> decide
  · subst e eN eT
    decide

set_option maxHeartbeats 4000000 in
set_option maxRecDepth 100000 in
theorem valueBack_walk (k n : Int) (t : ByteArray) (w : World) (hE : Env w) (hF : FTab w) (hlo : -9223372036854775808 ≤ n) (hhi : n ≤ 9223372036854775807) :
    Calls Tryz.prog 7 #[.agg #[.int .i64 k, .int .i64 n, .string t]] w fun e w' => e = .returned (.bool true) ∧ Below w.heap.size w w' := by
  obtain ⟨⟨K, N, T⟩, e1⟩ : ∃ c, cnt k n t = c := ⟨_, rfl⟩
  have hci : Ci k n t K N T := ⟨⟨e1⟩, hlo, hhi⟩
  have HE := hidv hE
  have HF := hidv hF
  have HZ := hidv (shw_size k n t K N T hci)
  have HBA := hidv (back_all k n t K N T hci)
  have HTX := hidv (fun h => cnt_text k n t e1 h)
  have HTS := hidv (cnt_size k n t e1)
  have cg := hidv given2_any
  have csh := hidv (show_cn k n t K N T hci)
  have cas := hidv (as_cn k n t K N T ⟨e1⟩)
  have al := hidv alive2_any
  have csm := hidv same2_yes
  clear hE hF hlo hhi hci e1
  have HSX := hidv (fun N T => shw_text N T)
  obtain ⟨S, eS⟩ : ∃ S, shwI K N T = S := ⟨_, rfl⟩
  rw [eS] at HZ HBA csh
  have HS := hidv eS
  clear eS
  have cr0 := fun w hE hF => read_any S w hE hF (by have := HZ.out; omega)
  obtain ⟨⟨r1, r2, r3⟩, er⟩ : ∃ r, rdV S.data.toList = r := ⟨_, rfl⟩
  rw [er] at HBA
  simp only [er] at cr0
  have cr := hidv cr0
  clear cr0 er
  have V0 := hidv (oneB_new w 25 (.int .i64 k) (.int .i64 n) (.string t))
  go_enter Tryz.func7, Tryz.ntmps7
  go_wp2_with fail
  refine (cg.out _ _ _ _).mono ?_
  rintro e w1 ⟨rfl, hb1⟩
  have V1 := hidv ((V0.out.step hb1).step ((Below.refl _ w1).alloc (Nat.le_refl _) (.cells #[.int .i64 k, .int .i64 n, .string t] 23)))
  clear hb1 V0
  go_wp2_with fail
  refine (csh.out _ (HE.out.step V1.out.low) (fun _ => HF.out.step V1.out.low)).mono ?_
  rintro e w2 ⟨rfl, hb2⟩
  have V2 := hidv (V1.out.step hb2)
  clear hb2 V1
  go_wp2_with fail
  refine (cr.out _ (HE.out.step V2.out.low) (HF.out.step V2.out.low)).mono ?_
  rintro e w3 ⟨rfl, hb3⟩
  have V3 := hidv ((V2.out.step hb3).step ((Below.refl _ w3).alloc (Nat.le_refl _) (.cells #[.int .i64 r1, .int .i64 r2, .string r3] 23)))
  have h03 : w.heap.size ≤ w3.heap.size := (V2.out.step hb3).low.size
  have X3 := hidv (oneB_new w3 23 (.int .i64 r1) (.int .i64 r2) (.string r3))
  obtain ⟨v0, v1, v2, v3, v4, v5⟩ := three V3.out.a
  clear hb3 V2
  go_wp2_with fail
  refine (cas.out _).mono ?_
  rintro e w4 ⟨rfl, hb4⟩
  have V4 := hidv ((V3.out.step hb4).step ((Below.refl _ w4).alloc (Nat.le_refl _) (.cells #[.int .i64 K, .int .i64 N, .string T] 25)))
  have h34 : w3.heap.size < w4.heap.size := lt_blk (X3.out.step hb4).a
  have X4 := hidv ((X3.out.step hb4).step ((Below.refl _ w4).alloc (Nat.le_refl _) (.cells #[.int .i64 K, .int .i64 N, .string T] 25)))
  have A4 := hidv (oneB_new w4 25 (.int .i64 K) (.int .i64 N) (.string T))
  clear hb4 V3 X3 v0 v1 v2 v3 v4 v5
  go_upto_region 5 with fail
  obtain ⟨x0, x1, x2, x3, x4, x5⟩ := three X4.out.a
  obtain ⟨a0, a1, a2, a3, a4, a5⟩ := three A4.out.a
  generalize (w4.alloc (.cells #[.int .i64 K, .int .i64 N, .string T] 25)) = wq at V4 X4 A4 x0 x1 x2 x3 x4 x5 a0 a1 a2 a3 a4 a5 ⊢
  by_cases g : K = 2
  · subst g
    obtain rfl : N = 0 := HTX.out rfl
    obtain rfl : S = T := by rw [← HS.out]; exact HSX.out 0 T
    have hadd : ∀ W, (Op.stringOp .add ⟨#[39]⟩ S).run Tryz.prog W = .ok (.string (⟨#[39]⟩ ++ S)) W := fun W => run_string_add_sum W _ _ (by have := HTS.out; have h1 : (⟨#[39]⟩ : ByteArray).size = 1 := rfl; omega)
    have hl : (⟨#[39]⟩ ++ S : ByteArray).data.toList = 39 :: S.data.toList := by simp
    have cr0 := fun w hE hF => read_any (⟨#[39]⟩ ++ S) w hE hF (by rw [ByteArray.size_append]; have := HTS.out; have h1 : (⟨#[39]⟩ : ByteArray).size = 1 := rfl; omega)
    rw [hl, back_text S.data.toList (by rw [← Lib.size_eq]; exact HTS.out), show (⟨S.data.toList.toArray⟩ : ByteArray) = S by cases S; simp] at cr0
    have cr2 := hidv cr0
    generalize (⟨#[39]⟩ ++ S : ByteArray) = U at hadd cr2
    clear cr0 hl cr
    go_wp2_with fail
    refine (cr2.out _ (HE.out.step V4.out.low) (HF.out.step V4.out.low)).mono ?_
    rintro e w5 ⟨rfl, hb5⟩
    have X5 := hidv ((X4.out.step hb5).seta (.int .i64 2) (.int .i64 0) (.string S))
    have A5 : Hid ((((w5.setCell ⟨w3.heap.size, 0, none⟩ (.int .i64 2)).setCell ⟨w3.heap.size, 1, none⟩ (.int .i64 0)).setCell ⟨w3.heap.size, 2, none⟩ (.string S)).heap[w4.heap.size]? = some (.cells #[.int .i64 2, .int .i64 0, .string S] 25 (0, 0))) := far_set (by omega) (A4.out.step hb5).a
    have L5 : Hid (Below w.heap.size w (((w5.setCell ⟨w3.heap.size, 0, none⟩ (.int .i64 2)).setCell ⟨w3.heap.size, 1, none⟩ (.int .i64 0)).setCell ⟨w3.heap.size, 2, none⟩ (.string S))) := (((V4.out.step hb5).low.setCell h03 _).setCell h03 _).setCell h03 _
    obtain ⟨y0, y1, y2, y3, y4, y5⟩ := three (X4.out.step hb5).a
    clear hb5 hadd X4 A4 V4 x0 x1 x2 x3 x4 x5 a0 a1 a2 a3 a4 a5
    go_upto_region 7 with fail
    clear y0 y1 y2 y3 y4 y5
    generalize (((w5.setCell ⟨w3.heap.size, 0, none⟩ (.int .i64 2)).setCell ⟨w3.heap.size, 1, none⟩ (.int .i64 0)).setCell ⟨w3.heap.size, 2, none⟩ (.string S)) = wz at X5 A5 L5 ⊢
    obtain ⟨x0, x1, x2, x3, x4, x5⟩ := three X5.out.a
    obtain ⟨a0, a1, a2, a3, a4, a5⟩ := three A5.out
    clear X5 A5
    by_cases gl : S.size = 1000
    · have gl' : ((S.size : Int) == 1000) = true := by simp; omega
      clear gl
      go_wp2_with fail
      refine (csm.out _ _ _ _).mono ?_
      rintro e w7 ⟨rfl, hb7⟩
      have L7 := hidv (key2v L5.out hb7)
      clear hb7
      go_wp2_with fail
      refine (al.out _ (HE.out.step L7.out)).mono ?_
      rintro e w8 ⟨rfl, hb8⟩
      have L8 := hidv (key2v L7.out hb8)
      go_wp2_with fail
      go_ret
      exact ⟨rfl, L8.out⟩
    · have gl' : ((S.size : Int) == 1000) = false := by simp; omega
      clear gl
      go_wp2_with fail
      refine (csm.out _ _ _ _).mono ?_
      rintro e w7 ⟨rfl, hb7⟩
      have L7 := hidv (key2v L5.out hb7)
      clear hb7
      go_wp2_with fail
      refine (al.out _ (HE.out.step L7.out)).mono ?_
      rintro e w8 ⟨rfl, hb8⟩
      have L8 := hidv (key2v L7.out hb8)
      go_wp2_with fail
      go_ret
      exact ⟨rfl, L8.out⟩
  · have hg : (K == 2) = false := by simpa using g
    have hR := HBA.out g
    simp only [Prod.mk.injEq] at hR
    obtain ⟨rfl, rfl, rfl⟩ := hR
    clear g
    go_wp2_with fail
    refine (csm.out _ _ _ _).mono ?_
    rintro e w5 ⟨rfl, hb5⟩
    have V5 := hidv (V4.out.step hb5)
    clear hb5
    go_wp2_with fail
    refine (al.out _ (HE.out.step V5.out.low)).mono ?_
    rintro e w6 ⟨rfl, hb6⟩
    have V6 := hidv (V5.out.step hb6)
    go_wp2_with fail
    go_ret
    exact ⟨rfl, V6.out.low⟩
end Go.Proofs.YtjbkjeabobccaabGreatDoor
