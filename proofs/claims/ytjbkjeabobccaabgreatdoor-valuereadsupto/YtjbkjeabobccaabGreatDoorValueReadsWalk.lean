import Derived.Test.YtjbkjeabobccaabGreatDoorValRRead
import Derived.Test.YtjbkjeabobccaabGreatDoorValueOrdersWalk
namespace Go.Proofs.YtjbkjeabobccaabGreatDoor
open Go.RowKit Go.Sort Go.Lib
set_option linter.unusedVariables false

set_option maxHeartbeats 800000 in
theorem same2_it (k n : Int) (t : ByteArray) (w : World) : Calls Tryz.prog 10 #[.agg #[.int .i64 k, .int .i64 n, .string t], .agg #[.int .i64 k, .int .i64 n, .string t]] w fun e w' => e = .returned (.bool true) ∧ Below w.heap.size w w' := by
  go_enter Tryz.func10, Tryz.ntmps10
  go_wp2
  go_ret
  exact ⟨rfl, by go_grown⟩
/-- What is read counts as it is. -/
theorem rdV_ci (l : List UInt8) {K N : Int} {T : ByteArray} (h : rdV l = (K, N, T)) : Ci K N T K N T := by
  unfold rdV at h
  split at h
  · simp at h; obtain ⟨rfl, rfl, rfl⟩ := h; exact ⟨⟨by simp [cnt]⟩, by omega, by omega⟩
  · split at h
    · rename_i hp
      have hb := parseR_bd l hp
      simp at h; obtain ⟨rfl, rfl, rfl⟩ := h
      have hne : (parseR l).1 ≠ -9223372036854775808 := by omega
      exact ⟨⟨by simp [cnt, hne]⟩, by omega, by omega⟩
    · split at h
      · simp at h; obtain ⟨rfl, rfl, rfl⟩ := h
        cases (truR l).1
        · exact ⟨⟨by simp [cnt]⟩, by simp, by simp⟩
        · exact ⟨⟨by simp [cnt]⟩, by simp, by simp⟩
      · split at h
        · rename_i hf
          simp at h; obtain ⟨rfl, rfl, rfl⟩ := h
          have hn : 1 ≤ fltR l ∧ fltR l ≤ 6 := by
            generalize e : fltR l = n at hf ⊢
            unfold fltR at e
            repeat' split at e
            all_goals omega
          exact ⟨⟨by simp [cnt]; omega⟩, by omega, by omega⟩
        · split at h
          · simp at h; obtain ⟨rfl, rfl, rfl⟩ := h; exact ⟨⟨by simp [cnt]⟩, by omega, by omega⟩
          · rename_i hl
            simp at h; obtain ⟨rfl, rfl, rfl⟩ := h
            have hz : (⟨(trimL l).toArray⟩ : ByteArray).size = (trimL l).length := by rw [Lib.size_eq]
            exact ⟨⟨by simp [cnt, hz, hl]⟩, by omega, by omega⟩

set_option maxHeartbeats 16000000 in
set_option maxRecDepth 100000 in
theorem valueReads_walk (s : ByteArray) (w : World) (hE : Env w) (hF : FTab w) (hs : s.size < 4294967281) :
    Calls Tryz.prog 3 #[.string s] w fun e w' => e = .returned (.bool true) ∧ Below w.heap.size w w' := by
  have HE := hidv hE
  have HF := hidv hF
  have cr0 := fun w hE hF => read_any s w hE hF hs
  have dr0 := fun w => rRead_any s w hs
  obtain ⟨⟨K, N, T⟩, eV⟩ : ∃ v, rdV s.data.toList = v := ⟨_, rfl⟩
  simp only [eV] at cr0 dr0
  have hci := rdV_ci _ eV
  have cr := hidv cr0
  have dr := hidv dr0
  have c4 := hidv (show_cn K N T K N T hci)
  have d4 := hidv (rShow_cn K N T K N T hci)
  have csm := hidv same2_it
  have al := hidv alive2_any
  generalize shwI K N T = r7 at c4 d4
  clear cr0 dr0 hE hF hs hci eV
  go_enter Tryz.func3, Tryz.ntmps3
  go_wp2_with fail
  refine (cr.out _ HE.out HF.out).mono ?_
  rintro e w1 ⟨rfl, hb1⟩
  have L1 := hidv hb1
  have X1 := hidv (oneB_new w1 23 (.int .i64 K) (.int .i64 N) (.string T))
  clear hb1
  go_wp2_with fail
  refine (dr.out _).mono ?_
  rintro e w2 ⟨rfl, hb2⟩
  have X2 := hidv ((X1.out.step hb2).step ((Below.refl _ w2).alloc (Nat.le_refl _) (.cells #[.int .i64 K, .int .i64 N, .string T] 25)))
  have Y2 := hidv (oneB_new w2 25 (.int .i64 K) (.int .i64 N) (.string T))
  have h12 : w1.heap.size < w2.heap.size := lt_blk (X1.out.step hb2).a
  clear hb2 X1
  go_upto_region 3 with fail
  obtain ⟨v0, v1, v2, v3, v4, v5⟩ := three X2.out.a
  obtain ⟨x0, x1, x2, x3, x4, x5⟩ := three Y2.out.a
  have B0 : Below w.heap.size w (w2.alloc (.cells #[.int .i64 K, .int .i64 N, .string T] 25)).drew := (key2v L1.out X2.out.low).drew
  have hz : w2.heap.size < (w2.alloc (.cells #[.int .i64 K, .int .i64 N, .string T] 25)).heap.size := lt_blk Y2.out.a
  clear X2 Y2 L1 v3 v4 v5 x3 x4 x5 cr dr
  generalize (w2.alloc (.cells #[.int .i64 K, .int .i64 N, .string T] 25)) = wq at v0 v1 v2 x0 x1 x2 B0 hz ⊢
  go_region_held2 (fun w' => w'.cell? ⟨w1.heap.size, 0, none⟩ = some (.int .i64 K) ∧ w'.cell? ⟨w1.heap.size, 1, none⟩ = some (.int .i64 N) ∧ w'.cell? ⟨w1.heap.size, 2, none⟩ = some (.string T) ∧ w'.cell? ⟨w2.heap.size, 0, none⟩ = some (.int .i64 K) ∧ w'.cell? ⟨w2.heap.size, 1, none⟩ = some (.int .i64 N) ∧ w'.cell? ⟨w2.heap.size, 2, none⟩ = some (.string T)) (go_keep)
    (first
      | (go_at_call 10; refine (csm.out _ _ _ _).mono ?_; rintro e w9 ⟨rfl, hb9⟩; have kw9 : ∀ o, w9.cell? ⟨w1.heap.size, o, none⟩ = _ := (fun o => hb9.cell (p := ⟨w1.heap.size, o, none⟩) (by first | omega | (simp <;> omega))); have jw9 : ∀ o, w9.cell? ⟨w2.heap.size, o, none⟩ = _ := (fun o => hb9.cell (p := ⟨w2.heap.size, o, none⟩) (by first | omega | (simp <;> omega))); have zw9 : w2.heap.size < w9.heap.size := Nat.lt_of_lt_of_le (by first | omega | (simp <;> omega)) hb9.size; have Bw9 : Below w.heap.size w w9 := key2v (by assumption) hb9; clear hb9)
      | (go_at_call 11; refine (c4.out _ (HE.out.step (by assumption)) (fun _ => HF.out.step (by assumption))).mono ?_; rintro e w10 ⟨rfl, hb10⟩; have kw10 : ∀ o, w10.cell? ⟨w1.heap.size, o, none⟩ = _ := (fun o => hb10.cell (p := ⟨w1.heap.size, o, none⟩) (by first | omega | (simp <;> omega))); have jw10 : ∀ o, w10.cell? ⟨w2.heap.size, o, none⟩ = _ := (fun o => hb10.cell (p := ⟨w2.heap.size, o, none⟩) (by first | omega | (simp <;> omega))); have zw10 : w2.heap.size < w10.heap.size := Nat.lt_of_lt_of_le (by first | omega | (simp <;> omega)) hb10.size; have Bw10 : Below w.heap.size w w10 := key2v (by assumption) hb10; clear hb10)
      | (go_at_call 12; refine (d4.out _).mono ?_; rintro e w20 ⟨rfl, hb20⟩; have kw20 : ∀ o, w20.cell? ⟨w1.heap.size, o, none⟩ = _ := (fun o => hb20.cell (p := ⟨w1.heap.size, o, none⟩) (by first | omega | (simp <;> omega))); have jw20 : ∀ o, w20.cell? ⟨w2.heap.size, o, none⟩ = _ := (fun o => hb20.cell (p := ⟨w2.heap.size, o, none⟩) (by first | omega | (simp <;> omega))); have zw20 : w2.heap.size < w20.heap.size := Nat.lt_of_lt_of_le (by first | omega | (simp <;> omega)) hb20.size; have Bw20 : Below w.heap.size w w20 := key2v (by assumption) hb20; clear hb20)
      | (go_at_call 13; refine (al.out _ (HE.out.step (by assumption))).mono ?_; rintro e w30 ⟨rfl, hb30⟩; have kw30 : ∀ o, w30.cell? ⟨w1.heap.size, o, none⟩ = _ := (fun o => hb30.cell (p := ⟨w1.heap.size, o, none⟩) (by first | omega | (simp <;> omega))); have jw30 : ∀ o, w30.cell? ⟨w2.heap.size, o, none⟩ = _ := (fun o => hb30.cell (p := ⟨w2.heap.size, o, none⟩) (by first | omega | (simp <;> omega))); have zw30 : w2.heap.size < w30.heap.size := Nat.lt_of_lt_of_le (by first | omega | (simp <;> omega)) hb30.size; have Bw30 : Below w.heap.size w w30 := key2v (by assumption) hb30; clear hb30))
  all_goals
    go_wp2_with fail
    go_ret
    exact ⟨rfl, Bw30⟩
end Go.Proofs.YtjbkjeabobccaabGreatDoor
