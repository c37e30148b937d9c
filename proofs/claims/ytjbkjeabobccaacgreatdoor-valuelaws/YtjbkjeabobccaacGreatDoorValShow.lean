import Derived.Test.YtjbkjeabobccaacGreatDoorValWork0
namespace Go.Proofs.YtjbkjeabobccaacGreatDoor
open Go.RowKit Go.Sort Go.Lib
set_option linter.unusedVariables false

def wordB (b : Bool) : ByteArray := if b then ⟨#[84, 82, 85, 69]⟩ else ⟨#[70, 65, 76, 83, 69]⟩
set_option maxHeartbeats 800000 in
theorem truthWord_any (b : Bool) (w : World) : Calls Tryz.prog 23 #[.bool b] w fun e w' => e = .returned (.string (wordB b)) ∧ w' = w := by
  cases b
  · go_enter Tryz.func23, Tryz.ntmps23
    go_wp2
    go_ret
    exact ⟨rfl, rfl⟩
  · go_enter Tryz.func23, Tryz.ntmps23
    go_wp2
    go_ret
    exact ⟨rfl, rfl⟩
/-- The text that one that counts tells, and the error (B3). -/
def txtI (K N : Int) (T : ByteArray) : ByteArray × Int :=
  if K = 1 then (⟨(printL N).toArray⟩, 0) else if K = 2 then (T, 0) else if K = 3 then (wordB (N != 0), 0) else if K = 4 then (⟨#[]⟩, N) else (⟨#[]⟩, 0)
theorem cnt_num (k n : Int) (t : ByteArray) {K N : Int} {T : ByteArray} (h : cnt k n t = (K, N, T)) (hK : K = 1) : N = n ∧ n ≠ -9223372036854775808 := by
  subst hK
  unfold cnt at h
  split at h
  · split at h
    · simp at h
    · rename_i hn; simp at h; exact ⟨h.1.symm, hn⟩
  · split at h
    · split at h <;> simp at h
    · split at h
      · simp at h
      · split at h <;> simp at h
theorem cnt_err (k n : Int) (t : ByteArray) {K N : Int} {T : ByteArray} (h : cnt k n t = (K, N, T)) (hK : K = 4) : N = 1 ∨ N = 2 ∨ N = 3 ∨ N = 4 ∨ N = 5 ∨ N = 6 := by
  subst hK
  unfold cnt at h
  split at h
  · split at h
    · simp at h; omega
    · simp at h
  · split at h
    · split at h
      · simp at h; omega
      · simp at h
    · split at h
      · simp at h
      · split at h
        · simp at h
          obtain ⟨h, _⟩ := h
          split at h <;> omega
        · simp at h
/-- What a walk wants to know of one that counts. -/
structure Ci (k n : Int) (t : ByteArray) (K N : Int) (T : ByteArray) : Prop where
  cn : Cn k n t K N T
  lo : -9223372036854775808 ≤ n
  hi : n ≤ 9223372036854775807

set_option maxHeartbeats 2000000 in
set_option maxRecDepth 100000 in
theorem text_cn (k n : Int) (t : ByteArray) (K N : Int) (T : ByteArray) (h1 : Ci k n t K N T) (w : World) (hE : Env w) :
    Calls Tryz.prog 10 #[.agg #[.int .i64 k, .int .i64 n, .string t]] w fun e w' => e = .returned (.tuple #[.string (txtI K N T).1, .int .i64 (txtI K N T).2]) ∧ Below w.heap.size w w' := by
  have cc := hidv counted_cn
  have H1 := hidv h1
  have HE := hidv hE
  clear h1 hE
  obtain ⟨x, ex⟩ : ∃ x, (txtI K N T).1 = x := ⟨_, rfl⟩
  obtain ⟨y, ey⟩ : ∃ y, (txtI K N T).2 = y := ⟨_, rfl⟩
  rw [ex, ey]
  have HX := hidv ex
  have HY := hidv ey
  clear ex ey
  go_enter Tryz.func10, Tryz.ntmps10
  have HB := hidv (oneB_new w 24 (.int .i64 k) (.int .i64 n) (.string t))
  go_wp2_with fail
  refine (cc.out _ _ _ _ _ _ (by exact H1.out.cn) _).mono ?_
  rintro e w1 ⟨rfl, hb1⟩
  have HB1 := hidv (HB.out.step hb1)
  have HB2 := hidv (HB1.out.seta (.int .i64 K) (.int .i64 N) (.string T))
  obtain ⟨c0, c1, c2, f0, f1, f2⟩ := three HB1.out.a
  clear hb1 HB HB1 cc
  go_upto_region 2 with fail
  clear c0 c1 c2 f0 f1 f2
  generalize (((w1.setCell ⟨w.heap.size, 0, none⟩ (.int .i64 K)).setCell ⟨w.heap.size, 1, none⟩ (.int .i64 N)).setCell ⟨w.heap.size, 2, none⟩ (.string T)) = wc at HB2 ⊢
  obtain ⟨c0, c1, c2, f0, f1, f2⟩ := three HB2.out.a
  have HL := hidv HB2.out.low
  clear HB2 f0 f1 f2
  by_cases g1 : K = 1
  · subst g1
    have VX : Hid (⟨(printL N).toArray⟩ = x) := by show _ = _; rw [← HX.out]; simp [txtI]
    have VY : Hid (0 = y) := by show _ = _; rw [← HY.out]; simp [txtI]
    obtain ⟨eN, hN⟩ := cnt_num k n t H1.out.cn.e rfl
    have cp := hidv (fun w hE => print_any N w hE (by have := H1.out.lo; omega) (by have := H1.out.hi; omega))
    generalize (⟨(printL N).toArray⟩ : ByteArray) = pb at cp VX
    clear eN hN
    go_wp2_with fail
    refine (cp.out _ (HE.out.step HL.out)).mono ?_
    rintro e w5 ⟨rfl, hb5⟩
    have B5 := hidv (key2v HL.out hb5)
    go_wp2_with fail
    go_ret2
    exact ⟨by rw [← VX.out, ← VY.out]; rfl, B5.out⟩
  by_cases g2 : K = 2
  · subst g2
    have VX : Hid (T = x) := by show _ = _; rw [← HX.out]; simp [txtI]
    have VY : Hid (0 = y) := by show _ = _; rw [← HY.out]; simp [txtI]
    clear g1
    go_wp2_with fail
    go_ret2
    exact ⟨by rw [← VX.out, ← VY.out]; rfl, HL.out⟩
  by_cases g3 : K = 3
  · subst g3
    have VX : Hid (wordB (N != 0) = x) := by show _ = _; rw [← HX.out]; simp [txtI]
    have VY : Hid (0 = y) := by show _ = _; rw [← HY.out]; simp [txtI]
    have ct := hidv (fun b w => truthWord_any b w)
    clear g1 g2
    rcases cnt_truth k n t H1.out.cn.e rfl with h | h
    · subst h
      go_wp2_with fail
      refine (ct.out _ _).mono ?_
      rintro e w' ⟨rfl, rfl⟩
      go_wp2_with fail
      go_ret2
      exact ⟨by rw [← VX.out, ← VY.out]; rfl, HL.out⟩
    · subst h
      go_wp2_with fail
      refine (ct.out _ _).mono ?_
      rintro e w' ⟨rfl, rfl⟩
      go_wp2_with fail
      go_ret2
      exact ⟨by rw [← VX.out, ← VY.out]; rfl, HL.out⟩
  by_cases g4 : K = 4
  · subst g4
    have VX : Hid (⟨#[]⟩ = x) := by show _ = _; rw [← HX.out]; simp [txtI]
    have VY : Hid (N = y) := by show _ = _; rw [← HY.out]; simp [txtI]
    clear g1 g2 g3
    go_wp2_with fail
    go_region
    all_goals
      go_wp2_with fail
      go_ret2
      exact ⟨by rw [← VX.out, ← VY.out]; rfl, HL.out.drew⟩
  have VX : Hid (⟨#[]⟩ = x) := by show _ = _; rw [← HX.out]; simp [txtI, g1, g2, g3, g4]
  have VY : Hid (0 = y) := by show _ = _; rw [← HY.out]; simp [txtI, g1, g2, g3, g4]
  have q1 : (K == 1) = false := by simpa using g1
  have q2 : (K == 2) = false := by simpa using g2
  have q3 : (K == 3) = false := by simpa using g3
  have q4 : (K == 4) = false := by simpa using g4
  clear g1 g2 g3 g4
  go_wp2_with fail
  go_ret2
  exact ⟨by rw [← VX.out, ← VY.out]; rfl, HL.out⟩

/-- An error's name (B1). -/
def errB (n : Int) : ByteArray := if n = 1 then ⟨#[35, 68, 73, 86, 47, 48, 33]⟩ else if n = 2 then ⟨#[35, 78, 85, 77, 33]⟩ else if n = 3 then ⟨#[35, 86, 65, 76, 85, 69, 33]⟩ else if n = 4 then ⟨#[35, 82, 69, 70, 33]⟩ else if n = 5 then ⟨#[35, 78, 47, 65]⟩ else ⟨#[35, 67, 89, 67, 76, 69, 33]⟩
/-- The table of the errors' names. -/
def FTab (w : World) : Prop := ∀ w', Below w.heap.size w w' → w'.cell? ⟨0, 1, none⟩ = some (.string ⟨#[35, 68, 73, 86, 47, 48, 33]⟩) ∧ w'.cell? ⟨0, 2, none⟩ = some (.string ⟨#[35, 78, 85, 77, 33]⟩) ∧ w'.cell? ⟨0, 3, none⟩ = some (.string ⟨#[35, 86, 65, 76, 85, 69, 33]⟩) ∧ w'.cell? ⟨0, 4, none⟩ = some (.string ⟨#[35, 82, 69, 70, 33]⟩) ∧ w'.cell? ⟨0, 5, none⟩ = some (.string ⟨#[35, 78, 47, 65]⟩) ∧ w'.cell? ⟨0, 6, none⟩ = some (.string ⟨#[35, 67, 89, 67, 76, 69, 33]⟩)
theorem FTab.step {w w1 : World} (h : FTab w) (hb : Below w.heap.size w w1) : FTab w1 := fun w' hb' => h w' (hb.trans (hb'.mono hb.size))
def shwI (K N : Int) (T : ByteArray) : ByteArray := if (txtI K N T).2 ≠ 0 then errB (txtI K N T).2 else (txtI K N T).1
theorem txt_err {k n : Int} {t : ByteArray} {K N : Int} {T : ByteArray} (h : cnt k n t = (K, N, T)) : (txtI K N T).2 = 0 ∨ (K = 4 ∧ (txtI K N T).2 = N) := by
  unfold txtI
  split
  · simp
  · split
    · simp
    · split
      · simp
      · split
        · rename_i h4; right; exact ⟨h4, rfl⟩
        · simp
set_option maxHeartbeats 2000000 in
set_option maxRecDepth 100000 in
theorem show_cn (k n : Int) (t : ByteArray) (K N : Int) (T : ByteArray) (h1 : Ci k n t K N T) (w : World) (hE : Env w) (hF : K = 4 → FTab w) :
    Calls Tryz.prog 17 #[.agg #[.int .i64 k, .int .i64 n, .string t]] w fun e w' => e = .returned (.string (shwI K N T)) ∧ Below w.heap.size w w' := by
  have ct := hidv (text_cn k n t K N T h1)
  have HE := hidv hE
  obtain ⟨s, es⟩ : ∃ s, shwI K N T = s := ⟨_, rfl⟩
  rw [es]
  have HS := hidv es
  have HX := hidv (txt_err h1.cn.e)
  have HN := hidv (fun h => cnt_err k n t h1.cn.e h)
  have HF := hidv hF
  clear es h1 hE hF
  unfold shwI at HS
  generalize (txtI K N T).1 = x at ct HS
  generalize (txtI K N T).2 = y at ct HS HX
  have HB := hidv (oneB_new w 24 (.int .i64 k) (.int .i64 n) (.string t))
  go_enter Tryz.func17, Tryz.ntmps17
  go_wp2_with fail
  refine (ct.out _ (HE.out.step HB.out.low)).mono ?_
  rintro e w1 ⟨rfl, hb1⟩
  have HL := hidv (key2v HB.out.low hb1)
  clear hb1 HB ct
  rcases HX.out with h | ⟨h4, hy⟩
  · subst h
    have VS : Hid (x = s) := by show _ = _; rw [← HS.out]; simp
    go_wp2_with fail
    go_ret
    exact ⟨by rw [← VS.out]; rfl, HL.out⟩
  · have tab := HF.out h4 w1 HL.out
    obtain ⟨m1, m2, m3, m4, m5, m6⟩ := tab
    rcases HN.out h4 with h | h | h | h | h | h
    · subst h
      subst hy
      have VS : Hid (⟨#[35, 68, 73, 86, 47, 48, 33]⟩ = s) := by show _ = _; rw [← HS.out]; rfl
      go_wp2_with fail
      go_ret
      exact ⟨by rw [← VS.out]; rfl, HL.out⟩
    · subst h
      subst hy
      have VS : Hid (⟨#[35, 78, 85, 77, 33]⟩ = s) := by show _ = _; rw [← HS.out]; rfl
      go_wp2_with fail
      go_ret
      exact ⟨by rw [← VS.out]; rfl, HL.out⟩
    · subst h
      subst hy
      have VS : Hid (⟨#[35, 86, 65, 76, 85, 69, 33]⟩ = s) := by show _ = _; rw [← HS.out]; rfl
      go_wp2_with fail
      go_ret
      exact ⟨by rw [← VS.out]; rfl, HL.out⟩
    · subst h
      subst hy
      have VS : Hid (⟨#[35, 82, 69, 70, 33]⟩ = s) := by show _ = _; rw [← HS.out]; rfl
      go_wp2_with fail
      go_ret
      exact ⟨by rw [← VS.out]; rfl, HL.out⟩
    · subst h
      subst hy
      have VS : Hid (⟨#[35, 78, 47, 65]⟩ = s) := by show _ = _; rw [← HS.out]; rfl
      go_wp2_with fail
      go_ret
      exact ⟨by rw [← VS.out]; rfl, HL.out⟩
    · subst h
      subst hy
      have VS : Hid (⟨#[35, 67, 89, 67, 76, 69, 33]⟩ = s) := by show _ = _; rw [← HS.out]; rfl
      go_wp2_with fail
      go_ret
      exact ⟨by rw [← VS.out]; rfl, HL.out⟩
end Go.Proofs.YtjbkjeabobccaacGreatDoor
