import Derived.Test.YtjbkjeabobccaabGreatDoorValRead
import Derived.Test.YtjbkjeabobccaabGreatDoorNumParses3
namespace Go.Proofs.YtjbkjeabobccaabGreatDoor
open Go.RowKit Go.Sort Go.Lib
set_option linter.unusedVariables false

set_option maxHeartbeats 4000000 in
set_option maxRecDepth 100000 in
theorem bigs_any (s : ByteArray) (w : World) (hs : s.size ≤ maxLen) :
    Calls Tryz.prog 35 #[.string s] w fun e w' => e = .returned (.string ⟨(s.data.toList.map cap).toArray⟩) ∧ Below w.heap.size w w' := by
  unfold maxLen at hs
  have hcv : ∀ W : World, (convert 9 97 (.string s)).run Tryz.prog W = .ok (.slice (some ⟨W.heap.size, 0, none⟩) s.size (grownCap W s.size 0 5))
      (W.drew.alloc (.cells (bytesRow s (grownCap W s.size 0 5)) 5 ((bytesRow s (grownCap W s.size 0 5)).size, (bytesRow s (grownCap W s.size 0 5)).size + 1))) :=
    fun W => run_bytes_of_string W 9 97 5 s Tryz.underlying9 Tryz.underlying97 Tryz.underlying5
  go_enter Tryz.func35, Tryz.ntmps35
  go_upto_block 0 with fail
  obtain ⟨cp, ecap⟩ : ∃ cap, grownCap w s.size 0 5 = cap := ⟨_, rfl⟩
  rw [ecap]
  clear ecap hcv
  go_cut [4] from 5 (fun i wx => Hid (Cpy s w wx s.size))
  case first =>
    go_wp2_with fail
    go_loopw [4] (fun i wr => ∃ k : Nat, k ≤ s.size ∧ i = .int .i64 k ∧ Hid (Cpy s w wr k)) (fun i _ => s.size - (RowKit.intOf i).toNat)
    case atStart => exact ⟨0, Nat.zero_le _, rfl, cpy_start s w cp _ rfl (by go_grown)⟩
    case round =>
      obtain ⟨k, hk, rfl, HC⟩ := hrel
      by_cases hlt : k < s.size
      · have cc := HC.out.cells k hlt
        have cf := HC.out.free k hlt
        have eu : capTo s k k = s[k] := by
          unfold capTo
          rw [if_neg (by omega), List.getD_eq_getElem?_getD, List.getElem?_eq_getElem (by simpa using hlt)]
          rfl
        have eg : s.data.toList.getD k 0 = s[k] := by
          rw [List.getD_eq_getElem?_getD, List.getElem?_eq_getElem (by simpa using hlt)]
          rfl
        rw [eu] at cc
        obtain ⟨c, ec⟩ : ∃ c, s[k] = c := ⟨_, rfl⟩
        rw [ec] at cc eg
        have EG := hidv eg
        have hc := c.toNat_lt
        clear eu ec eg
        have cb := hidv (fun w => big_any c w)
        have HN := hidv (HC.out.next hlt ((cap c).toNat : Int) (by rw [EG.out]))
        go_wp2_with fail
        refine (cb.out _).mono ?_
        rintro e w' ⟨rfl, rfl⟩
        go_wp2_with fail
        go_roundw
        case rel => exact ⟨k + 1, by omega, by go_num, HN⟩
        case measure => simp [RowKit.intOf]; omega
      · obtain rfl : k = s.size := by omega
        go_wp2_with fail
        go_meet
        exact HC
  case rest =>
  have HC := hcut
  clear hcut
  obtain ⟨tB, HtB⟩ : ∃ tB : ByteArray, Hid (tB = ⟨(s.data.toList.map cap).toArray⟩) := ⟨_, rfl⟩
  have hback : (convert 97 9 (.slice (some ⟨w.heap.size, 0, none⟩) s.size cp)).run Tryz.prog wc = .ok (.string tB) wc := by
    have := run_convert_bytes_back (P := Tryz.prog) wc 97 9 5 ⟨w.heap.size, 0, none⟩ cp (s.data.toList.map cap) Tryz.underlying97 Tryz.underlying5 Tryz.underlying9
      (fun j hj => by
        have hj' : j < s.size := by simpa using hj
        rw [Lib.add_plain, Nat.zero_add, HC.out.cells j hj']
        congr 2
        unfold capTo
        rw [if_pos hj', List.getD_eq_getElem?_getD, List.getElem?_eq_getElem (by simpa using hj')]
        simp)
    rw [HtB.out]
    simpa using this
  have HB := hidv HC.out.below
  clear HC
  go_wp2_with fail
  go_ret
  exact ⟨by rw [HtB.out]; rfl, HB.out⟩

set_option maxHeartbeats 800000 in
theorem called_any (n : Int) (w : World) (h : n = 1 ∨ n = 2 ∨ n = 3 ∨ n = 4 ∨ n = 5 ∨ n = 6) : Calls Tryz.prog 37 #[.int .i64 n] w fun e w' => e = .returned (.string (errB n)) ∧ w' = w := by
  rcases h with h | h | h | h | h | h
  all_goals
    subst h
    go_enter Tryz.func37, Tryz.ntmps37
    go_wp2
    go_ret
    exact ⟨rfl, rfl⟩
set_option maxHeartbeats 2000000 in
set_option maxRecDepth 100000 in
theorem rText_cn (k n : Int) (t : ByteArray) (K N : Int) (T : ByteArray) (h1 : Ci k n t K N T) (w : World) :
    Calls Tryz.prog 18 #[.agg #[.int .i64 k, .int .i64 n, .string t]] w fun e w' => e = .returned (.tuple #[.string (txtI K N T).1, .int .i64 (txtI K N T).2]) ∧ Below w.heap.size w w' := by
  have cc := hidv as_cn
  have H1 := hidv h1
  clear h1
  obtain ⟨x, ex⟩ : ∃ x, (txtI K N T).1 = x := ⟨_, rfl⟩
  obtain ⟨y, ey⟩ : ∃ y, (txtI K N T).2 = y := ⟨_, rfl⟩
  rw [ex, ey]
  have HX := hidv ex
  have HY := hidv ey
  clear ex ey
  go_enter Tryz.func18, Tryz.ntmps18
  have HB := hidv (oneB_new w 25 (.int .i64 k) (.int .i64 n) (.string t))
  go_wp2_with fail
  refine (cc.out _ _ _ _ _ _ (by exact H1.out.cn) _).mono ?_
  rintro e w1 ⟨rfl, hb1⟩
  have HB1 := hidv (HB.out.step hb1)
  have HB2 := hidv (HB1.out.seta (.int .i64 K) (.int .i64 N) (.string T))
  obtain ⟨c0, c1, c2, f0, f1, f2⟩ := three HB1.out.a
  clear hb1 HB HB1 cc
  go_upto_region 2 with fail
  clear c0 c1 c2 f0 f1 f2
  generalize (((w1.setCell ⟨w.heap.size, 0, none⟩ (.int .i64 K)).setCell ⟨w.heap.size, 1, none⟩ (.int .i64 N)).setCell ⟨w.heap.size, 2, none⟩ (.string T)) = wc at HB2 ⊢
  obtain ⟨c0, c1, c2, f0, f1, f2⟩ := three HB2.out.a
  have HL := hidv HB2.out.low
  clear HB2 f0 f1 f2
  by_cases g1 : K = 1
  · subst g1
    have VX : Hid (⟨(printL N).toArray⟩ = x) := by show _ = _; rw [← HX.out]; simp [txtI]
    have VY : Hid (0 = y) := by show _ = _; rw [← HY.out]; simp [txtI]
    obtain ⟨eN, hN⟩ := cnt_num k n t H1.out.cn.e rfl
    have cp := hidv (fun w => rPrint_any N w (by have := H1.out.lo; omega) (by have := H1.out.hi; omega))
    generalize (⟨(printL N).toArray⟩ : ByteArray) = pb at cp VX
    clear eN hN
    go_wp2_with fail
    refine (cp.out _).mono ?_
    rintro e w5 ⟨rfl, hb5⟩
    have B5 := hidv (key2v HL.out hb5)
    go_wp2_with fail
    go_ret2
    exact ⟨by rw [← VX.out, ← VY.out]; rfl, B5.out⟩
  by_cases g2 : K = 2
  · subst g2
    have VX : Hid (T = x) := by show _ = _; rw [← HX.out]; simp [txtI]
    have VY : Hid (0 = y) := by show _ = _; rw [← HY.out]; simp [txtI]
    clear g1
    go_wp2_with fail
    go_ret2
    exact ⟨by rw [← VX.out, ← VY.out]; rfl, HL.out⟩
  by_cases g3 : K = 3
  · subst g3
    have VX : Hid (wordB (N != 0) = x) := by show _ = _; rw [← HX.out]; simp [txtI]
    have VY : Hid (0 = y) := by show _ = _; rw [← HY.out]; simp [txtI]
    clear g1 g2
    rcases cnt_truth k n t H1.out.cn.e rfl with h | h
    · subst h
      go_wp2_with fail
      go_ret2
      exact ⟨by rw [← VX.out, ← VY.out]; rfl, HL.out⟩
    · subst h
      go_wp2_with fail
      go_ret2
      exact ⟨by rw [← VX.out, ← VY.out]; rfl, HL.out⟩
  by_cases g4 : K = 4
  · subst g4
    have VX : Hid (⟨#[]⟩ = x) := by show _ = _; rw [← HX.out]; simp [txtI]
    have VY : Hid (N = y) := by show _ = _; rw [← HY.out]; simp [txtI]
    clear g1 g2 g3
    go_wp2_with fail
    go_region
    all_goals
      go_wp2_with fail
      go_ret2
      exact ⟨by rw [← VX.out, ← VY.out]; rfl, HL.out.drew⟩
  have VX : Hid (⟨#[]⟩ = x) := by show _ = _; rw [← HX.out]; simp [txtI, g1, g2, g3, g4]
  have VY : Hid (0 = y) := by show _ = _; rw [← HY.out]; simp [txtI, g1, g2, g3, g4]
  have q1 : (K == 1) = false := by simpa using g1
  have q2 : (K == 2) = false := by simpa using g2
  have q3 : (K == 3) = false := by simpa using g3
  have q4 : (K == 4) = false := by simpa using g4
  clear g1 g2 g3 g4
  go_wp2_with fail
  go_ret2
  exact ⟨by rw [← VX.out, ← VY.out]; rfl, HL.out⟩

set_option maxHeartbeats 2000000 in
set_option maxRecDepth 100000 in
theorem rShow_cn (k n : Int) (t : ByteArray) (K N : Int) (T : ByteArray) (h1 : Ci k n t K N T) (w : World) :
    Calls Tryz.prog 12 #[.agg #[.int .i64 k, .int .i64 n, .string t]] w fun e w' => e = .returned (.string (shwI K N T)) ∧ Below w.heap.size w w' := by
  have ct := hidv (rText_cn k n t K N T h1)
  obtain ⟨s, es⟩ : ∃ s, shwI K N T = s := ⟨_, rfl⟩
  rw [es]
  have HS := hidv es
  have HX := hidv (txt_err h1.cn.e)
  have HN := hidv (fun h => cnt_err k n t h1.cn.e h)
  clear es h1
  unfold shwI at HS
  generalize (txtI K N T).1 = x at ct HS
  generalize (txtI K N T).2 = y at ct HS HX
  have HB := hidv (oneB_new w 25 (.int .i64 k) (.int .i64 n) (.string t))
  go_enter Tryz.func12, Tryz.ntmps12
  go_wp2_with fail
  refine (ct.out _).mono ?_
  rintro e w1 ⟨rfl, hb1⟩
  have HL := hidv (key2v HB.out.low hb1)
  clear hb1 HB ct
  rcases HX.out with h | ⟨h4, hy⟩
  · subst h
    have VS : Hid (x = s) := by show _ = _; rw [← HS.out]; simp
    go_wp2_with fail
    go_ret
    exact ⟨by rw [← VS.out]; rfl, HL.out⟩
  · have cl := hidv called_any
    rcases HN.out h4 with h | h | h | h | h | h
    · subst h
      subst hy
      have VS : Hid (⟨#[35, 68, 73, 86, 47, 48, 33]⟩ = s) := by show _ = _; rw [← HS.out]; rfl
      go_wp2_with fail
      refine (cl.out _ _ (by omega)).mono ?_
      rintro e w' ⟨rfl, rfl⟩
      go_wp2_with fail
      go_ret
      exact ⟨by rw [← VS.out]; rfl, HL.out⟩
    · subst h
      subst hy
      have VS : Hid (⟨#[35, 78, 85, 77, 33]⟩ = s) := by show _ = _; rw [← HS.out]; rfl
      go_wp2_with fail
      refine (cl.out _ _ (by omega)).mono ?_
      rintro e w' ⟨rfl, rfl⟩
      go_wp2_with fail
      go_ret
      exact ⟨by rw [← VS.out]; rfl, HL.out⟩
    · subst h
      subst hy
      have VS : Hid (⟨#[35, 86, 65, 76, 85, 69, 33]⟩ = s) := by show _ = _; rw [← HS.out]; rfl
      go_wp2_with fail
      refine (cl.out _ _ (by omega)).mono ?_
      rintro e w' ⟨rfl, rfl⟩
      go_wp2_with fail
      go_ret
      exact ⟨by rw [← VS.out]; rfl, HL.out⟩
    · subst h
      subst hy
      have VS : Hid (⟨#[35, 82, 69, 70, 33]⟩ = s) := by show _ = _; rw [← HS.out]; rfl
      go_wp2_with fail
      refine (cl.out _ _ (by omega)).mono ?_
      rintro e w' ⟨rfl, rfl⟩
      go_wp2_with fail
      go_ret
      exact ⟨by rw [← VS.out]; rfl, HL.out⟩
    · subst h
      subst hy
      have VS : Hid (⟨#[35, 78, 47, 65]⟩ = s) := by show _ = _; rw [← HS.out]; rfl
      go_wp2_with fail
      refine (cl.out _ _ (by omega)).mono ?_
      rintro e w' ⟨rfl, rfl⟩
      go_wp2_with fail
      go_ret
      exact ⟨by rw [← VS.out]; rfl, HL.out⟩
    · subst h
      subst hy
      have VS : Hid (⟨#[35, 67, 89, 67, 76, 69, 33]⟩ = s) := by show _ = _; rw [← HS.out]; rfl
      go_wp2_with fail
      refine (cl.out _ _ (by omega)).mono ?_
      rintro e w' ⟨rfl, rfl⟩
      go_wp2_with fail
      go_ret
      exact ⟨by rw [← VS.out]; rfl, HL.out⟩
set_option maxHeartbeats 2000000 in
set_option maxRecDepth 100000 in
theorem rNumber_cn (k n : Int) (t : ByteArray) (K N : Int) (T : ByteArray) (h1 : Cn k n t K N T) (w : World) :
    Calls Tryz.prog 19 #[.agg #[.int .i64 k, .int .i64 n, .string t]] w fun e w' => e = .returned (.tuple #[.int .i64 (numI K N T).1, .int .i64 (numI K N T).2]) ∧ Below w.heap.size w w' := by
  have cc := hidv as_cn
  have H1 := hidv h1
  have HZ := hidv (cnt_size k n t h1.e)
  have HT := hidv (fun h => cnt_truth k n t h1.e h)
  clear h1
  obtain ⟨x, ex⟩ : ∃ x, (numI K N T).1 = x := ⟨_, rfl⟩
  obtain ⟨y, ey⟩ : ∃ y, (numI K N T).2 = y := ⟨_, rfl⟩
  rw [ex, ey]
  have HX := hidv ex
  have HY := hidv ey
  clear ex ey
  go_enter Tryz.func19, Tryz.ntmps19
  have HB := hidv (oneB_new w 25 (.int .i64 k) (.int .i64 n) (.string t))
  go_wp2_with fail
  refine (cc.out _ _ _ _ _ _ (by exact H1.out) _).mono ?_
  rintro e w1 ⟨rfl, hb1⟩
  have HB1 := hidv (HB.out.step hb1)
  have HB2 := hidv (HB1.out.seta (.int .i64 K) (.int .i64 N) (.string T))
  obtain ⟨c0, c1, c2, f0, f1, f2⟩ := three HB1.out.a
  clear hb1 HB HB1 H1 cc
  go_upto_region 2 with fail
  clear c0 c1 c2 f0 f1 f2
  generalize (((w1.setCell ⟨w.heap.size, 0, none⟩ (.int .i64 K)).setCell ⟨w.heap.size, 1, none⟩ (.int .i64 N)).setCell ⟨w.heap.size, 2, none⟩ (.string T)) = wc at HB2 ⊢
  obtain ⟨c0, c1, c2, f0, f1, f2⟩ := three HB2.out.a
  have HL := hidv HB2.out.low
  clear HB2 f0 f1 f2
  by_cases g1 : K = 1
  · subst g1
    have VX : Hid (N = x) := by show _ = _; rw [← HX.out]; simp [numI]
    have VY : Hid (0 = y) := by show _ = _; rw [← HY.out]; simp [numI]
    go_wp2_with fail
    go_ret2
    exact ⟨by rw [← VX.out, ← VY.out]; rfl, HL.out⟩
  by_cases g2 : K = 2
  · subst g2
    have cp := hidv (fun w => rParse_any T w (by have := HZ.out; omega))
    cases hp : (parseR T.data.toList).2
    · have VX : Hid (0 = x) := by show _ = _; rw [← HX.out]; simp [numI, hp]
      have VY : Hid (3 = y) := by show _ = _; rw [← HY.out]; simp [numI, hp]
      rw [hp] at cp
      generalize (parseR T.data.toList).1 = P1 at cp
      clear hp g1
      go_wp2_with fail
      refine (cp.out _).mono ?_
      rintro e w5 ⟨rfl, hb5⟩
      have B5 := hidv (key2v HL.out hb5)
      go_wp2_with fail
      go_ret2
      exact ⟨by rw [← VX.out, ← VY.out]; rfl, B5.out⟩
    · have VX : Hid ((parseR T.data.toList).1 = x) := by show _ = _; rw [← HX.out]; simp [numI, hp]
      have VY : Hid (0 = y) := by show _ = _; rw [← HY.out]; simp [numI, hp]
      rw [hp] at cp
      generalize (parseR T.data.toList).1 = P1 at cp VX
      clear hp g1
      go_wp2_with fail
      refine (cp.out _).mono ?_
      rintro e w5 ⟨rfl, hb5⟩
      have B5 := hidv (key2v HL.out hb5)
      go_wp2_with fail
      go_ret2
      exact ⟨by rw [← VX.out, ← VY.out]; rfl, B5.out⟩
  by_cases g3 : K = 3
  · subst g3
    have VX : Hid (N * 1000000 = x) := by show _ = _; rw [← HX.out]; simp [numI]
    have VY : Hid (0 = y) := by show _ = _; rw [← HY.out]; simp [numI]
    clear g1 g2
    rcases HT.out rfl with h | h
    · subst h
      go_wp2_with fail
      go_ret2
      exact ⟨by rw [← VX.out, ← VY.out]; rfl, HL.out⟩
    · subst h
      go_wp2_with fail
      go_ret2
      exact ⟨by rw [← VX.out, ← VY.out]; rfl, HL.out⟩
  by_cases g4 : K = 4
  · subst g4
    have VX : Hid (0 = x) := by show _ = _; rw [← HX.out]; simp [numI]
    have VY : Hid (N = y) := by show _ = _; rw [← HY.out]; simp [numI]
    clear g1 g2 g3
    go_wp2_with fail
    go_region
    all_goals
      go_wp2_with fail
      go_ret2
      exact ⟨by rw [← VX.out, ← VY.out]; rfl, HL.out.drew⟩
  have VX : Hid (0 = x) := by show _ = _; rw [← HX.out]; simp [numI, g1, g2, g3, g4]
  have VY : Hid (0 = y) := by show _ = _; rw [← HY.out]; simp [numI, g1, g2, g3, g4]
  have q1 : (K == 1) = false := by simpa using g1
  have q2 : (K == 2) = false := by simpa using g2
  have q3 : (K == 3) = false := by simpa using g3
  have q4 : (K == 4) = false := by simpa using g4
  clear g1 g2 g3 g4
  go_wp2_with fail
  go_ret2
  exact ⟨by rw [← VX.out, ← VY.out]; rfl, HL.out⟩
end Go.Proofs.YtjbkjeabobccaabGreatDoor
