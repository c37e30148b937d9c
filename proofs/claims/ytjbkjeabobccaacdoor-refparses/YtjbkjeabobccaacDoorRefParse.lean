import Derived.Test.YtjbkjeabobccaacDoorRefText
import Derived.Deep.QuietTactic
import Derived.BigQuiet
import Derived.Handy
import Derived.Lib.IndexBytes
namespace Go.Proofs.YtjbkjeabobccaacDoor
open Go.RowKit Go.Lib

/-- Which cell a text tells (D2), by the program's own parts: column, row, whether they are fixed, and whether there is one. -/
def cellR (l : List UInt8) : Int × Int × Bool × Bool × Bool :=
  let T := Lib.trimPrefix l [36]
  let D := T.dropWhile isLet
  let c := colR (T.takeWhile isLet)
  let r := rowR (Lib.trimPrefix D [36])
  if c.2 = true ∧ r.2 = true then (c.1, r.1, Lib.hasPrefix l [36], Lib.hasPrefix D [36], true) else (0, 0, false, false, false)

theorem while_end {l : List UInt8} {k : Nat} (h1 : (l.take k).all isLet = true) (h2 : l.length ≤ k ∨ ∃ c, l[k]? = some c ∧ isLet c = false) : l.takeWhile isLet = l.take k ∧ l.dropWhile isLet = l.drop k := by
  have key : ∀ (a b : List UInt8), a.all isLet = true → (b = [] ∨ ∃ c r, b = c :: r ∧ isLet c = false) → (a ++ b).takeWhile isLet = a ∧ (a ++ b).dropWhile isLet = b := by
    intro a b ha hb
    induction a with
    | nil =>
      rcases hb with rfl | ⟨c, r, rfl, hc⟩
      · exact ⟨rfl, rfl⟩
      · simp [hc]
    | cons x a ih =>
      simp only [List.all_cons, Bool.and_eq_true] at ha
      obtain ⟨i1, i2⟩ := ih ha.2
      simp [ha.1, i1, i2]
  have hb : l.drop k = [] ∨ ∃ c r, l.drop k = c :: r ∧ isLet c = false := by
    rcases h2 with h | ⟨c, hc, hl⟩
    · exact .inl (List.drop_eq_nil_of_le h)
    · obtain ⟨hk, he⟩ := List.getElem?_eq_some_iff.1 hc
      exact .inr ⟨c, l.drop (k + 1), by rw [List.drop_eq_getElem_cons hk, he], hl⟩
  have := key (l.take k) (l.drop k) h1 hb
  rw [List.take_append_drop] at this
  exact this

theorem below_chain (w : World) (A B : Obj) (n : Nat) (v1 v2 v3 v4 v5 v6 v7 : Value) :
    Below w.heap.size w ((((((((((w.alloc A).alloc B).drewN n).setCell ⟨w.heap.size + 1, 3, none⟩ v1).setCell ⟨w.heap.size + 1, 0, none⟩ v2).setCell ⟨w.heap.size + 1, 1, none⟩ v3).setCell ⟨w.heap.size, 0, none⟩ v4).setCell ⟨w.heap.size, 1, none⟩ v5).setCell ⟨w.heap.size, 2, none⟩ v6).setCell ⟨w.heap.size, 3, none⟩ v7) := by
  have h0 : Below w.heap.size w (((w.alloc A).alloc B).drewN n) := bdrew (((Below.refl _ _).alloc (Nat.le_refl _) _).alloc (by simp) _) n
  exact (((((((h0.setCell (Nat.le_succ _) _).setCell (Nat.le_succ _) _).setCell (Nat.le_succ _) _).setCell (Nat.le_refl _) _).setCell (Nat.le_refl _) _).setCell (Nat.le_refl _) _).setCell (Nat.le_refl _) _)

set_option maxHeartbeats 2000000 in
set_option maxRecDepth 100000 in
theorem parse_any (s : ByteArray) (w : World) (hs : s.size ≤ maxLen) :
    Calls Tryd.prog 8 #[.string s] w fun e w' => e = .returned (.tuple #[.agg #[.int .i64 (cellR s.data.toList).1, .int .i64 (cellR s.data.toList).2.1, .bool (cellR s.data.toList).2.2.1, .bool (cellR s.data.toList).2.2.2.1], .bool (cellR s.data.toList).2.2.2.2]) ∧ Below w.heap.size w w' := by
  unfold maxLen at hs
  obtain ⟨T, eT⟩ : ∃ T, Lib.trimPrefix s.data.toList [36] = T := ⟨_, rfl⟩
  obtain ⟨fc, ef⟩ : ∃ b, Lib.hasPrefix s.data.toList [36] = b := ⟨_, rfl⟩
  have hTl : T.length ≤ s.size := by rw [← eT, Lib.size_eq]; exact Lib.trimPrefix_le _ _
  obtain ⟨tB, HtB⟩ : ∃ tB : ByteArray, Hid (tB = ⟨T.toArray⟩) := ⟨_, rfl⟩
  have lt : tB.data.toList = T := by rw [HtB.out]
  have st : tB.size = T.length := by rw [HtB.out]; simp [ByteArray.size]
  obtain ⟨R, eR⟩ : ∃ R, Lib.trimPrefix (T.dropWhile isLet) [36] = R := ⟨_, rfl⟩
  obtain ⟨fr, efr⟩ : ∃ b, Lib.hasPrefix (T.dropWhile isLet) [36] = b := ⟨_, rfl⟩
  obtain ⟨⟨c, okc⟩, ec⟩ : ∃ r, colR (T.takeWhile isLet) = r := ⟨_, rfl⟩
  obtain ⟨⟨r, okr⟩, er⟩ : ∃ x, rowR R = x := ⟨_, rfl⟩
  have hRl : R.length ≤ T.length := by
    rw [← eR]
    exact Nat.le_trans (Lib.trimPrefix_le _ _) (List.dropWhile_suffix isLet).length_le
  obtain ⟨rB, HrB⟩ : ∃ tB : ByteArray, Hid (tB = ⟨R.toArray⟩) := ⟨_, rfl⟩
  have lr : rB.data.toList = R := by rw [HrB.out]
  have sr : rB.size = R.length := by rw [HrB.out]; simp [ByteArray.size]
  have hc : cellR s.data.toList = if okc = true ∧ okr = true then (c, r, fc, fr, true) else (0, 0, false, false, false) := by
    unfold cellR
    simp only [eT, eR, ec, er, ef, efr]
  rw [hc]
  have c1 : Hid (∀ w, Calls Tryd.prog 22 #[.string s, .string ⟨#[36]⟩] w fun e w' => e = .returned (.tuple #[.string tB, .bool fc]) ∧ w' = w) := fun w => by
    have := Tryd.strings_CutPrefix s ⟨#[36]⟩ w
    simp only [eT, ef] at this
    rw [HtB.out]
    exact this
  have cCol : Hid (∀ k : Nat, k ≤ tB.size → T.takeWhile isLet = T.take k → ∀ w, Calls Tryd.prog 24 #[.string (tB.extract 0 k)] w fun e w' => e = .returned (.tuple #[.int .i64 c, .bool okc]) ∧ w' = w) := fun k hk he w => by
    have ed : (tB.extract 0 k).data.toList = T.takeWhile isLet := by rw [Lib.extract_data, lt, he]; simp
    have := readColumn_any (tB.extract 0 k) w (by unfold maxLen; simp; omega) (by rw [ed]; exact List.all_takeWhile)
    rw [ed, ec] at this
    exact this
  have cRest : Hid (∀ k : Nat, T.dropWhile isLet = T.drop k → ∀ w, Calls Tryd.prog 22 #[.string (tB.extract k tB.size), .string ⟨#[36]⟩] w fun e w' => e = .returned (.tuple #[.string rB, .bool fr]) ∧ w' = w) := fun k he w => by
    have ed : (tB.extract k tB.size).data.toList = T.dropWhile isLet := by rw [Lib.extract_to_end, lt, he]
    have := Tryd.strings_CutPrefix (tB.extract k tB.size) ⟨#[36]⟩ w
    rw [ed] at this
    simp only [eR, efr] at this
    rw [HrB.out]
    exact this
  have cRow : Hid (∀ w, Calls Tryd.prog 25 #[.string rB] w fun e w' => e = .returned (.tuple #[.int .i64 r, .bool okr]) ∧ w' = w) := fun w => by
    have := readRow_any rB w (by unfold maxLen; omega)
    rw [lr, er] at this
    exact this
  have Hlt := Lib.hid lt
  have Hst := Lib.hid st
  have hS : tB.size ≤ maxLen := by unfold maxLen; omega
  unfold maxLen at hS
  clear hc lt st lr sr hRl eT ef eR efr ec er hTl HrB HtB hs
  cases okc
  · rw [if_neg (by simp)]
    go_enter Tryd.func8, Tryd.ntmps8
    go_wp2_with fail
    refine (c1.out _).mono ?_
    rintro e w' ⟨rfl, rfl⟩
    go_wp2_with fail
    go_loop [5] (fun i => ∃ k : Nat, k ≤ tB.size ∧ i = .int .i64 k ∧ Hid ((tB.data.toList.take k).all isLet = true)) (fun i => tB.size - (RowKit.intOf i).toNat)
    case atStart => exact ⟨0, Nat.zero_le _, rfl, rfl⟩
    case round =>
      obtain ⟨k, hk, rfl, hall⟩ := hrel
      by_cases hlt : k < tB.size
      · have cl0 := fun w => isLetter_any tB[k] w
        cases hl : isLet tB[k]
        · have HK : Hid (T.takeWhile isLet = T.take k ∧ T.dropWhile isLet = T.drop k) := by
            refine while_end (by rw [← Hlt.out]; exact hall.out) (.inr ⟨tB[k], ?_, hl⟩)
            rw [← Hlt.out]
            exact List.getElem?_eq_getElem (by simpa using hlt)
          rw [hl] at cl0
          have cl : Hid (∀ w, _) := cl0
          clear cl0 hl hall
          go_wp2_with (go_at_call 23; refine (cl.out _).mono ?_; rintro e w1 ⟨rfl, rfl⟩)
          go_wp2_with fail
          go_quiet (fail)
          go_wp2_with fail
          refine (cRest.out k HK.out.2 _).mono ?_
          rintro e w1 ⟨rfl, rfl⟩
          go_wp2_with fail
          refine (cCol.out k (by omega) HK.out.1 _).mono ?_
          rintro e w1 ⟨rfl, rfl⟩
          go_wp2_with fail
          refine (cRow.out _).mono ?_
          rintro e w1 ⟨rfl, rfl⟩
          go_wp2_with fail
          exact bodyPost_ret (v := .tuple #[.agg #[.int .i64 0, .int .i64 0, .bool false, .bool false], .bool false]) (by simp [results, Tryd.results8, go_sem]) rfl ⟨rfl, below_chain _ _ _ _ _ _ _ _ _ _ _⟩
        · have hn : Hid ((tB.data.toList.take (k + 1)).all isLet = true) := by
            show _ = true
            rw [take_snoc tB k hlt, List.all_append, hall.out]
            simp [hl]
          rw [hl] at cl0
          have cl : Hid (∀ w, _) := cl0
          clear cl0 hl hall
          go_wp2_with (go_at_call 23; refine (cl.out _).mono ?_; rintro e w1 ⟨rfl, rfl⟩)
          go_round
          case rel => exact ⟨k + 1, by omega, by go_num, hn⟩
          case measure => simp [RowKit.intOf]; omega
      · have HK : Hid (T.takeWhile isLet = T.take k ∧ T.dropWhile isLet = T.drop k) := by
          refine while_end (by rw [← Hlt.out]; exact hall.out) (.inl ?_)
          have := Hst.out
          omega
        clear hall
        go_wp2_with fail
        go_quiet (fail)
        go_wp2_with fail
        refine (cRest.out k HK.out.2 _).mono ?_
        rintro e w1 ⟨rfl, rfl⟩
        go_wp2_with fail
        refine (cCol.out k (by omega) HK.out.1 _).mono ?_
        rintro e w1 ⟨rfl, rfl⟩
        go_wp2_with fail
        refine (cRow.out _).mono ?_
        rintro e w1 ⟨rfl, rfl⟩
        go_wp2_with fail
        exact bodyPost_ret (v := .tuple #[.agg #[.int .i64 0, .int .i64 0, .bool false, .bool false], .bool false]) (by simp [results, Tryd.results8, go_sem]) rfl ⟨rfl, below_chain _ _ _ _ _ _ _ _ _ _ _⟩
  · cases okr
    · rw [if_neg (by simp)]
      go_enter Tryd.func8, Tryd.ntmps8
      go_wp2_with fail
      refine (c1.out _).mono ?_
      rintro e w' ⟨rfl, rfl⟩
      go_wp2_with fail
      go_loop [5] (fun i => ∃ k : Nat, k ≤ tB.size ∧ i = .int .i64 k ∧ Hid ((tB.data.toList.take k).all isLet = true)) (fun i => tB.size - (RowKit.intOf i).toNat)
      case atStart => exact ⟨0, Nat.zero_le _, rfl, rfl⟩
      case round =>
        obtain ⟨k, hk, rfl, hall⟩ := hrel
        by_cases hlt : k < tB.size
        · have cl0 := fun w => isLetter_any tB[k] w
          cases hl : isLet tB[k]
          · have HK : Hid (T.takeWhile isLet = T.take k ∧ T.dropWhile isLet = T.drop k) := by
              refine while_end (by rw [← Hlt.out]; exact hall.out) (.inr ⟨tB[k], ?_, hl⟩)
              rw [← Hlt.out]
              exact List.getElem?_eq_getElem (by simpa using hlt)
            rw [hl] at cl0
            have cl : Hid (∀ w, _) := cl0
            clear cl0 hl hall
            go_wp2_with (go_at_call 23; refine (cl.out _).mono ?_; rintro e w1 ⟨rfl, rfl⟩)
            go_wp2_with fail
            go_quiet (fail)
            go_wp2_with fail
            refine (cRest.out k HK.out.2 _).mono ?_
            rintro e w1 ⟨rfl, rfl⟩
            go_wp2_with fail
            refine (cCol.out k (by omega) HK.out.1 _).mono ?_
            rintro e w1 ⟨rfl, rfl⟩
            go_wp2_with fail
            refine (cRow.out _).mono ?_
            rintro e w1 ⟨rfl, rfl⟩
            go_wp2_with fail
            exact bodyPost_ret (v := .tuple #[.agg #[.int .i64 0, .int .i64 0, .bool false, .bool false], .bool false]) (by simp [results, Tryd.results8, go_sem]) rfl ⟨rfl, below_chain _ _ _ _ _ _ _ _ _ _ _⟩
          · have hn : Hid ((tB.data.toList.take (k + 1)).all isLet = true) := by
              show _ = true
              rw [take_snoc tB k hlt, List.all_append, hall.out]
              simp [hl]
            rw [hl] at cl0
            have cl : Hid (∀ w, _) := cl0
            clear cl0 hl hall
            go_wp2_with (go_at_call 23; refine (cl.out _).mono ?_; rintro e w1 ⟨rfl, rfl⟩)
            go_round
            case rel => exact ⟨k + 1, by omega, by go_num, hn⟩
            case measure => simp [RowKit.intOf]; omega
        · have HK : Hid (T.takeWhile isLet = T.take k ∧ T.dropWhile isLet = T.drop k) := by
            refine while_end (by rw [← Hlt.out]; exact hall.out) (.inl ?_)
            have := Hst.out
            omega
          clear hall
          go_wp2_with fail
          go_quiet (fail)
          go_wp2_with fail
          refine (cRest.out k HK.out.2 _).mono ?_
          rintro e w1 ⟨rfl, rfl⟩
          go_wp2_with fail
          refine (cCol.out k (by omega) HK.out.1 _).mono ?_
          rintro e w1 ⟨rfl, rfl⟩
          go_wp2_with fail
          refine (cRow.out _).mono ?_
          rintro e w1 ⟨rfl, rfl⟩
          go_wp2_with fail
          exact bodyPost_ret (v := .tuple #[.agg #[.int .i64 0, .int .i64 0, .bool false, .bool false], .bool false]) (by simp [results, Tryd.results8, go_sem]) rfl ⟨rfl, below_chain _ _ _ _ _ _ _ _ _ _ _⟩
    · rw [if_pos ⟨rfl, rfl⟩]
      go_enter Tryd.func8, Tryd.ntmps8
      go_wp2_with fail
      refine (c1.out _).mono ?_
      rintro e w' ⟨rfl, rfl⟩
      go_wp2_with fail
      go_loop [5] (fun i => ∃ k : Nat, k ≤ tB.size ∧ i = .int .i64 k ∧ Hid ((tB.data.toList.take k).all isLet = true)) (fun i => tB.size - (RowKit.intOf i).toNat)
      case atStart => exact ⟨0, Nat.zero_le _, rfl, rfl⟩
      case round =>
        obtain ⟨k, hk, rfl, hall⟩ := hrel
        by_cases hlt : k < tB.size
        · have cl0 := fun w => isLetter_any tB[k] w
          cases hl : isLet tB[k]
          · have HK : Hid (T.takeWhile isLet = T.take k ∧ T.dropWhile isLet = T.drop k) := by
              refine while_end (by rw [← Hlt.out]; exact hall.out) (.inr ⟨tB[k], ?_, hl⟩)
              rw [← Hlt.out]
              exact List.getElem?_eq_getElem (by simpa using hlt)
            rw [hl] at cl0
            have cl : Hid (∀ w, _) := cl0
            clear cl0 hl hall
            go_wp2_with (go_at_call 23; refine (cl.out _).mono ?_; rintro e w1 ⟨rfl, rfl⟩)
            go_wp2_with fail
            go_quiet (fail)
            go_wp2_with fail
            refine (cRest.out k HK.out.2 _).mono ?_
            rintro e w1 ⟨rfl, rfl⟩
            go_wp2_with fail
            refine (cCol.out k (by omega) HK.out.1 _).mono ?_
            rintro e w1 ⟨rfl, rfl⟩
            go_wp2_with fail
            refine (cRow.out _).mono ?_
            rintro e w1 ⟨rfl, rfl⟩
            go_wp2_with fail
            exact bodyPost_ret (v := .tuple #[.agg #[.int .i64 c, .int .i64 r, .bool fc, .bool fr], .bool true]) (by simp [results, Tryd.results8, go_sem]) rfl ⟨rfl, below_chain _ _ _ _ _ _ _ _ _ _ _⟩
          · have hn : Hid ((tB.data.toList.take (k + 1)).all isLet = true) := by
              show _ = true
              rw [take_snoc tB k hlt, List.all_append, hall.out]
              simp [hl]
            rw [hl] at cl0
            have cl : Hid (∀ w, _) := cl0
            clear cl0 hl hall
            go_wp2_with (go_at_call 23; refine (cl.out _).mono ?_; rintro e w1 ⟨rfl, rfl⟩)
            go_round
            case rel => exact ⟨k + 1, by omega, by go_num, hn⟩
            case measure => simp [RowKit.intOf]; omega
        · have HK : Hid (T.takeWhile isLet = T.take k ∧ T.dropWhile isLet = T.drop k) := by
            refine while_end (by rw [← Hlt.out]; exact hall.out) (.inl ?_)
            have := Hst.out
            omega
          clear hall
          go_wp2_with fail
          go_quiet (fail)
          go_wp2_with fail
          refine (cRest.out k HK.out.2 _).mono ?_
          rintro e w1 ⟨rfl, rfl⟩
          go_wp2_with fail
          refine (cCol.out k (by omega) HK.out.1 _).mono ?_
          rintro e w1 ⟨rfl, rfl⟩
          go_wp2_with fail
          refine (cRow.out _).mono ?_
          rintro e w1 ⟨rfl, rfl⟩
          go_wp2_with fail
          exact bodyPost_ret (v := .tuple #[.agg #[.int .i64 c, .int .i64 r, .bool fc, .bool fr], .bool true]) (by simp [results, Tryd.results8, go_sem]) rfl ⟨rfl, below_chain _ _ _ _ _ _ _ _ _ _ _⟩
end Go.Proofs.YtjbkjeabobccaacDoor
