import Derived.Test.YtjbkjeabobccaabGreatDoorNumText
import Derived.Lib.Repeat
import Derived.Lib.IndexMore
namespace Go.Proofs.YtjbkjeabobccaabGreatDoor
open Go.RowKit Go.Sort Go.Lib

theorem bell (B : Nat) (w : World) (hB : B ≤ w.heap.size) (k : Nat) (os : Array Obj) : Below B w (grow (w.drewN k) os) :=
  ⟨rfl, rfl, rfl, by show w.heap.size ≤ (w.heap ++ os).size; rw [Array.size_append]; omega, fun j hj => by show (w.heap ++ os)[j]? = w.heap[j]?; rw [Array.getElem?_append_left (by omega)]⟩

/-- What a text tells (A2): its parts are the library's own words. -/
def parseR (l : List UInt8) : Int × Bool :=
  let T := Lib.trimPrefix l [45]
  let c := Lib.cut T [46]
  if isDigB c.1 = false then (0, false)
  else if c.2.2 = true ∧ (isDigB c.2.1 = false ∨ 6 < c.2.1.length) then (0, false)
  else if (rdR (c.1 ++ c.2.1 ++ List.replicate (6 - c.2.1.length) 48)).2 = false then (0, false)
  else (if Lib.hasPrefix l [45] then -(rdR (c.1 ++ c.2.1 ++ List.replicate (6 - c.2.1.length) 48)).1 else (rdR (c.1 ++ c.2.1 ++ List.replicate (6 - c.2.1.length) 48)).1, true)

theorem rd_ge : ∀ (l : List UInt8) (n m : Int), l.all isDig = true → 0 ≤ n → rd l n = some m → 0 ≤ m
  | [], n, m, _, h0, h => by simp [rd] at h; omega
  | c :: l, n, m, ha, h0, h => by
    rw [rd] at h
    split at h
    · cases h
    · simp only [List.all_cons, Bool.and_eq_true] at ha
      have : 48 ≤ (c.toNat : Int) := by have := ha.1; simp [isDig] at this; omega
      exact rd_ge l _ m ha.2 (by omega) h
theorem rdR_bd (l : List UInt8) (h : l.all isDig = true) (ho : (rdR l).2 = true) : 0 ≤ (rdR l).1 ∧ (rdR l).1 ≤ 9223372036854775807 := by
  unfold rdR at ho ⊢
  split at ho
  · cases ho
  · rename_i n hn
    simp at ho
    exact ⟨rd_ge l 0 n h (by omega) hn, ho⟩
theorem rep48 (c : Nat) : Lib.repeatL [48] c = List.replicate c 48 := by
  have := Lib.repeatL_replicate 48 1 c
  simpa using this
theorem cut_len (T : List UInt8) : (Lib.cut T [46]).1.length + (Lib.cut T [46]).2.1.length ≤ T.length ∧ ((Lib.cut T [46]).2.2 = false → (Lib.cut T [46]).2.1 = []) := by
  unfold Lib.cut
  split
  · simp; omega
  · simp

set_option maxHeartbeats 1000000 in
set_option maxRecDepth 100000 in
theorem parse_any (s : ByteArray) (w : World) (hE : Env w) (hs : s.size < 4294967281) :
    Calls Tryz.prog 26 #[.string s] w fun e w' => e = .returned (.tuple #[.int .i64 (parseR s.data.toList).1, .bool (parseR s.data.toList).2]) ∧ Below w.heap.size w w' := by
  obtain ⟨T, eT⟩ : ∃ T, Lib.trimPrefix s.data.toList [45] = T := ⟨_, rfl⟩
  obtain ⟨below, eb⟩ : ∃ b, Lib.hasPrefix s.data.toList [45] = b := ⟨_, rfl⟩
  obtain ⟨⟨Wl, Fr, dot⟩, ec⟩ : ∃ c, Lib.cut T [46] = c := ⟨_, rfl⟩
  have hTl : T.length ≤ s.size := by rw [← eT, Lib.size_eq]; exact Lib.trimPrefix_le _ _
  have hcl := cut_len T
  rw [ec] at hcl
  obtain ⟨hl, hdot⟩ := hcl
  simp only at hl hdot
  have hp : parseR s.data.toList = (if isDigB Wl = false then (0, false)
      else if dot = true ∧ (isDigB Fr = false ∨ 6 < Fr.length) then (0, false)
      else if (rdR (Wl ++ Fr ++ List.replicate (6 - Fr.length) 48)).2 = false then (0, false)
      else (if below then -(rdR (Wl ++ Fr ++ List.replicate (6 - Fr.length) 48)).1 else (rdR (Wl ++ Fr ++ List.replicate (6 - Fr.length) 48)).1, true)) := by
    unfold parseR
    simp only [eT, ec, eb]
  rw [hp]
  obtain ⟨tB, HtB⟩ : ∃ tB : ByteArray, Hid (tB = ⟨T.toArray⟩) := ⟨_, rfl⟩
  obtain ⟨wB, HwB⟩ : ∃ tB : ByteArray, Hid (tB = ⟨Wl.toArray⟩) := ⟨_, rfl⟩
  obtain ⟨fB, HfB⟩ : ∃ tB : ByteArray, Hid (tB = ⟨Fr.toArray⟩) := ⟨_, rfl⟩
  have lw : wB.data.toList = Wl := by rw [HwB.out]
  have lf : fB.data.toList = Fr := by rw [HfB.out]
  have st : tB.size = T.length := by rw [HtB.out]; simp [ByteArray.size]
  have sw : wB.size = Wl.length := by rw [HwB.out]; simp [ByteArray.size]
  have sf : fB.size = Fr.length := by rw [HfB.out]; simp [ByteArray.size]
  have c1 : Hid (∀ w, Calls Tryz.prog 55 #[.string s, .string ⟨#[45]⟩] w fun e w' => e = .returned (.tuple #[.string tB, .bool below]) ∧ w' = w) := fun w => by
    have := Tryz.strings_CutPrefix s ⟨#[45]⟩ w
    simp only [eT, eb] at this
    rw [HtB.out]
    exact this
  have c2 : Hid (∀ w', Below w.heap.size w w' → Calls Tryz.prog 56 #[.string tB, .string ⟨#[46]⟩] w' fun e w'' => e = .returned (.tuple #[.string wB, .string fB, .bool dot]) ∧ ∃ n, w'' = w'.drewN n) := fun w' hb => by
    obtain ⟨m, hm⟩ := hE.len
    have := Tryz.strings_Cut tB ⟨#[46]⟩ m w' (by omega) (hm w' hb)
    have e0 : tB.data.toList = T := by rw [HtB.out]
    simp only [e0, ec] at this
    rw [HwB.out, HfB.out]
    exact this
  have c3 : Hid (∀ w, Calls Tryz.prog 57 #[.string wB] w fun e w' => e = .returned (.bool (isDigB Wl)) ∧ w' = w) := fun w => by
    have := isDigits_any wB w (by unfold maxLen; omega)
    rw [lw] at this
    exact this
  have c4 : Hid (∀ w, Calls Tryz.prog 57 #[.string fB] w fun e w' => e = .returned (.bool (isDigB Fr)) ∧ w' = w) := fun w => by
    have := isDigits_any fB w (by unfold maxLen; omega)
    rw [lf] at this
    exact this
  cases hdw : isDigB Wl
  · rw [if_pos rfl]
    rw [hdw] at c3
    clear hs hp lw lf st sw sf hl hdot hTl eT eb ec hdw c4
    go_enter Tryz.func26, Tryz.ntmps26
    go_wp2_with fail
    refine (c1.out _).mono ?_
    rintro e w' ⟨rfl, rfl⟩
    go_wp2_with fail
    refine (c2.out _ (Below.refl _ _)).mono ?_
    rintro e w' ⟨rfl, n, rfl⟩
    go_wp2_with fail
    refine (c3.out _).mono ?_
    rintro e w' ⟨rfl, rfl⟩
    go_wp2_with fail
    go_ret2
    exact ⟨rfl, bl _ n⟩
  · rw [if_neg (by simp)]
    rw [hdw] at c3
    obtain ⟨zB, HzB⟩ : ∃ tB : ByteArray, Hid (tB = ⟨(List.replicate (6 - Fr.length) 48).toArray⟩) := ⟨_, rfl⟩
    have sz : zB.size = 6 - Fr.length := by rw [HzB.out]; simp [ByteArray.size]
    have hW : Wl.all isDig = true := by unfold isDigB at hdw; simp at hdw; simpa using hdw.2
    have c5 : Fr.length ≤ 6 → Hid (∀ w, Calls Tryz.prog 59 #[.string ⟨#[48]⟩, .int .i64 (6 - (fB.size : Int))] w fun e w' => e = .returned (.string zB) ∧ Below w.heap.size w w') := fun h6 w => by
      have := Tryz.strings_Repeat ⟨#[48]⟩ (6 - Fr.length) w (by omega) (by show 1 * (6 - Fr.length) ≤ _; omega)
      rw [rep48, Int.ofNat_sub h6, ← sf] at this
      rw [HzB.out, ← sf]
      exact this
    obtain ⟨⟨N, ok⟩, eN⟩ : ∃ r, rdR (Wl ++ Fr ++ List.replicate (6 - Fr.length) 48) = r := ⟨_, rfl⟩
    rw [eN]
    have lall : (wB ++ fB ++ zB).data.toList = Wl ++ Fr ++ List.replicate (6 - Fr.length) 48 := by
      rw [HzB.out]
      simp [lw, lf]
    have c6 : Fr.all isDig = true → Hid (∀ w, Calls Tryz.prog 58 #[.string (wB ++ fB ++ zB)] w fun e w' => e = .returned (.tuple #[.int .u64 N, .bool ok]) ∧ w' = w) := fun hF w => by
      have hsz : (wB ++ fB ++ zB).size ≤ maxLen := by
        rw [ByteArray.size_append, ByteArray.size_append]
        unfold maxLen
        omega
      have := readDigits_any (wB ++ fB ++ zB) w hsz (by
        rw [lall, List.all_append, List.all_append, hW, hF]
        simp [List.all_replicate]
        right; decide)
      rw [lall, eN] at this
      exact this
    have c7 : Fr.all isDig = true → Hid (ok = true → 0 ≤ N ∧ N ≤ 9223372036854775807) := fun hF ho => by
      have := rdR_bd (Wl ++ Fr ++ List.replicate (6 - Fr.length) 48) (by
        rw [List.all_append, List.all_append, hW, hF]
        simp [List.all_replicate]
        right; decide) (by rw [eN]; exact ho)
      rw [eN] at this
      exact this
    have ha1 : ∀ W, (Op.stringOp .add wB fB).run Tryz.prog W = .ok (.string (wB ++ fB)) W := fun W => run_string_add_sum W _ _ (by omega)
    have ha2 : ∀ W, (Op.stringOp .add (wB ++ fB) zB).run Tryz.prog W = .ok (.string (wB ++ fB ++ zB)) W := fun W => run_string_add_sum W _ _ (by rw [ByteArray.size_append]; omega)
    cases hdt : dot
    · have hF0 : Fr = [] := hdot hdt
      rw [if_neg (by simp)]
      subst hF0
      have c5 := c5 (by simp)
      have hf6 : (fB.size : Int) ≤ 6 := by rw [sf]; simp
      have c6 := c6 (by simp)
      have c7 := c7 (by simp)
      subst hdt
      clear hs hp lw lf st hl hdot hTl eT eb ec hdw c4 hW lall eN sf sw sz
      cases hok : ok
      · rw [if_pos rfl]
        subst hok
        go_enter Tryz.func26, Tryz.ntmps26
        go_wp2_with fail
        refine (c1.out _).mono ?_
        rintro e w' ⟨rfl, rfl⟩
        go_wp2_with fail
        refine (c2.out _ (Below.refl _ _)).mono ?_
        rintro e w' ⟨rfl, n, rfl⟩
        go_wp2_with fail
        refine (c3.out _).mono ?_
        rintro e w' ⟨rfl, rfl⟩
        go_wp2_with fail
        refine (c5.out _).mono ?_
        rintro e w' ⟨rfl, hb5⟩
        go_wp2_with fail
        refine (c6.out _).mono ?_
        rintro e w' ⟨rfl, rfl⟩
        go_wp2_with fail
        go_ret2
        exact ⟨rfl, (bl _ n).trans hb5⟩
      · rw [if_neg (by simp)]
        have cw : Hid (∀ w, _) := fun w => withSign_any N below w (c7.out hok).1 (c7.out hok).2
        subst hok
        go_enter Tryz.func26, Tryz.ntmps26
        go_wp2_with fail
        refine (c1.out _).mono ?_
        rintro e w' ⟨rfl, rfl⟩
        go_wp2_with fail
        refine (c2.out _ (Below.refl _ _)).mono ?_
        rintro e w' ⟨rfl, n, rfl⟩
        go_wp2_with fail
        refine (c3.out _).mono ?_
        rintro e w' ⟨rfl, rfl⟩
        go_wp2_with fail
        refine (c5.out _).mono ?_
        rintro e w' ⟨rfl, hb5⟩
        go_wp2_with fail
        refine (c6.out _).mono ?_
        rintro e w' ⟨rfl, rfl⟩
        go_wp2_with (go_at_call 60; refine (cw.out _).mono ?_; rintro e w' ⟨rfl, rfl⟩)
        all_goals (go_ret2; exact ⟨rfl, (bl _ n).trans hb5⟩)
    · subst hdt
      cases hdf : isDigB Fr
      · rw [if_pos ⟨rfl, .inl rfl⟩]
        rw [hdf] at c4
        clear hs hp lw lf st hl hdot hTl eT eb ec hdw hW lall eN sf sw sz hdf c5 c6 c7
        go_enter Tryz.func26, Tryz.ntmps26
        go_wp2_with fail
        refine (c1.out _).mono ?_
        rintro e w' ⟨rfl, rfl⟩
        go_wp2_with fail
        refine (c2.out _ (Below.refl _ _)).mono ?_
        rintro e w' ⟨rfl, n, rfl⟩
        go_wp2_with fail
        refine (c3.out _).mono ?_
        rintro e w' ⟨rfl, rfl⟩
        go_wp2_with fail
        refine (c4.out _).mono ?_
        rintro e w' ⟨rfl, rfl⟩
        go_wp2_with fail
        go_ret2
        exact ⟨rfl, bl _ n⟩
      · rw [hdf] at c4
        have hF : Fr.all isDig = true := by unfold isDigB at hdf; simp at hdf; simpa using hdf.2
        by_cases h6 : 6 < Fr.length
        · rw [if_pos ⟨rfl, .inr h6⟩]
          have h6' : (6 : Int) < fB.size := by omega
          clear hs hp lw lf st hl hdot hTl eT eb ec hdw hW lall eN sf sw sz hdf c5 c6 c7 hF
          go_enter Tryz.func26, Tryz.ntmps26
          go_wp2_with fail
          refine (c1.out _).mono ?_
          rintro e w' ⟨rfl, rfl⟩
          go_wp2_with fail
          refine (c2.out _ (Below.refl _ _)).mono ?_
          rintro e w' ⟨rfl, n, rfl⟩
          go_wp2_with fail
          refine (c3.out _).mono ?_
          rintro e w' ⟨rfl, rfl⟩
          go_wp2_with fail
          refine (c4.out _).mono ?_
          rintro e w' ⟨rfl, rfl⟩
          go_wp2_with fail
          go_ret2
          exact ⟨rfl, bl _ n⟩
        · rw [if_neg (by simp; omega)]
          have h6' : ¬ (6 : Int) < fB.size := by omega
          have c5 := c5 (by omega)
          have c6 := c6 hF
          have c7 := c7 hF
          clear hs hp lw lf st hl hdot hTl eT eb ec hdw hW lall eN sf sw sz hdf hF
          cases hok : ok
          · rw [if_pos rfl]
            subst hok
            go_enter Tryz.func26, Tryz.ntmps26
            go_wp2_with fail
            refine (c1.out _).mono ?_
            rintro e w' ⟨rfl, rfl⟩
            go_wp2_with fail
            refine (c2.out _ (Below.refl _ _)).mono ?_
            rintro e w' ⟨rfl, n, rfl⟩
            go_wp2_with fail
            refine (c3.out _).mono ?_
            rintro e w' ⟨rfl, rfl⟩
            go_wp2_with fail
            refine (c4.out _).mono ?_
            rintro e w' ⟨rfl, rfl⟩
            go_wp2_with fail
            refine (c5.out _).mono ?_
            rintro e w' ⟨rfl, hb5⟩
            go_wp2_with fail
            refine (c6.out _).mono ?_
            rintro e w' ⟨rfl, rfl⟩
            go_wp2_with fail
            go_ret2
            exact ⟨rfl, (bl _ n).trans hb5⟩
          · rw [if_neg (by simp)]
            have cw : Hid (∀ w, _) := fun w => withSign_any N below w (c7.out hok).1 (c7.out hok).2
            subst hok
            go_enter Tryz.func26, Tryz.ntmps26
            go_wp2_with fail
            refine (c1.out _).mono ?_
            rintro e w' ⟨rfl, rfl⟩
            go_wp2_with fail
            refine (c2.out _ (Below.refl _ _)).mono ?_
            rintro e w' ⟨rfl, n, rfl⟩
            go_wp2_with fail
            refine (c3.out _).mono ?_
            rintro e w' ⟨rfl, rfl⟩
            go_wp2_with fail
            refine (c4.out _).mono ?_
            rintro e w' ⟨rfl, rfl⟩
            go_wp2_with fail
            refine (c5.out _).mono ?_
            rintro e w' ⟨rfl, hb5⟩
            go_wp2_with fail
            refine (c6.out _).mono ?_
            rintro e w' ⟨rfl, rfl⟩
            go_wp2_with (go_at_call 60; refine (cw.out _).mono ?_; rintro e w' ⟨rfl, rfl⟩)
            all_goals (go_ret2; exact ⟨rfl, (bl _ n).trans hb5⟩)
end Go.Proofs.YtjbkjeabobccaabGreatDoor
