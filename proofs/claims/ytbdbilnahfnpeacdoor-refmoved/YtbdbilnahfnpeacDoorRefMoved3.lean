import Derived.Test.YtbdbilnahfnpeacDoorRefMoved2
import Derived.Test.YtbdbilnahfnpeacDoorRefCopied
namespace Go.Proofs.YtbdbilnahfnpeacDoor
open Go.RowKit Go.Lib
set_option linter.unusedVariables false

def sz (rows : Bool) : Int := if rows then 1024 else 64
theorem sizeOf_any (rows : Bool) (w : World) : Calls Tryd.prog 35 #[.bool rows] w fun e w' => e = .returned (.int .i64 (sz rows)) ∧ w' = w := by
  cases rows
  · exact sizeOf_col w
  · exact sizeOf_row w
def okM (c1 r1 c2 r2 : Int) (rows : Bool) (at' n : Int) : Prop := (inB c1 r1 ∧ inB c2 r2) ∧ (0 ≤ at' ∧ at' < sz rows) ∧ (-1024 ≤ n ∧ n ≤ 1024)

set_option maxHeartbeats 2000000 in
theorem moved_out (c1 r1 c2 r2 at' n : Int) (f1 g1 f2 g2 rows : Bool) (w : World) (h : ¬ okM c1 r1 c2 r2 rows at' n) :
    Calls Tryd.prog 20 #[.agg #[.int .i64 c1, .int .i64 r1, .bool f1, .bool g1, .int .i64 c2, .int .i64 r2, .bool f2, .bool g2], .bool rows, .int .i64 at', .int .i64 n] w fun e w' => e = .returned (.tuple #[.agg #[.int .i64 0, .int .i64 0, .bool false, .bool false, .int .i64 0, .int .i64 0, .bool false, .bool false], .bool false]) ∧ Below w.heap.size w w' := by
  have cz0 := fun w => sizeOf_any rows w
  obtain ⟨s, es⟩ : ∃ s, sz rows = s := ⟨_, rfl⟩
  unfold okM at h
  rw [es] at cz0 h
  have cz : Hid (∀ w, _) := cz0
  clear cz0 es
  by_cases h1 : inB c1 r1
  · have o1 : Hid (∀ w, _) := fun w => outside_in c1 r1 f1 g1 w h1
    by_cases h2 : inB c2 r2
    · have o2 : Hid (∀ w, _) := fun w => outside_in c2 r2 f2 g2 w h2
      by_cases k1 : at' < 0
      · have e1 : decide (at' < 0) = true := by simpa using k1
        clear h h1 h2
        go_enter Tryd.func20, Tryd.ntmps20
        go_wp2_with fail
        refine (cz.out _).mono ?_
        rintro e w' ⟨rfl, rfl⟩
        go_wp2_with fail
        refine (o1.out _).mono ?_
        rintro e w' ⟨rfl, rfl⟩
        go_wp2_with fail
        refine (o2.out _).mono ?_
        rintro e w' ⟨rfl, rfl⟩
        go_wp2_with fail
        refine bodyPost_ret (v := (.tuple #[.agg #[.int .i64 0, .int .i64 0, .bool false, .bool false, .int .i64 0, .int .i64 0, .bool false, .bool false], .bool false])) (by simp [results, Tryd.results20, go_sem]) rfl ⟨rfl, ?_⟩
        go_grown
      · have e1 : decide (at' < 0) = false := by simpa using k1
        by_cases k2 : s ≤ at'
        · have e2 : decide (s ≤ at') = true := by simpa using k2
          clear h h1 h2
          go_enter Tryd.func20, Tryd.ntmps20
          go_wp2_with fail
          refine (cz.out _).mono ?_
          rintro e w' ⟨rfl, rfl⟩
          go_wp2_with fail
          refine (o1.out _).mono ?_
          rintro e w' ⟨rfl, rfl⟩
          go_wp2_with fail
          refine (o2.out _).mono ?_
          rintro e w' ⟨rfl, rfl⟩
          go_wp2_with fail
          refine bodyPost_ret (v := (.tuple #[.agg #[.int .i64 0, .int .i64 0, .bool false, .bool false, .int .i64 0, .int .i64 0, .bool false, .bool false], .bool false])) (by simp [results, Tryd.results20, go_sem]) rfl ⟨rfl, ?_⟩
          go_grown
        · have e2 : decide (s ≤ at') = false := by simpa using k2
          by_cases k3 : n < -1024
          · have e3 : decide (n < -1024) = true := by simpa using k3
            clear h h1 h2
            go_enter Tryd.func20, Tryd.ntmps20
            go_wp2_with fail
            refine (cz.out _).mono ?_
            rintro e w' ⟨rfl, rfl⟩
            go_wp2_with fail
            refine (o1.out _).mono ?_
            rintro e w' ⟨rfl, rfl⟩
            go_wp2_with fail
            refine (o2.out _).mono ?_
            rintro e w' ⟨rfl, rfl⟩
            go_wp2_with fail
            refine bodyPost_ret (v := (.tuple #[.agg #[.int .i64 0, .int .i64 0, .bool false, .bool false, .int .i64 0, .int .i64 0, .bool false, .bool false], .bool false])) (by simp [results, Tryd.results20, go_sem]) rfl ⟨rfl, ?_⟩
            go_grown
          · have e3 : decide (n < -1024) = false := by simpa using k3
            have k4 : 1024 < n := by
              rcases Int.lt_or_le 1024 n with hh | hh
              · exact hh
              · exact absurd ⟨⟨h1, h2⟩, ⟨by omega, by omega⟩, ⟨by omega, by omega⟩⟩ h
            have e4 : decide (1024 < n) = true := by simpa using k4
            clear h h1 h2
            go_enter Tryd.func20, Tryd.ntmps20
            go_wp2_with fail
            refine (cz.out _).mono ?_
            rintro e w' ⟨rfl, rfl⟩
            go_wp2_with fail
            refine (o1.out _).mono ?_
            rintro e w' ⟨rfl, rfl⟩
            go_wp2_with fail
            refine (o2.out _).mono ?_
            rintro e w' ⟨rfl, rfl⟩
            go_wp2_with fail
            refine bodyPost_ret (v := (.tuple #[.agg #[.int .i64 0, .int .i64 0, .bool false, .bool false, .int .i64 0, .int .i64 0, .bool false, .bool false], .bool false])) (by simp [results, Tryd.results20, go_sem]) rfl ⟨rfl, ?_⟩
            go_grown
    · have o2 : Hid (∀ w, _) := fun w => outside_no c2 r2 f2 g2 w h2
      clear h h1 h2
      go_enter Tryd.func20, Tryd.ntmps20
      go_wp2_with fail
      refine (cz.out _).mono ?_
      rintro e w' ⟨rfl, rfl⟩
      go_wp2_with fail
      refine (o1.out _).mono ?_
      rintro e w' ⟨rfl, rfl⟩
      go_wp2_with fail
      refine (o2.out _).mono ?_
      rintro e w' ⟨rfl, rfl⟩
      go_wp2_with fail
      refine bodyPost_ret (v := (.tuple #[.agg #[.int .i64 0, .int .i64 0, .bool false, .bool false, .int .i64 0, .int .i64 0, .bool false, .bool false], .bool false])) (by simp [results, Tryd.results20, go_sem]) rfl ⟨rfl, ?_⟩
      go_grown
  · have o1 : Hid (∀ w, _) := fun w => outside_no c1 r1 f1 g1 w h1
    clear h h1
    go_enter Tryd.func20, Tryd.ntmps20
    go_wp2_with fail
    refine (cz.out _).mono ?_
    rintro e w' ⟨rfl, rfl⟩
    go_wp2_with fail
    refine (o1.out _).mono ?_
    rintro e w' ⟨rfl, rfl⟩
    go_wp2_with fail
    refine bodyPost_ret (v := (.tuple #[.agg #[.int .i64 0, .int .i64 0, .bool false, .bool false, .int .i64 0, .int .i64 0, .bool false, .bool false], .bool false])) (by simp [results, Tryd.results20, go_sem]) rfl ⟨rfl, ?_⟩
    go_grown

/-- What an area becomes (D5). -/
structure Ar where
  c1 : Int
  r1 : Int
  f1 : Bool
  g1 : Bool
  c2 : Int
  r2 : Int
  f2 : Bool
  g2 : Bool
  ok : Bool
def Ar.val (a : Ar) : Value := .tuple #[.agg #[.int .i64 a.c1, .int .i64 a.r1, .bool a.f1, .bool a.g1, .int .i64 a.c2, .int .i64 a.r2, .bool a.f2, .bool a.g2], .bool a.ok]
/-- It can be told whether okM holds. -/
def okMDec (c1 r1 c2 r2 : Int) (rows : Bool) (at' n : Int) : Decidable (okM c1 r1 c2 r2 rows at' n) := by unfold okM inB; exact inferInstance
def movR (c1 r1 c2 r2 : Int) (f1 g1 f2 g2 rows : Bool) (at' n : Int) : Ar :=
  @ite Ar (okM c1 r1 c2 r2 rows at' n) (okMDec c1 r1 c2 r2 rows at' n)
    (if rows then (if mvok r1 r2 at' n 1024 then ⟨c1, mvx r1 r2 at' n 1024, f1, g1, c2, mvy r1 r2 at' n 1024, f2, g2, true⟩ else ⟨0, 0, false, false, 0, 0, false, false, false⟩)
    else (if mvok c1 c2 at' n 64 then ⟨mvx c1 c2 at' n 64, r1, f1, g1, mvy c1 c2 at' n 64, r2, f2, g2, true⟩ else ⟨0, 0, false, false, 0, 0, false, false, false⟩))
    ⟨0, 0, false, false, 0, 0, false, false, false⟩

theorem moved_any (c1 r1 c2 r2 at' n : Int) (f1 g1 f2 g2 rows : Bool) (w : World) :
    Calls Tryd.prog 20 #[.agg #[.int .i64 c1, .int .i64 r1, .bool f1, .bool g1, .int .i64 c2, .int .i64 r2, .bool f2, .bool g2], .bool rows, .int .i64 at', .int .i64 n] w fun e w' => e = .returned (movR c1 r1 c2 r2 f1 g1 f2 g2 rows at' n).val ∧ Below w.heap.size w w' := by
  unfold movR
  by_cases h : okM c1 r1 c2 r2 rows at' n
  · rw [if_pos h]
    obtain ⟨⟨i1, i2⟩, ⟨a1, a2⟩, n1, n2⟩ := h
    cases rows
    · rw [if_neg (by simp)]
      cases hl : mvok c1 c2 at' n 64
      · rw [if_neg (by simp)]
        exact moved_col_no c1 r1 c2 r2 at' n f1 g1 f2 g2 w i1 i2 a1 a2 n1 n2 hl
      · rw [if_pos rfl]
        exact moved_col_yes c1 r1 c2 r2 at' n f1 g1 f2 g2 w i1 i2 a1 a2 n1 n2 _ _ rfl rfl hl
    · rw [if_pos rfl]
      cases hl : mvok r1 r2 at' n 1024
      · rw [if_neg (by simp)]
        exact moved_row_no c1 r1 c2 r2 at' n f1 g1 f2 g2 w i1 i2 a1 a2 n1 n2 hl
      · rw [if_pos rfl]
        exact moved_row_yes c1 r1 c2 r2 at' n f1 g1 f2 g2 w i1 i2 a1 a2 n1 n2 _ _ rfl rfl hl
  · rw [if_neg h]
    exact moved_out c1 r1 c2 r2 at' n f1 g1 f2 g2 rows w h
end Go.Proofs.YtbdbilnahfnpeacDoor
