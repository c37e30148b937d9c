import Derived.Test.YtjbkjeabobccaabGreatDoorNumBig8
namespace Go.Proofs.YtjbkjeabobccaabGreatDoor
open Go.RowKit
set_option linter.unusedVariables false

theorem hidd {p : Prop} (h : p) : Hid p := h
theorem box1 {w W w9 : World} {A : Obj} (hW : W.heap = (w.alloc A).heap) (hb : Below W.heap.size W w9) : w9.heap[w.heap.size]? = some A ∧ w.heap.size + 1 ≤ w9.heap.size := by
  have e : W.heap = w.heap.push A := hW
  have hs := hb.size
  have es : W.heap.size = w.heap.size + 1 := by rw [e]; simp
  exact ⟨by rw [hb.block _ (by omega), e, Array.getElem?_push_size], by omega⟩

/-- The boxed number, behind a callee. -/
def Boxed (w w9 : World) (a : Option Addr) (la ca : Nat) (m : Bool) : Prop := w9.cell? ⟨w.heap.size, 0, none⟩ = some (.slice a la ca) ∧ w9.cell? ⟨w.heap.size, 1, none⟩ = some (.bool m)

/-- The four calls ahead of the test, in the order in which they must come: each one's contract stands behind the one's before it. -/
theorem int_calls (w : World) (a : Option Addr) (la ca : Nat) (m : Bool) (z : Int) (hv : BigIs w (.agg #[.slice a la ca, .bool m]) z) (hl : (repr (9223372036854775807 + z.natAbs)).length ≤ 1000000000000) :
    Calls Tryz.prog 62 #[.int .i64 9223372036854775807] (w.alloc (.cells #[.slice a la ca, .bool m] 91)).drew fun e w1 =>
      ∃ c n k q, e = .returned (.agg #[.slice c n k, .bool q]) ∧ w1.cell? ⟨w.heap.size, 0, none⟩ = some (.slice a la ca) ∧ w1.cell? ⟨w.heap.size, 1, none⟩ = some (.bool m) ∧
      Hid (Calls Tryz.prog 104 #[.agg #[.slice c n k, .bool q], .agg #[.slice a la ca, .bool m]] w1 fun e w2 =>
        e = .returned (.bool (decide (9223372036854775807 < z))) ∧ w2.cell? ⟨w.heap.size, 0, none⟩ = some (.slice a la ca) ∧ w2.cell? ⟨w.heap.size, 1, none⟩ = some (.bool m) ∧ Hid (Below w.heap.size w w2) ∧
        Hid (Calls Tryz.prog 62 #[.int .i64 (-9223372036854775807)] w2 fun e w3 =>
          ∃ c n k q, e = .returned (.agg #[.slice c n k, .bool q]) ∧ w3.cell? ⟨w.heap.size, 0, none⟩ = some (.slice a la ca) ∧ w3.cell? ⟨w.heap.size, 1, none⟩ = some (.bool m) ∧
          Hid (Calls Tryz.prog 104 #[.agg #[.slice a la ca, .bool m], .agg #[.slice c n k, .bool q]] w3 fun e w4 =>
            e = .returned (.bool (decide (z < -9223372036854775807))) ∧ w4.cell? ⟨w.heap.size, 0, none⟩ = some (.slice a la ca) ∧ w4.cell? ⟨w.heap.size, 1, none⟩ = some (.bool m) ∧ Hid (Below w.heap.size w w4)))) := by
  have hbel : Below w.heap.size w (w.alloc (.cells #[.slice a la ca, .bool m] 91)).drew := ((Below.refl _ _).alloc (Nat.le_refl _) _).drew
  refine (of_any 9223372036854775807 _ (by omega) (by omega)).mono ?_
  rintro e w1 ⟨⟨r1, rfl, h1⟩, hb1⟩
  obtain ⟨c, k, er, _⟩ := id h1
  obtain ⟨g1, _⟩ := box1 (W := World.drew _) rfl hb1
  refine ⟨c, (repr (9223372036854775807 : Int).natAbs).length, k, decide ((9223372036854775807 : Int) < 0), by rw [er], two_cell0 g1, two_cell1 g1, ?_⟩
  rw [← er]
  have hB1 := key2 hbel hb1
  refine (less_any w1 _ _ _ z h1 (hv.step hB1) hl).mono ?_
  rintro e w2 ⟨rfl, hb2⟩
  have hb2' := hb1.trans (hb2.mono hb1.size)
  obtain ⟨g2, _⟩ := box1 (W := World.drew _) (w9 := w2) rfl hb2'
  have hB2 := key2 hbel hb2'
  refine ⟨rfl, two_cell0 g2, two_cell1 g2, hB2, ?_⟩
  refine (of_any (-9223372036854775807) _ (by omega) (by omega)).mono ?_
  rintro e w3 ⟨⟨r3, rfl, h3⟩, hb3⟩
  obtain ⟨c, k, er, _⟩ := id h3
  have hb3' := hb2'.trans (hb3.mono hb2'.size)
  obtain ⟨g3, _⟩ := box1 (W := World.drew _) (w9 := w3) rfl hb3'
  refine ⟨c, (repr (-9223372036854775807 : Int).natAbs).length, k, decide ((-9223372036854775807 : Int) < 0), by rw [er], two_cell0 g3, two_cell1 g3, ?_⟩
  rw [← er]
  have hB3 := key2 hbel hb3'
  refine (less_any w3 _ _ z _ (hv.step hB3) h3 (by rw [Nat.add_comm]; exact hl)).mono ?_
  rintro e w4 ⟨rfl, hb4⟩
  have hb4' := hb3'.trans (hb4.mono hb3'.size)
  obtain ⟨g4, _⟩ := box1 (W := World.drew _) (w9 := w4) rfl hb4'
  exact ⟨rfl, two_cell0 g4, two_cell1 g4, key2 hbel hb4'⟩

set_option maxHeartbeats 8000000 in
set_option maxRecDepth 100000 in
theorem int_out (w : World) (a : Option Addr) (la ca : Nat) (m : Bool) (z : Int) (hv : BigIs w (.agg #[.slice a la ca, .bool m]) z) (hl : (repr (9223372036854775807 + z.natAbs)).length ≤ 1000000000000) (hz : 9223372036854775807 < z ∨ z < -9223372036854775807) :
    Calls Tryz.prog 67 #[.agg #[.slice a la ca, .bool m]] w fun e w' => e = .returned (.tuple #[.int .i64 0, .bool false]) ∧ Below w.heap.size w w' := by
  have c1 := hidd (int_calls w a la ca m z hv hl)
  by_cases h1 : 9223372036854775807 < z
  · rw [show decide (9223372036854775807 < z) = true by simpa using h1] at c1
    clear h1 hz hl hv
    go_enter Tryz.func67, Tryz.ntmps67
    go_wp2_with fail
    go_region_with
      (first | (go_at_call 62; go_loud (refine c1.out.mono ?_; rintro e w1 ⟨c, n, k, q, rfl, p0, p1, c2⟩)) | (go_at_call 104; go_loud (refine c2.out.mono ?_; rintro e w2 ⟨rfl, q0, q1, HB, c3⟩)))
    all_goals
      go_wp2_with fail
      go_ret2
      exact ⟨rfl, HB.out⟩
  · have h2 : z < -9223372036854775807 := by omega
    rw [show decide (9223372036854775807 < z) = false by simpa using h1, show decide (z < -9223372036854775807) = true by simpa using h2] at c1
    clear h1 h2 hz hl hv
    go_enter Tryz.func67, Tryz.ntmps67
    go_wp2_with fail
    go_region_held2 (fun w' => w'.cell? ⟨w.heap.size, 0, none⟩ = some (.slice a la ca) ∧ w'.cell? ⟨w.heap.size, 1, none⟩ = some (.bool m)) (go_keep)
      (first | (go_at_call 62; refine c3.out.mono ?_; rintro e w3 ⟨c', n', k', q', rfl, r0, r1, c4⟩) | (go_at_call 62; refine c1.out.mono ?_; rintro e w1 ⟨c, n, k, q, rfl, p0, p1, c2⟩) | (go_at_call 104; refine c4.out.mono ?_; rintro e w4 ⟨rfl, s0, s1, HB⟩) | (go_at_call 104; refine c2.out.mono ?_; rintro e w2 ⟨rfl, q0, q1, HB2, c3⟩))
    all_goals
      go_wp2_with fail
      go_ret2
      exact ⟨rfl, HB.out⟩

/-- How far the digits are told, from the highest on. -/
def IntAt (x k X : Nat) : Prop := (repr x).drop k = repr X
theorem IntAt.down {x k X : Nat} (h : IntAt x k X) (hk : 0 < k) (hl : k ≤ (repr x).length) : ∃ d : Int, (repr x).getD (k - 1) 0 = d ∧ 0 ≤ d ∧ d < 10000 ∧ IntAt x (k - 1) (X * 10000 + d.toNat) ∧ X * 10000 + d.toNat ≤ x := by
  unfold IntAt at h ⊢
  have hd := repr_drop (k - 1) x
  obtain ⟨Y, hY⟩ : ∃ Y, x / 10000 ^ (k - 1) = Y := ⟨_, rfl⟩
  rw [hY] at hd
  have hlt : k - 1 < (repr x).length := by omega
  have hY0 : Y ≠ 0 := (repr_at hd).1.1 hlt
  obtain ⟨_, e2⟩ := at_getD hd hY0
  have e3 := ((repr_at hd).2 hlt).2
  rw [show k - 1 + 1 = k by omega, h] at e3
  have e4 := repr_inj e3
  have hle : Y ≤ x := by rw [← hY]; exact Nat.div_le_self _ _
  refine ⟨_, e2, by omega, by omega, ?_, ?_⟩
  · rw [hd]; congr 1; omega
  · omega

set_option maxHeartbeats 8000000 in
set_option maxRecDepth 100000 in
theorem int_in (w : World) (a : Option Addr) (la ca : Nat) (m : Bool) (z : Int) (hv : BigIs w (.agg #[.slice a la ca, .bool m]) z) (hl : (repr (9223372036854775807 + z.natAbs)).length ≤ 1000000000000) (h1 : z ≤ 9223372036854775807) (h2 : -9223372036854775807 ≤ z) :
    Calls Tryz.prog 67 #[.agg #[.slice a la ca, .bool m]] w fun e w' => e = .returned (.tuple #[.int .i64 z, .bool true]) ∧ Below w.heap.size w w' := by
  have c1 := hidd (int_calls w a la ca m z hv hl)
  rw [show decide (9223372036854775807 < z) = false by simp; omega, show decide (z < -9223372036854775807) = false by simp; omega] at c1
  obtain ⟨a', ca', ev, hR⟩ := hv
  cases ev
  have HR := hidd hR
  have hle := hR.le
  have hlid := hR.lid
  unfold maxLen at hlid
  clear hR
  obtain ⟨x, ex⟩ : ∃ x, z.natAbs = x := ⟨_, rfl⟩
  rw [ex] at HR hle ⊢
  have HX : Hid (z.natAbs = x) := ex
  obtain ⟨la, ela⟩ : ∃ l, (repr x).length = l := ⟨_, rfl⟩
  obtain ⟨m, em⟩ : ∃ b, decide (z < 0) = b := ⟨_, rfl⟩
  rw [ex, ela, em] at c1
  rw [ela] at hle ⊢
  have EL := hidd ela
  have EM := hidd em
  have HZ : Hid (x ≤ 9223372036854775807) := by show x ≤ _; omega
  rw [em]
  clear ex ela em hl h1 h2
  go_enter Tryz.func67, Tryz.ntmps67
  go_wp2_with fail
  go_region_held2 (fun w' => w'.cell? ⟨w.heap.size, 0, none⟩ = some (.slice a la ca) ∧ w'.cell? ⟨w.heap.size, 1, none⟩ = some (.bool m)) (go_keep)
    (first | (go_at_call 62; refine c3.out.mono ?_; rintro e w3 ⟨c', n', k', q', rfl, r0, r1, c4⟩) | (go_at_call 62; refine c1.out.mono ?_; rintro e w1 ⟨c, n, k, q, rfl, p0, p1, c2⟩) | (go_at_call 104; refine c4.out.mono ?_; rintro e w4 ⟨rfl, s0, s1, HB⟩) | (go_at_call 104; refine c2.out.mono ?_; rintro e w2 ⟨rfl, q0, q1, HB2, c3⟩))
  all_goals
    clear p0 p1 q0 q1 r0 r1 c1 HB2
    cases m
    · have EMz : Hid (0 ≤ z) := by have := EM.out; simp at this; exact this
      go_wp2_with fail
      go_loop [4, 5] (fun n i => ∃ (k X : Nat) (N : Int), k ≤ la ∧ i = .int .i64 ((k : Int) - 1) ∧ n = .int .i64 (N) ∧ 0 ≤ N ∧ N ≤ 9223372036854775807 ∧ Hid (N = X ∧ IntAt x k X)) (fun _ i => (RowKit.intOf i + 1).toNat)
      case atStart => exact ⟨la, 0, 0, Nat.le_refl _, rfl, rfl, by omega, by omega, rfl, by show _ = _; rw [List.drop_eq_nil_of_le (by rw [EL.out]; omega)]; rfl⟩
      case round =>
        obtain ⟨k, X, N, hk, rfl, rfl, hN0, hN1, hI⟩ := hrel
        by_cases h0 : k = 0
        · subst h0
          have hf : Hid (z = N) := by
            have e1 : x = X := repr_inj (by have := hI.out.2; unfold IntAt at this; simpa using this)
            have := hI.out.1
            have := HX.out
            have := EMz.out
            show _ = _
            omega
          go_wp2
          rw [hf.out]
          go_ret2
          exact ⟨rfl, HB.out⟩
        · have hp : 0 < k := by omega
          obtain ⟨d, ed, d0, d1, hI2, hle2⟩ := hI.out.2.down hp (by rw [EL.out]; omega)
          obtain ⟨g, rfl, hg⟩ := (HR.out.step HB.out).at (by rw [EL.out]; omega)
          have cg := hg (k - 1) (by rw [EL.out]; omega)
          rw [ed] at cg
          have HN2 : Hid (N * 10000 + d = ((X * 10000 + d.toNat : Nat) : Int) ∧ IntAt x (k - 1) (X * 10000 + d.toNat)) := ⟨by have := hI.out.1; omega, hI2⟩
          have b1 : 0 ≤ N * 10000 + d := by omega
          have b2 : N * 10000 + d ≤ 9223372036854775807 := by have := hI.out.1; have := HZ.out; omega
          clear hg ed hI2 hle2 hI
          go_wp2
          go_round
          case rel => exact ⟨k - 1, _, N * 10000 + d, by omega, by go_num, by go_num, b1, b2, HN2⟩
          case measure => simp [RowKit.intOf]; omega
    · have EMz : Hid (z < 0) := by have := EM.out; simp at this; exact this
      go_wp2_with fail
      go_loop [4, 5] (fun n i => ∃ (k X : Nat) (N : Int), k ≤ la ∧ i = .int .i64 ((k : Int) - 1) ∧ n = .int .i64 (-N) ∧ 0 ≤ N ∧ N ≤ 9223372036854775807 ∧ Hid (N = X ∧ IntAt x k X)) (fun _ i => (RowKit.intOf i + 1).toNat)
      case atStart => exact ⟨la, 0, 0, Nat.le_refl _, rfl, rfl, by omega, by omega, rfl, by show _ = _; rw [List.drop_eq_nil_of_le (by rw [EL.out]; omega)]; rfl⟩
      case round =>
        obtain ⟨k, X, N, hk, rfl, rfl, hN0, hN1, hI⟩ := hrel
        by_cases h0 : k = 0
        · subst h0
          have hf : Hid (z = -N) := by
            have e1 : x = X := repr_inj (by have := hI.out.2; unfold IntAt at this; simpa using this)
            have := hI.out.1
            have := HX.out
            have := EMz.out
            show _ = _
            omega
          go_wp2
          rw [hf.out]
          go_ret2
          exact ⟨rfl, HB.out⟩
        · have hp : 0 < k := by omega
          obtain ⟨d, ed, d0, d1, hI2, hle2⟩ := hI.out.2.down hp (by rw [EL.out]; omega)
          obtain ⟨g, rfl, hg⟩ := (HR.out.step HB.out).at (by rw [EL.out]; omega)
          have cg := hg (k - 1) (by rw [EL.out]; omega)
          rw [ed] at cg
          have HN2 : Hid (N * 10000 + d = ((X * 10000 + d.toNat : Nat) : Int) ∧ IntAt x (k - 1) (X * 10000 + d.toNat)) := ⟨by have := hI.out.1; omega, hI2⟩
          have b1 : 0 ≤ N * 10000 + d := by omega
          have b2 : N * 10000 + d ≤ 9223372036854775807 := by have := hI.out.1; have := HZ.out; omega
          clear hg ed hI2 hle2 hI
          go_wp2
          go_round
          case rel => exact ⟨k - 1, _, N * 10000 + d, by omega, by go_num, by go_num, b1, b2, HN2⟩
          case measure => simp [RowKit.intOf]; omega
end Go.Proofs.YtjbkjeabobccaabGreatDoor
