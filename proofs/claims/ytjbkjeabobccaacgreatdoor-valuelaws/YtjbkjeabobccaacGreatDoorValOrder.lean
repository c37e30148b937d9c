import Derived.Test.YtjbkjeabobccaacGreatDoorValROrder
namespace Go.Proofs.YtjbkjeabobccaacGreatDoor
open Go.RowKit Go.Sort Go.Lib
set_option linter.unusedVariables false

theorem key2v {w X w9 : World} (h1 : Below w.heap.size w X) (h2 : Below X.heap.size X w9) : Below w.heap.size w w9 := h1.trans (h2.mono h1.size)
structure Cp (T C : ByteArray) : Prop where
  sz : T.size ≤ maxLen
  e : C = ⟨(T.data.toList.map cap).toArray⟩
theorem cap_cp (T C : ByteArray) (h : Cp T C) (w : World) : Calls Tryz.prog 14 #[.string T] w fun e w' => e = .returned (.string C) ∧ Below w.heap.size w w' := by
  have := capitals_any T w h.sz
  rw [← h.e] at this
  exact this

set_option maxHeartbeats 4000000 in
set_option maxRecDepth 100000 in
theorem order_cn (k1 n1 : Int) (t1 : ByteArray) (k2 n2 : Int) (t2 : ByteArray) (K1 N1 : Int) (T1 : ByteArray) (K2 N2 : Int) (T2 : ByteArray) (h1 : Cn k1 n1 t1 K1 N1 T1) (h2 : Cn k2 n2 t2 K2 N2 T2) (w : World) :
    Calls Tryz.prog 5 #[.agg #[.int .i64 k1, .int .i64 n1, .string t1], .agg #[.int .i64 k2, .int .i64 n2, .string t2]] w fun e w' => e = .returned (.int .i64 (ordI K1 N1 T1 K2 N2 T2)) ∧ Below w.heap.size w w' := by
  have cc := hidv counted_cn
  have H1 := hidv h1
  have H2 := hidv h2
  have hz1 : T1.size ≤ maxLen := by have := cnt_size k1 n1 t1 h1.e; unfold maxLen; omega
  have hz2 : T2.size ≤ maxLen := by have := cnt_size k2 n2 t2 h2.e; unfold maxLen; omega
  have HZ := hidv (And.intro hz1 hz2)
  clear h1 h2 hz1 hz2
  obtain ⟨R, eR⟩ : ∃ R, ordI K1 N1 T1 K2 N2 T2 = R := ⟨_, rfl⟩
  rw [eR]
  have HR := hidv eR
  clear eR
  go_enter Tryz.func5, Tryz.ntmps5
  go_upto_region 1 with fail
  go_cut [] from 5 (fun wx => Hid (TwoB w wx 24 (.int .i64 K1) (.int .i64 N1) (.string T1) (.int .i64 K2) (.int .i64 N2) (.string T2)))
  case first =>
    have HX := hidv (twoB_new w 24 (.int .i64 k1) (.int .i64 n1) (.string t1) (.int .i64 k2) (.int .i64 n2) (.string t2) (((w.alloc (.cells #[.int .i64 k1, .int .i64 n1, .string t1] 24)).alloc (.cells #[.int .i64 k2, .int .i64 n2, .string t2] 24)).drew) rfl (by go_grown))
    obtain ⟨⟨x0, x1, x2⟩, ⟨x3, x4, x5⟩, ⟨x6, x7, x8⟩, x9, xx, xy⟩ := HX.out.cells
    go_region_with (first | (go_at_call 11; refine (cc.out _ _ _ _ _ _ (by exact H1.out) _).mono ?_; rintro e w1 ⟨rfl, hb1⟩; have HT1 := hidv (HX.out.step hb1); obtain ⟨⟨c0, c1, c2⟩, ⟨c3, c4, c5⟩, ⟨c6, c7, c8⟩, c9, cx, cy⟩ := HT1.out.cells; clear hb1) | (go_at_call 11; refine (cc.out _ _ _ _ _ _ (by exact H2.out) _).mono ?_; rintro e w2 ⟨rfl, hb2⟩; have HT2 := hidv (HT1.out.step hb2); obtain ⟨⟨d0, d1, d2⟩, ⟨d3, d4, d5⟩, ⟨d6, d7, d8⟩, d9, dx, dy⟩ := HT2.out.cells; clear hb2))
    all_goals
      go_wp2_with fail
      go_meet
      exact hidv ((HT2.out.seta _ _ _).setb _ _ _)
  case rest =>
  obtain ⟨⟨p0, p1, p2⟩, ⟨p3, p4, p5⟩, ⟨p6, p7, p8⟩, p9, px, py⟩ := hcut.out.cells
  have HB := hidv hcut.out.low
  have HS := hidv (fun x => hcut.out.low.setCell (p := ⟨w.heap.size, 0, none⟩) (Nat.le_refl _) x)
  have HS2 := hidv (fun x => hcut.out.low.setCell (p := ⟨w.heap.size + 1, 0, none⟩) (by simp) x)
  have HS3 := hidv (fun x y => (hcut.out.low.setCell (p := ⟨w.heap.size, 0, none⟩) (Nat.le_refl _) x).setCell (p := ⟨w.heap.size + 1, 0, none⟩) (by simp) y)
  have hzz : w.heap.size + 1 < wc.heap.size := lt_blk hcut.out.b
  have HC := hcut
  clear hcut H1 H2 cc
  by_cases gK14 : K1 = 4
  · subst gK14
    have HV : Hid (R = 0) := by show _ = _; rw [← HR.out]; simp [ordI]
    go_wp2_with fail
    go_ret
    exact ⟨by rw [HV.out]; rfl, by first | exact HB.out | exact HS.out _ | exact HS2.out _ | exact HS3.out _ _⟩
  by_cases gK24 : K2 = 4
  · subst gK24
    have HV : Hid (R = 0) := by show _ = _; rw [← HR.out]; simp [ordI]
    have qK14 : (K1 == 4) = false := by simpa using gK14
    clear gK14
    go_wp2_with fail
    go_ret
    exact ⟨by rw [HV.out]; rfl, by first | exact HB.out | exact HS.out _ | exact HS2.out _ | exact HS3.out _ _⟩
  have qK14 : (K1 == 4) = false := by simpa using gK14
  have qK24 : (K2 == 4) = false := by simpa using gK24
  by_cases gK10 : K1 = 0
  · subst gK10
    by_cases gK22 : K2 = 2
    · subst gK22
      have HV : Hid (R = ordT T1 T2) := by show _ = _; rw [← HR.out]; simp [ordI]
      clear gK14 gK24
      obtain ⟨C1, E1⟩ : ∃ C1 : ByteArray, C1 = ⟨(T1.data.toList.map cap).toArray⟩ := ⟨_, rfl⟩
      obtain ⟨C2, E2⟩ : ∃ C2 : ByteArray, C2 = ⟨(T2.data.toList.map cap).toArray⟩ := ⟨_, rfl⟩
      have D1 := hidv (Cp.mk HZ.out.1 E1)
      have D2 := hidv (Cp.mk HZ.out.2 E2)
      have cp := hidv cap_cp
      have cs := hidv (fun w => Tryz.strings_Compare C1 C2 w)
      have HO : Hid (Lib.compareBytes C1.data.toList C2.data.toList = R) := by show _ = _; rw [HV.out, E1, E2]; rfl
      clear E1 E2
      have sA : ∀ v, (wc.setCell ⟨w.heap.size, 0, none⟩ v).cell? ⟨w.heap.size, 2, none⟩ = some (.string T1) := fun v => by rw [World.cell?_setCell_other _ _ _ _ (by simp)]; exact p2
      have sB : ∀ v, (wc.setCell ⟨w.heap.size, 0, none⟩ v).cell? ⟨w.heap.size + 1, 2, none⟩ = some (.string T2) := fun v => by rw [World.cell?_setCell_other _ _ _ _ (by simp)]; exact p5
      have sC : ∀ v, (wc.setCell ⟨w.heap.size + 1, 0, none⟩ v).cell? ⟨w.heap.size, 2, none⟩ = some (.string T1) := fun v => by rw [World.cell?_setCell_other _ _ _ _ (by simp)]; exact p2
      have sD : ∀ v, (wc.setCell ⟨w.heap.size + 1, 0, none⟩ v).cell? ⟨w.heap.size + 1, 2, none⟩ = some (.string T2) := fun v => by rw [World.cell?_setCell_other _ _ _ _ (by simp)]; exact p5
      go_wp2_with fail
      go_region_held2 (fun w' => w'.cell? ⟨w.heap.size, 2, none⟩ = some (.string T1) ∧ w'.cell? ⟨w.heap.size + 1, 2, none⟩ = some (.string T2)) (go_keep)
        (first
          | (go_at_call 14; refine (cp.out _ _ (by exact D1.out) _).mono ?_; rintro e w5 ⟨rfl, hb5⟩; have k5 : ∀ o, w5.cell? ⟨w.heap.size, o, none⟩ = _ := (fun o => hb5.cell (p := ⟨w.heap.size, o, none⟩) (by first | omega | (simp <;> omega))); have j5 : ∀ o, w5.cell? ⟨w.heap.size + 1, o, none⟩ = _ := (fun o => hb5.cell (p := ⟨w.heap.size + 1, o, none⟩) (by first | omega | (simp <;> omega))); have z5 : w.heap.size + 1 < w5.heap.size := Nat.lt_of_lt_of_le (by first | omega | (simp <;> omega)) hb5.size; have B5 := hidv (key2v (by first | exact HB.out.drew | exact (HS.out _).drew | exact (HS2.out _).drew) hb5); clear hb5)
          | (go_at_call 14; refine (cp.out _ _ (by exact D2.out) _).mono ?_; rintro e w6 ⟨rfl, hb6⟩; have k6 : ∀ o, w6.cell? ⟨w.heap.size, o, none⟩ = _ := (fun o => hb6.cell (p := ⟨w.heap.size, o, none⟩) (by first | omega | (simp <;> omega))); have j6 : ∀ o, w6.cell? ⟨w.heap.size + 1, o, none⟩ = _ := (fun o => hb6.cell (p := ⟨w.heap.size + 1, o, none⟩) (by first | omega | (simp <;> omega))); have B6 := hidv (key2v B5.out hb6); clear hb6)
          | (go_at_call 13; refine (cs.out _).mono ?_; rintro e w' ⟨rfl, rfl⟩))
      go_wp2_with fail
      go_ret
      exact ⟨by rw [← HO.out]; rfl, B6.out⟩
    have qK22 : (K2 == 2) = false := by simpa using gK22
    have HV : Hid (R = Lib.compareInt N1 N2) := by show _ = _; rw [← HR.out]; simp [ordI, gK24, gK22]
    have ci := hidv (fun w => Tryz.cmp_Compare_int N1 N2 w)
    by_cases gK20 : K2 = 0
    · subst gK20
      clear gK14 gK24 gK22
      go_wp2_with fail
      refine (ci.out _).mono ?_
      rintro e w' ⟨rfl, rfl⟩
      go_wp2_with fail
      go_ret
      exact ⟨by rw [HV.out]; rfl, by first | exact HB.out | exact HS.out _ | exact HS2.out _ | exact HS3.out _ _⟩
    · have qK20 : (K2 == 0) = false := by simpa using gK20
      clear gK14 gK24 gK22 gK20
      go_wp2_with fail
      refine (ci.out _).mono ?_
      rintro e w' ⟨rfl, rfl⟩
      go_wp2_with fail
      go_ret
      exact ⟨by rw [HV.out]; rfl, by first | exact HB.out | exact HS.out _ | exact HS2.out _ | exact HS3.out _ _⟩
  have qK10 : (K1 == 0) = false := by simpa using gK10
  by_cases gK20 : K2 = 0
  · subst gK20
    by_cases gK12 : K1 = 2
    · subst gK12
      have HV : Hid (R = ordT T1 T2) := by show _ = _; rw [← HR.out]; simp [ordI]
      clear gK14 gK24 gK10
      obtain ⟨C1, E1⟩ : ∃ C1 : ByteArray, C1 = ⟨(T1.data.toList.map cap).toArray⟩ := ⟨_, rfl⟩
      obtain ⟨C2, E2⟩ : ∃ C2 : ByteArray, C2 = ⟨(T2.data.toList.map cap).toArray⟩ := ⟨_, rfl⟩
      have D1 := hidv (Cp.mk HZ.out.1 E1)
      have D2 := hidv (Cp.mk HZ.out.2 E2)
      have cp := hidv cap_cp
      have cs := hidv (fun w => Tryz.strings_Compare C1 C2 w)
      have HO : Hid (Lib.compareBytes C1.data.toList C2.data.toList = R) := by show _ = _; rw [HV.out, E1, E2]; rfl
      clear E1 E2
      have sA : ∀ v, (wc.setCell ⟨w.heap.size, 0, none⟩ v).cell? ⟨w.heap.size, 2, none⟩ = some (.string T1) := fun v => by rw [World.cell?_setCell_other _ _ _ _ (by simp)]; exact p2
      have sB : ∀ v, (wc.setCell ⟨w.heap.size, 0, none⟩ v).cell? ⟨w.heap.size + 1, 2, none⟩ = some (.string T2) := fun v => by rw [World.cell?_setCell_other _ _ _ _ (by simp)]; exact p5
      have sC : ∀ v, (wc.setCell ⟨w.heap.size + 1, 0, none⟩ v).cell? ⟨w.heap.size, 2, none⟩ = some (.string T1) := fun v => by rw [World.cell?_setCell_other _ _ _ _ (by simp)]; exact p2
      have sD : ∀ v, (wc.setCell ⟨w.heap.size + 1, 0, none⟩ v).cell? ⟨w.heap.size + 1, 2, none⟩ = some (.string T2) := fun v => by rw [World.cell?_setCell_other _ _ _ _ (by simp)]; exact p5
      go_wp2_with fail
      go_region_held2 (fun w' => w'.cell? ⟨w.heap.size, 2, none⟩ = some (.string T1) ∧ w'.cell? ⟨w.heap.size + 1, 2, none⟩ = some (.string T2)) (go_keep)
        (first
          | (go_at_call 14; refine (cp.out _ _ (by exact D1.out) _).mono ?_; rintro e w5 ⟨rfl, hb5⟩; have k5 : ∀ o, w5.cell? ⟨w.heap.size, o, none⟩ = _ := (fun o => hb5.cell (p := ⟨w.heap.size, o, none⟩) (by first | omega | (simp <;> omega))); have j5 : ∀ o, w5.cell? ⟨w.heap.size + 1, o, none⟩ = _ := (fun o => hb5.cell (p := ⟨w.heap.size + 1, o, none⟩) (by first | omega | (simp <;> omega))); have z5 : w.heap.size + 1 < w5.heap.size := Nat.lt_of_lt_of_le (by first | omega | (simp <;> omega)) hb5.size; have B5 := hidv (key2v (by first | exact HB.out.drew | exact (HS.out _).drew | exact (HS2.out _).drew) hb5); clear hb5)
          | (go_at_call 14; refine (cp.out _ _ (by exact D2.out) _).mono ?_; rintro e w6 ⟨rfl, hb6⟩; have k6 : ∀ o, w6.cell? ⟨w.heap.size, o, none⟩ = _ := (fun o => hb6.cell (p := ⟨w.heap.size, o, none⟩) (by first | omega | (simp <;> omega))); have j6 : ∀ o, w6.cell? ⟨w.heap.size + 1, o, none⟩ = _ := (fun o => hb6.cell (p := ⟨w.heap.size + 1, o, none⟩) (by first | omega | (simp <;> omega))); have B6 := hidv (key2v B5.out hb6); clear hb6)
          | (go_at_call 13; refine (cs.out _).mono ?_; rintro e w' ⟨rfl, rfl⟩))
      go_wp2_with fail
      go_ret
      exact ⟨by rw [← HO.out]; rfl, B6.out⟩
    · have qK12 : (K1 == 2) = false := by simpa using gK12
      have HV : Hid (R = Lib.compareInt N1 N2) := by show _ = _; rw [← HR.out]; simp [ordI, gK14, gK10, gK12]
      have ci := hidv (fun w => Tryz.cmp_Compare_int N1 N2 w)
      clear gK14 gK24 gK10 gK12
      go_wp2_with fail
      refine (ci.out _).mono ?_
      rintro e w' ⟨rfl, rfl⟩
      go_wp2_with fail
      go_ret
      exact ⟨by rw [HV.out]; rfl, by first | exact HB.out | exact HS.out _ | exact HS2.out _ | exact HS3.out _ _⟩
  have qK20 : (K2 == 0) = false := by simpa using gK20
  by_cases gE : K1 = K2
  · subst gE
    by_cases gK12 : K1 = 2
    · subst gK12
      have HV : Hid (R = ordT T1 T2) := by show _ = _; rw [← HR.out]; simp [ordI]
      clear gK14 gK24 gK10 gK20
      obtain ⟨C1, E1⟩ : ∃ C1 : ByteArray, C1 = ⟨(T1.data.toList.map cap).toArray⟩ := ⟨_, rfl⟩
      obtain ⟨C2, E2⟩ : ∃ C2 : ByteArray, C2 = ⟨(T2.data.toList.map cap).toArray⟩ := ⟨_, rfl⟩
      have D1 := hidv (Cp.mk HZ.out.1 E1)
      have D2 := hidv (Cp.mk HZ.out.2 E2)
      have cp := hidv cap_cp
      have cs := hidv (fun w => Tryz.strings_Compare C1 C2 w)
      have HO : Hid (Lib.compareBytes C1.data.toList C2.data.toList = R) := by show _ = _; rw [HV.out, E1, E2]; rfl
      clear E1 E2
      have sA : ∀ v, (wc.setCell ⟨w.heap.size, 0, none⟩ v).cell? ⟨w.heap.size, 2, none⟩ = some (.string T1) := fun v => by rw [World.cell?_setCell_other _ _ _ _ (by simp)]; exact p2
      have sB : ∀ v, (wc.setCell ⟨w.heap.size, 0, none⟩ v).cell? ⟨w.heap.size + 1, 2, none⟩ = some (.string T2) := fun v => by rw [World.cell?_setCell_other _ _ _ _ (by simp)]; exact p5
      have sC : ∀ v, (wc.setCell ⟨w.heap.size + 1, 0, none⟩ v).cell? ⟨w.heap.size, 2, none⟩ = some (.string T1) := fun v => by rw [World.cell?_setCell_other _ _ _ _ (by simp)]; exact p2
      have sD : ∀ v, (wc.setCell ⟨w.heap.size + 1, 0, none⟩ v).cell? ⟨w.heap.size + 1, 2, none⟩ = some (.string T2) := fun v => by rw [World.cell?_setCell_other _ _ _ _ (by simp)]; exact p5
      go_wp2_with fail
      go_region_held2 (fun w' => w'.cell? ⟨w.heap.size, 2, none⟩ = some (.string T1) ∧ w'.cell? ⟨w.heap.size + 1, 2, none⟩ = some (.string T2)) (go_keep)
        (first
          | (go_at_call 14; refine (cp.out _ _ (by exact D1.out) _).mono ?_; rintro e w5 ⟨rfl, hb5⟩; have k5 : ∀ o, w5.cell? ⟨w.heap.size, o, none⟩ = _ := (fun o => hb5.cell (p := ⟨w.heap.size, o, none⟩) (by first | omega | (simp <;> omega))); have j5 : ∀ o, w5.cell? ⟨w.heap.size + 1, o, none⟩ = _ := (fun o => hb5.cell (p := ⟨w.heap.size + 1, o, none⟩) (by first | omega | (simp <;> omega))); have z5 : w.heap.size + 1 < w5.heap.size := Nat.lt_of_lt_of_le (by first | omega | (simp <;> omega)) hb5.size; have B5 := hidv (key2v (by first | exact HB.out.drew | exact (HS.out _).drew | exact (HS2.out _).drew) hb5); clear hb5)
          | (go_at_call 14; refine (cp.out _ _ (by exact D2.out) _).mono ?_; rintro e w6 ⟨rfl, hb6⟩; have k6 : ∀ o, w6.cell? ⟨w.heap.size, o, none⟩ = _ := (fun o => hb6.cell (p := ⟨w.heap.size, o, none⟩) (by first | omega | (simp <;> omega))); have j6 : ∀ o, w6.cell? ⟨w.heap.size + 1, o, none⟩ = _ := (fun o => hb6.cell (p := ⟨w.heap.size + 1, o, none⟩) (by first | omega | (simp <;> omega))); have B6 := hidv (key2v B5.out hb6); clear hb6)
          | (go_at_call 13; refine (cs.out _).mono ?_; rintro e w' ⟨rfl, rfl⟩))
      go_wp2_with fail
      go_ret
      exact ⟨by rw [← HO.out]; rfl, B6.out⟩
    · have qK12 : (K1 == 2) = false := by simpa using gK12
      have HV : Hid (R = Lib.compareInt N1 N2) := by show _ = _; rw [← HR.out]; simp [ordI, gK14, gK10, gK12]
      have ci := hidv (fun w => Tryz.cmp_Compare_int N1 N2 w)
      clear gK14 gK24 gK10 gK12 gK20
      go_wp2_with fail
      refine (ci.out _).mono ?_
      rintro e w' ⟨rfl, rfl⟩
      go_wp2_with fail
      go_ret
      exact ⟨by rw [HV.out]; rfl, by first | exact HB.out | exact HS.out _ | exact HS2.out _ | exact HS3.out _ _⟩
  · have qE : (K1 != K2) = true := by simpa using gE
    have HV : Hid (R = Lib.compareInt K1 K2) := by show _ = _; rw [← HR.out]; simp [ordI, gK14, gK24, gK10, gK20, gE]
    have ci := hidv (fun w => Tryz.cmp_Compare_int K1 K2 w)
    clear gK14 gK24 gK10 gK20 gE
    go_wp2_with fail
    refine (ci.out _).mono ?_
    rintro e w' ⟨rfl, rfl⟩
    go_wp2_with fail
    go_ret
    exact ⟨by rw [HV.out]; rfl, by first | exact HB.out | exact HS.out _ | exact HS2.out _ | exact HS3.out _ _⟩
end Go.Proofs.YtjbkjeabobccaacGreatDoor
