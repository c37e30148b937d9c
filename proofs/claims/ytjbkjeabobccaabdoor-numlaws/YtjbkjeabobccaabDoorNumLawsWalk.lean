import Derived.Test.YtjbkjeabobccaabDoorNumLawsMath
import Derived.Deep.CutRange
namespace Go.Proofs.YtjbkjeabobccaabDoor
open Go.RowKit Go.Sort Go.Lib

set_option maxHeartbeats 4000000 in
set_option maxRecDepth 100000 in
theorem numLaws_walk (a b d : Int) (w : World) (hE : Env w) (ha : -9223372036854775808 ≤ a) (ha' : a ≤ 9223372036854775807) (hb : -9223372036854775808 ≤ b) (hb' : b ≤ 9223372036854775807) :
    Calls Tryd.prog 3 #[.int .i64 a, .int .i64 b, .int .i64 d] w fun e w' => e = .returned (.bool true) ∧ Below w.heap.size w w' := by
  have ca0 := fun w => add_any a b w ha' hb'
  have cb0 := fun w => add_any b a w hb' ha'
  have cm0 := fun w => mul_any a b w ha' hb'
  have cn0 := fun w => mul_any b a w hb' ha'
  have cd0 := fun w => mod_any a b w ha' hb'
  have cr0 := fun w => round_any a d w ha'
  have cf0 := fun w => floor_any a w ha' ha
  have co0 := fun w => mul_any a 1000000 w ha' (by omega)
  rw [addR_comm b a] at cb0
  rw [mulR_comm b a] at cn0
  have tA := addR_two a b
  have tM := modR_cases a b
  have tR := roundR_two a d ha'
  have tF := floorR_two a
  have tO : a = -9223372036854775808 ∨ (-9223372036854775807 ≤ a ∧ mulR a 1000000 = (a, 0)) := by
    by_cases h : -9223372036854775807 ≤ a
    · exact .inr ⟨h, mulR_one a h ha'⟩
    · exact .inl (by omega)
  have cs0 : ∀ X, addR a b = (X, 0) → ∀ w, Calls Tryd.prog 7 #[.int .i64 X, .int .i64 b] w fun e w' => e = .returned (.tuple #[.int .i64 a, .int .i64 0]) ∧ w' = w := fun X hX w => by
    rcases tA with h | ⟨h, h1, h2, h3, h4⟩
    · rw [h] at hX; simp at hX
    · rw [h] at hX
      obtain rfl : a + b = X := by simpa using hX
      have := sub_any (a + b) b w h3 hb' (by omega) hb
      rw [subR_back a b h1 h2 ha' h4] at this
      exact this
  have cq0 : ∀ s, roundR a d = (s, 0) → ∀ w, Calls Tryd.prog 9 #[.int .i64 s, .int .i64 d] w fun e w' => e = .returned (.tuple #[.int .i64 s, .int .i64 0]) ∧ ∃ n, w' = w.drewN n := fun s hs w => by
    rcases tR with h | ⟨s', h, h1, h2, h3⟩
    · rw [h] at hs; simp at hs
    · rw [h] at hs
      obtain rfl : s' = s := by simpa using hs
      have := round_any s' d w h3
      rw [h1] at this
      exact this
  have tA' : (addR a b).2 = 0 ∨ (addR a b).2 = 6 := by rcases tA with h | ⟨h, _⟩ <;> rw [h] <;> simp
  have tR' : (roundR a d).2 = 0 ∨ (roundR a d).2 = 6 := by rcases tR with h | ⟨_, h, _⟩ <;> rw [h] <;> simp
  obtain ⟨⟨X, E⟩, eA⟩ : ∃ r, addR a b = r := ⟨_, rfl⟩
  obtain ⟨⟨P, G⟩, eM⟩ : ∃ r, mulR a b = r := ⟨_, rfl⟩
  obtain ⟨⟨r, j⟩, eD⟩ : ∃ r, modR a b = r := ⟨_, rfl⟩
  obtain ⟨⟨s, k⟩, eR⟩ : ∃ r, roundR a d = r := ⟨_, rfl⟩
  obtain ⟨⟨u, m⟩, eF⟩ : ∃ r, floorR a = r := ⟨_, rfl⟩
  obtain ⟨⟨o, q⟩, eO⟩ : ∃ r, mulR a 1000000 = r := ⟨_, rfl⟩
  rw [eA] at ca0 cb0 tA' cs0
  rw [eM] at cm0 cn0
  rw [eD] at cd0 tM
  rw [eR] at cr0 tR' cq0
  rw [eF] at cf0 tF
  rw [eO] at co0 tO
  simp only at tA' tR'
  have ca : Hid (∀ w, _) := ca0
  have cb : Hid (∀ w, _) := cb0
  have cm : Hid (∀ w, _) := cm0
  have cn : Hid (∀ w, _) := cn0
  have cd : Hid (∀ w, _) := cd0
  have cr : Hid (∀ w, _) := cr0
  have cf : Hid (∀ w, _) := cf0
  have co : Hid (∀ w, _) := co0
  have cs : Hid (E = 0 → ∀ w, Calls Tryd.prog 7 #[.int .i64 X, .int .i64 b] w fun e w' => e = .returned (.tuple #[.int .i64 a, .int .i64 0]) ∧ w' = w) := fun h => cs0 X (by rw [h])
  have cq : Hid (k = 0 → ∀ w, Calls Tryd.prog 9 #[.int .i64 s, .int .i64 d] w fun e w' => e = .returned (.tuple #[.int .i64 s, .int .i64 0]) ∧ ∃ n, w' = w.drewN n) := fun h => cq0 s (by rw [h])
  have hM := Lib.hid tM
  have hA := Lib.hid tA'
  have hR := Lib.hid tR'
  have hF := Lib.hid tF
  have hO := Lib.hid tO
  clear ca0 cb0 cm0 cn0 cd0 cr0 cf0 co0 cs0 cq0 tA tM tR tF tO tA' tR' eA eM eD eR eF eO
  go_enter Tryd.func3, Tryd.ntmps3
  go_wp2_with fail
  refine (ca.out _).mono ?_
  rintro e w' ⟨rfl, rfl⟩
  go_wp2_with fail
  refine (cb.out _).mono ?_
  rintro e w' ⟨rfl, rfl⟩
  go_wp2_with fail
  refine (cm.out _).mono ?_
  rintro e w' ⟨rfl, n1, rfl⟩
  go_wp2_with fail
  refine (cn.out _).mono ?_
  rintro e w' ⟨rfl, n2, rfl⟩
  go_upto_if 71 with (go_at_call 6; go_in)
  go_cut [] from 27 (fun wx => Below w'.heap.size w' wx)
  case first =>
    rcases hA.out with h | h
    · have cs1 : Hid (∀ w, _) := cs.out h
      subst h
      go_wp2_with (first | (go_at_call 6; go_in) | (go_at_call 7; refine (cs1.out _).mono ?_; rintro e w' ⟨rfl, rfl⟩))
      go_meet
      case rel => exact bl _ _
    · subst h
      go_wp2_with fail
      go_meet
      case rel => exact bl _ _
  case rest =>
  go_wp2_with fail
  refine (cd.out _).mono ?_
  rintro e w1 ⟨rfl, rfl⟩
  go_upto_region 12 with fail
  go_cut [124] from 27 (fun s wx => s = .bool false ∧ Below w'.heap.size w' wx)
  case first =>
    rcases hM.out with h | h | ⟨r', h, h' | h'⟩
    · obtain ⟨rfl, rfl⟩ : r = 0 ∧ j = 6 := by simpa using h
      go_wp2_with (go_at_call 6; go_in)
      go_meet
      case rel => exact ⟨rfl, hcut⟩
    · obtain ⟨rfl, rfl⟩ : r = 0 ∧ j = 7 := by simpa using h
      go_wp2_with (go_at_call 6; go_in)
      go_meet
      case rel => exact ⟨rfl, hcut⟩
    · obtain ⟨rfl, rfl⟩ : r = r' ∧ j = 0 := by simpa using h
      obtain ⟨g1, g2, g3⟩ := h'
      have g0 : (b == 0) = false := by simp; omega
      have g4 : decide (b < 0) = false := by simp; omega
      clear h
      go_wp2_with (go_at_call 6; go_in)
      all_goals (go_meet; exact ⟨congrArg Value.bool (by simp; omega), hcut⟩)
    · obtain ⟨rfl, rfl⟩ : r = r' ∧ j = 0 := by simpa using h
      obtain ⟨g1, g2, g3⟩ := h'
      have g0 : (b == 0) = false := by simp; omega
      have g4 : decide (0 < b) = false := by simp; omega
      clear h
      go_wp2_with (go_at_call 6; go_in)
      all_goals (go_meet; exact ⟨congrArg Value.bool (by simp; omega), hcut⟩)
  case rest =>
  obtain ⟨rfl, hcut2⟩ := hcut
  go_wp2_with fail
  refine (cr.out _).mono ?_
  rintro e w2 ⟨rfl, n3, rfl⟩
  go_upto_if 133 with (go_at_call 6; go_in)
  go_cut [] from 27 (fun wx => Below w'.heap.size w' wx)
  case first =>
    rcases hR.out with h | h
    · have cq1 : Hid (∀ w, _) := cq.out h
      subst h
      go_wp2_with (first | (go_at_call 6; go_in) | (go_at_call 9; refine (cq1.out _).mono ?_; rintro e w4 ⟨rfl, n4, rfl⟩))
      go_meet
      case rel => exact hcut2.trans ((bl _ _).mono hcut2.size)
    · subst h
      go_wp2_with fail
      go_meet
      case rel => exact hcut2.trans ((bl _ _).mono hcut2.size)
  case rest =>
  go_wp2_with fail
  refine (cf.out _).mono ?_
  rintro e w3 ⟨rfl, rfl⟩
  go_upto_region 20 with fail
  go_cut [171] from 27 (fun s wx => s = .bool false ∧ Below w'.heap.size w' wx)
  case first =>
    rcases hF.out with h | ⟨u', h, g1, g2, g3, g4⟩
    · obtain ⟨rfl, rfl⟩ : u = 0 ∧ m = 6 := by simpa using h
      go_wp2_with (go_at_call 6; go_in)
      go_meet
      case rel => exact ⟨rfl, hcut⟩
    · obtain ⟨rfl, rfl⟩ : u = u' ∧ m = 0 := by simpa using h
      have g5 : decide (a < u) = false := by simp; omega
      have g6 : ¬ (1000000 ≤ a - u) := by omega
      clear h
      go_wp2_with (go_at_call 6; go_in)
      all_goals (go_meet; exact ⟨congrArg Value.bool (by simp), hcut⟩)
  case rest =>
  obtain ⟨rfl, hcut3⟩ := hcut
  go_wp2_with fail
  refine (co.out _).mono ?_
  rintro e w4 ⟨rfl, n5, rfl⟩
  have hb5 : Below w'.heap.size w' (wc.drewN n5) := hcut3.trans ((bl _ _).mono hcut3.size)
  have al : Hid (∀ w'', Below w'.heap.size w' w'' → Calls Tryd.prog 11 #[] w'' fun e w3 => e = .returned (.bool true) ∧ Below w'.heap.size w' w3) := fun w'' hb => by
    refine (alive_any w'' (hE.step hb)).mono ?_
    rintro e w3 ⟨rfl, hb3⟩
    exact ⟨rfl, hb.trans (hb3.mono hb.size)⟩
  rcases hO.out with h | ⟨h1, h2⟩
  · have g1 : (a == -9223372036854775808) = true := by simpa using h
    clear h
    go_wp2_with (go_at_call 11; refine (al.out _ hb5).mono ?_; rintro e w5 ⟨rfl, hb6⟩)
    go_ret
    exact ⟨rfl, hb6⟩
  · obtain ⟨rfl, rfl⟩ : o = a ∧ q = 0 := by simpa using h2
    have g1 : (o == -9223372036854775808) = false := by simp; omega
    clear h2
    go_wp2_with (first | (go_at_call 6; go_in) | (go_at_call 11; refine (al.out _ hb5).mono ?_; rintro e w5 ⟨rfl, hb6⟩))
    go_ret
    exact ⟨rfl, hb6⟩
end Go.Proofs.YtjbkjeabobccaabDoor
