import Derived.Test.YtjbkjeabobccaabGreatDoorNumBig1
namespace Go.Proofs.YtjbkjeabobccaabGreatDoor
open Go.RowKit
set_option linter.unusedVariables false

theorem split_at {l : List Int} {m : Nat} (h : m < l.length) : l = l.take m ++ (l.getD m 0 :: l.drop (m + 1)) := by
  have e : l.getD m 0 = l[m] := by rw [List.getD_eq_getElem?_getD, List.getElem?_eq_getElem h]; rfl
  rw [e, ← List.drop_eq_getElem_cons h, List.take_append_drop]
theorem okD_take {l : List Int} (h : okD l) (m : Nat) : okD (l.take m) := fun d hd => h d (List.mem_of_mem_take hd)
theorem lt_digits {l m : List Int} {k : Nat} (hl : okD l) (hm : okD m) (he : l.length = m.length) (hk : k < l.length) (hd : l.drop (k + 1) = m.drop (k + 1)) (hlt : l.getD k 0 < m.getD k 0) : valD l < valD m := by
  rw [split_at hk, split_at (l := m) (m := k) (by omega), valD_append, valD_append, valD, valD, hd]
  have t1 := valD_lt _ (okD_take hl k)
  have t2 := valD_nonneg _ (okD_take hm k)
  rw [List.length_take_of_le (by omega)] at t1
  rw [List.length_take_of_le (by omega), List.length_take_of_le (by omega)]
  have hp : (0 : Int) < 10000 ^ k := Int.pow_pos (by omega)
  have : (10000 : Int) ^ k * (l.getD k 0 + 10000 * valD (m.drop (k + 1))) + 10000 ^ k ≤ 10000 ^ k * (m.getD k 0 + 10000 * valD (m.drop (k + 1))) := by
    have h2 : (10000 : Int) ^ k * (l.getD k 0 + 1 + 10000 * valD (m.drop (k + 1))) ≤ 10000 ^ k * (m.getD k 0 + 10000 * valD (m.drop (k + 1))) := Int.mul_le_mul_of_nonneg_left (by omega) (by omega)
    have h3 : (10000 : Int) ^ k * (l.getD k 0 + 1 + 10000 * valD (m.drop (k + 1))) = 10000 ^ k * (l.getD k 0 + 10000 * valD (m.drop (k + 1))) + 10000 ^ k := by
      rw [show l.getD k 0 + 1 + 10000 * valD (m.drop (k + 1)) = (l.getD k 0 + 10000 * valD (m.drop (k + 1))) + 1 by omega, Int.mul_add, Int.mul_one]
    omega
  omega
theorem repr_lt {x y k : Nat} (he : (repr x).length = (repr y).length) (hk : k < (repr x).length) (hd : (repr x).drop (k + 1) = (repr y).drop (k + 1)) (hlt : (repr x).getD k 0 < (repr y).getD k 0) : x < y := by
  have := lt_digits (repr_ok x).1 (repr_ok y).1 he hk hd hlt
  rw [(repr_ok x).2, (repr_ok y).2] at this
  omega
theorem repr_inj {x y : Nat} (h : repr x = repr y) : x = y := by
  have := (repr_ok x).2
  rw [h, (repr_ok y).2] at this
  omega

def cmpN (x y : Nat) : Int := if x < y then -1 else if y < x then 1 else 0
theorem RowIs.drewN {w : World} {a : Option Addr} {cap : Nat} {ds : List Int} (h : RowIs w a cap ds) (n : Nat) : RowIs (w.drewN n) a cap ds :=
  ⟨h.le, h.lid, fun j hj => by
    obtain ⟨g, h1, h2⟩ := h.cells j hj
    exact ⟨g, h1, by rw [World.cell?_drewN]; exact h2⟩⟩

set_option maxHeartbeats 2000000 in
theorem order_any (w : World) (a b : Option Addr) (ca cb x y : Nat) (ha : RowIs w a ca (repr x)) (hb : RowIs w b cb (repr y)) :
    Calls Tryz.prog 101 #[.slice a (repr x).length ca, .slice b (repr y).length cb] w fun e w' => e = .returned (.int .i64 (cmpN x y)) ∧ ∃ n, w' = w.drewN n := by
  have A1 := ha.le
  have A2 := ha.lid
  have B1 := hb.le
  have B2 := hb.lid
  unfold maxLen at A2 B2
  have HA : Hid (RowIs w a ca (repr x)) := ha
  have HB : Hid (RowIs w b cb (repr y)) := hb
  clear ha hb
  obtain ⟨la, ea⟩ : ∃ l, (repr x).length = l := ⟨_, rfl⟩
  obtain ⟨lb, eb⟩ : ∃ l, (repr y).length = l := ⟨_, rfl⟩
  rw [ea] at A1 ⊢
  rw [eb] at B1 ⊢
  have EA : Hid ((repr x).length = la) := ea
  have EB : Hid ((repr y).length = lb) := eb
  clear ea eb
  by_cases h1 : la < lb
  · have hc : cmpN x y = -1 := if_pos (repr_len_lt (by rw [EA.out, EB.out]; exact h1))
    rw [hc]
    go_enter Tryz.func101, Tryz.ntmps101
    go_wp2
    go_ret
    exact ⟨rfl, 0, by simp [World.drewN_zero]⟩
  · by_cases h2 : lb < la
    · have hlt : y < x := repr_len_lt (by rw [EA.out, EB.out]; exact h2)
      have hc : cmpN x y = 1 := by unfold cmpN; rw [if_neg (by omega), if_pos hlt]
      rw [hc]
      clear hlt
      go_enter Tryz.func101, Tryz.ntmps101
      go_wp2
      go_ret
      exact ⟨rfl, 0, by simp [World.drewN_zero]⟩
    · obtain rfl : lb = la := by omega
      clear h1 h2
      go_enter Tryz.func101, Tryz.ntmps101
      go_wp2
      go_loopw [5] (fun i wr => ∃ k n : Nat, k ≤ lb ∧ i = .int .i64 ((k : Int) - 1) ∧ Hid ((repr x).drop k = (repr y).drop k) ∧ wr = w.drewN n) (fun i _ => (RowKit.intOf i + 1).toNat)
      case atStart => exact ⟨lb, 0, Nat.le_refl _, rfl, by show _ = _; rw [List.drop_eq_nil_of_le (by rw [EA.out]; omega), List.drop_eq_nil_of_le (by rw [EB.out]; omega)], by simp [World.drewN_zero]⟩
      case round =>
        obtain ⟨k, n, hk, rfl, hd, rfl⟩ := hrel
        by_cases h0 : k = 0
        · subst h0
          have hc : Hid (cmpN x y = 0) := by
            show _ = _
            obtain rfl : x = y := repr_inj (by simpa using hd.out)
            unfold cmpN; simp
          go_wp2
          rw [hc.out]
          go_ret
          exact ⟨rfl, n, rfl⟩
        · have hp : 0 < k := by omega
          obtain ⟨g, rfl, hg⟩ := HA.out.at (by rw [EA.out]; omega)
          obtain ⟨f, rfl, hf⟩ := HB.out.at (by rw [EB.out]; omega)
          have cg := hg (k - 1) (by rw [EA.out]; omega)
          have cf := hf (k - 1) (by rw [EB.out]; omega)
          clear hg hf
          have S1 : Hid ((repr x).getD (k - 1) 0 < (repr y).getD (k - 1) 0 → x < y) := fun h => repr_lt (k := k - 1) (by rw [EA.out, EB.out]) (by rw [EA.out]; omega) (by rw [show k - 1 + 1 = k by omega]; exact hd.out) h
          have S2 : Hid ((repr y).getD (k - 1) 0 < (repr x).getD (k - 1) 0 → y < x) := fun h => repr_lt (k := k - 1) (by rw [EA.out, EB.out]) (by rw [EB.out]; omega) (by rw [show k - 1 + 1 = k by omega]; exact hd.out.symm) h
          have S3 : Hid ((repr x).getD (k - 1) 0 = (repr y).getD (k - 1) 0 → (repr x).drop (k - 1) = (repr y).drop (k - 1)) := fun h => by
            have e1 := split_at (l := (repr x)) (m := k - 1) (by rw [EA.out]; omega)
            rw [List.drop_eq_getElem_cons (l := repr x) (i := k - 1) (by rw [EA.out]; omega), List.drop_eq_getElem_cons (l := repr y) (i := k - 1) (by rw [EB.out]; omega), show k - 1 + 1 = k by omega, hd.out]
            rw [List.getD_eq_getElem?_getD, List.getD_eq_getElem?_getD, List.getElem?_eq_getElem (by rw [EA.out]; omega), List.getElem?_eq_getElem (by rw [EB.out]; omega)] at h
            simpa using h
          obtain ⟨u, eu⟩ : ∃ u, (repr x).getD (k - 1) 0 = u := ⟨_, rfl⟩
          obtain ⟨v, ev⟩ : ∃ v, (repr y).getD (k - 1) 0 = v := ⟨_, rfl⟩
          rw [eu] at cg S1 S2 S3
          rw [ev] at cf S1 S2 S3
          clear eu ev
          rcases Int.lt_trichotomy u v with h | h | h
          · have hc : Hid (cmpN x y = -1) := if_pos (S1.out h)
            have hne : (u != v) = true := by simp; omega
            go_wp2_with fail
            go_region
            go_wp2_with fail
            go_region
            go_wp2_with fail
            rw [hc.out]
            go_ret
            exact ⟨rfl, _, rfl⟩
          · subst h
            have hn := S3.out rfl
            have HN : Hid ((repr x).drop (k - 1) = (repr y).drop (k - 1)) := hn
            clear hn
            go_wp2_with fail
            go_region
            go_wp2_with fail
            go_roundw
            case rel => exact ⟨k - 1, _, by omega, by go_num, HN, rfl⟩
            case measure => simp [RowKit.intOf]; omega
          · have hc : Hid (cmpN x y = 1) := by show _ = _; unfold cmpN; rw [if_neg (by have := S2.out h; omega), if_pos (S2.out h)]
            have hne : (u != v) = true := by simp; omega
            go_wp2_with fail
            go_region
            go_wp2_with fail
            go_region
            go_wp2_with fail
            rw [hc.out]
            go_ret
            exact ⟨rfl, _, rfl⟩
end Go.Proofs.YtjbkjeabobccaabGreatDoor
