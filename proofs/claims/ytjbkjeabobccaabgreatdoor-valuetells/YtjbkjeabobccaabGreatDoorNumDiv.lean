import Derived.Test.YtjbkjeabobccaabGreatDoorRows
import Derived.Test.YtjbkjeabobccaabGreatDoorShelf
import Derived.Test.YtjbkjeabobccaabGreatDoorNumMath
import Derived.WalkKit
import Derived.WalkSpells
import Derived.WalkLawsBesides
import Derived.Outline
import Derived.Deep.QuietTactic
import Derived.BigQuiet
namespace Go.Proofs.YtjbkjeabobccaabGreatDoor
open Go.RowKit

set_option maxHeartbeats 400000 in
theorem div64_zero (lo y : Nat) (w : World) (hy : 0 < y) (hy' : y < 18446744073709551616) (hlo : lo < 18446744073709551616) :
    Calls Tryz.prog 125 #[.int .u64 0, .int .u64 lo, .int .u64 y] w fun e w' => e = .returned (.tuple #[.int .u64 ((lo / y : Nat) : Int), .int .u64 ((lo % y : Nat) : Int)]) ∧ ∃ n, w' = w.drewN n := by
  have h0 : ((y : Int) == 0) = false := by simp; omega
  have h1 : (0 : Int) < y := by omega
  go_enter Tryz.func125, Tryz.ntmps125
  go_wp2
  go_quiet (fail)
  go_wp2
  go_ret2
  refine ⟨?_, _, rfl⟩
  have e : IntKind.u64.wrap ((lo : Int) / (y : Int)) = ((lo / y : Nat) : Int) := by
    have := Nat.div_le_self lo y
    rw [IntKind.wrap_u64, ← Int.natCast_ediv]
    generalize lo / y = q at *
    omega
  rw [← e]
  rfl

set_option maxRecDepth 100000 in
set_option maxHeartbeats 1000000 in
theorem div64_big (hi lo y : Nat) (w : World) (hhi : 0 < hi) (hy : hi < y) (hy' : y < 18446744073709551616) (hlo : lo < 18446744073709551616) :
    Calls Tryz.prog 125 #[.int .u64 hi, .int .u64 lo, .int .u64 y] w fun e w' => e = .returned (.tuple #[.int .u64 (((hi * 18446744073709551616 + lo) / y : Nat) : Int), .int .u64 (((hi * 18446744073709551616 + lo) % y : Nat) : Int)]) ∧ ∃ n, w' = w.drewN n := by
  have h0 : ((y : Int) == 0) = false := by simp; omega
  have h1 : ((hi : Int) == 0) = false := by simp; omega
  have h2 : ¬ ((y : Int) ≤ hi) := by omega
  obtain ⟨sN, es, hs, hn, hn'⟩ := M.shift_bd y (by omega) hy'
  obtain ⟨s, Hs⟩ : ∃ s : Int, Hid (s = (sN : Int)) := ⟨_, rfl⟩
  have cs : ∀ w, Calls Tryz.prog 141 #[.int .u64 y] w fun e w' => e = .returned (.int .i64 s) ∧ w' = w := by
    intro w
    have := Tryz.bits_LeadingZeros64 y w (by omega) (by omega)
    rw [Int.toNat_natCast, es, ← Hs.out] at this
    exact this
  have Hcs : Hid (∀ w, Calls Tryz.prog 141 #[.int .u64 y] w fun e w' => e = .returned (.int .i64 s) ∧ w' = w) := cs
  clear cs
  have hs0 : 0 ≤ s := by rw [Hs.out]; omega
  have hs63 : s ≤ 63 := by rw [Hs.out]; omega
  have rs : IntKind.u64.wrap s = s := by rw [IntKind.wrap_u64]; omega
  have rm : min s.toNat 64 = s.toNat := by omega
  obtain ⟨n1, n2, n3, n4⟩ := M.digits_of hi lo y sN hs hn' hy hlo
  have two := M.two_digits _ sN y _ _ _ n4 (by omega)
  have t1 : s.toNat = sN := by rw [Hs.out]; simp
  have t2 : (64 - s).toNat = 64 - sN := by rw [Hs.out]; omega
  obtain ⟨YN, eY⟩ : ∃ YN, y * 2 ^ sN = YN := ⟨_, rfl⟩
  obtain ⟨uN, eu⟩ : ∃ uN, hi * 2 ^ sN + lo / 2 ^ (64 - sN) = uN := ⟨_, rfl⟩
  obtain ⟨LN, eL⟩ : ∃ LN, lo * 2 ^ sN % 18446744073709551616 = LN := ⟨_, rfl⟩
  have hL : LN < 18446744073709551616 := by rw [← eL]; exact Nat.mod_lt _ (by decide)
  have rY : IntKind.u64.wrap ((y : Int) * 2 ^ s.toNat) = (YN : Int) := by
    rw [t1, M.cast_shl, M.wrap_nat _ hn', eY]
  have rU : bits BinOp.or IntKind.u64 (IntKind.u64.wrap ((hi : Int) * 2 ^ s.toNat)) ((lo : Int) / 2 ^ (64 - s).toNat) = (uN : Int) := by
    have hlo2 := Nat.div_le_self lo (2 ^ (64 - sN))
    rw [t1, t2, M.cast_shl, M.wrap_nat _ n3, M.cast_shr, bits_or_u64_nat _ _ n3 (Nat.lt_of_le_of_lt hlo2 hlo), M.or_of _ _ _ n1, eu]
  have rL : IntKind.u64.wrap ((lo : Int) * 2 ^ s.toNat) = (LN : Int) := by
    rw [t1, M.cast_shl, IntKind.wrap_u64, ← eL]
    rfl
  rw [eY, eu, eL] at two
  rw [eY] at hn hn'
  rw [eu, eY] at n2
  clear n1 n3 n4 eY eu eL t1 t2 es
  obtain ⟨Y, HY⟩ : ∃ Y : Int, Hid (Y = (YN : Int)) := ⟨_, rfl⟩
  obtain ⟨u, HU⟩ : ∃ Y : Int, Hid (Y = (uN : Int)) := ⟨_, rfl⟩
  obtain ⟨L, HL⟩ : ∃ Y : Int, Hid (Y = (LN : Int)) := ⟨_, rfl⟩
  rw [← HY.out] at rY
  rw [← HU.out] at rU
  rw [← HL.out] at rL
  obtain ⟨y1, rY1⟩ : ∃ y1, Y / 4294967296 = y1 := ⟨_, rfl⟩
  have rY0' := Mul64.maskN YN hn'
  have rL0' := Mul64.maskN LN hL
  rw [← HY.out] at rY0'
  rw [← HL.out] at rL0'
  obtain ⟨y0, ey0⟩ : ∃ y0 : Int, ((YN % 4294967296 : Nat) : Int) = y0 := ⟨_, rfl⟩
  obtain ⟨d0, ed0⟩ : ∃ y0 : Int, ((LN % 4294967296 : Nat) : Int) = y0 := ⟨_, rfl⟩
  rw [ey0] at rY0'
  rw [ed0] at rL0'
  obtain ⟨d1, rL1⟩ : ∃ y1, L / 4294967296 = y1 := ⟨_, rfl⟩
  have eYY : Y = (YN : Int) := HY.out
  have eUU : u = (uN : Int) := HU.out
  have eLL : L = (LN : Int) := HL.out
  have hy1 : 2147483648 ≤ y1 := by omega
  have hy1' : y1 < 4294967296 := by omega
  have hy0 : 0 ≤ y0 := by omega
  have hy0' : y0 < 4294967296 := by omega
  have hd1 : 0 ≤ d1 := by omega
  have hd1' : d1 < 4294967296 := by omega
  have hd0 : 0 ≤ d0 := by omega
  have hd0' : d0 < 4294967296 := by omega
  have hu : 0 ≤ u := by omega
  have huY : u < y1 * 4294967296 + y0 := by omega
  have G1 := M.GI.start hy1 hy1' hy0 hy0' hd1 hd1' hu huY
  obtain ⟨q, rq⟩ : ∃ v', IntKind.u64.wrap (u.tdiv y1) = v' := ⟨_, rfl⟩
  obtain ⟨r, rr⟩ : ∃ v', IntKind.u64.wrap (u - IntKind.u64.wrap (q * y1)) = v' := ⟨_, rfl⟩
  have qr1 := M.start_wrap hu (by omega) (by omega) rq rr
  have hG : Hid (M.GI u d1 y1 y0 q r ∧ r < 4294967296) := by
    rw [qr1.1, qr1.2]
    exact ⟨G1, by have := Int.emod_lt_of_pos u (show 0 < y1 by omega); omega⟩
  have e1 : d1 = ((LN / 4294967296 : Nat) : Int) := by omega
  have e0 : d0 = ((LN % 4294967296 : Nat) : Int) := by omega
  have hYY : y1 * 4294967296 + y0 = (YN : Int) := by omega
  have b1 : LN / 4294967296 < 4294967296 := by omega
  have b0 : LN % 4294967296 < 4294967296 := by omega
  have k1 := M.dig_bd n2 b1
  obtain ⟨D, HD⟩ : ∃ D : Int, Hid (D = M.dig u d1 y1 y0) := ⟨_, rfl⟩
  have eD : D = (((uN * 4294967296 + LN / 4294967296) / YN : Nat) : Int) := by
    rw [HD.out]
    exact M.dig_eq eUU e1 hYY (by omega) hy0
  have ev := M.rest_wrap eUU e1 eYY eD hn' (by omega)
  have vlt := Nat.mod_lt (uN * 4294967296 + LN / 4294967296) (show 0 < YN by omega)
  obtain ⟨vN, evN⟩ : ∃ vN, (uN * 4294967296 + LN / 4294967296) % YN = vN := ⟨_, rfl⟩
  obtain ⟨DN, eDN⟩ : ∃ DN, (uN * 4294967296 + LN / 4294967296) / YN = DN := ⟨_, rfl⟩
  rw [evN, eDN] at two
  rw [evN] at ev vlt
  rw [eDN] at eD k1
  obtain ⟨v, rv⟩ : ∃ v, IntKind.u64.wrap (IntKind.u64.wrap (IntKind.u64.wrap (u * 4294967296) + d1) - IntKind.u64.wrap (D * Y)) = v := ⟨_, rfl⟩
  rw [rv] at ev
  have k2 := M.dig_bd vlt b0
  obtain ⟨D2, HD2⟩ : ∃ D : Int, Hid (D = M.dig v d0 y1 y0) := ⟨_, rfl⟩
  have eD2 : D2 = (((vN * 4294967296 + LN % 4294967296) / YN : Nat) : Int) := by
    rw [HD2.out]
    exact M.dig_eq ev e0 hYY (by omega) hy0
  have eB := M.rest_wrap ev e0 eYY eD2 hn' (by omega)
  obtain ⟨B, rB⟩ : ∃ B : Int, IntKind.u64.wrap (IntKind.u64.wrap (IntKind.u64.wrap (v * 4294967296) + d0) - IntKind.u64.wrap (D2 * Y)) = B := ⟨_, rfl⟩
  rw [rB] at eB
  have hD0 : 0 ≤ D := by omega
  have hD1 : D < 4294967296 := by omega
  have hD20 : 0 ≤ D2 := by rw [eD2]; exact Int.natCast_nonneg _
  have hD21 : D2 < 4294967296 := by rw [eD2]; exact Int.ofNat_lt.2 k2
  have fin : D * 4294967296 + D2 = (((hi * 18446744073709551616 + lo) / y : Nat) : Int) ∧ B / 2 ^ s.toNat = (((hi * 18446744073709551616 + lo) % y : Nat) : Int) := by
    refine ⟨?_, ?_⟩
    · rw [← two.1, eD, eD2, Int.natCast_add, Int.natCast_mul]
      rfl
    · have ts : s.toNat = sN := by rw [Hs.out]; simp
      rw [← two.2, eB, ts, M.cast_shr]
  rw [← fin.1, ← fin.2]
  obtain ⟨q2, rq2⟩ : ∃ v', IntKind.u64.wrap (v.tdiv y1) = v' := ⟨_, rfl⟩
  obtain ⟨r2, rr2⟩ : ∃ v', IntKind.u64.wrap (v - IntKind.u64.wrap (q2 * y1)) = v' := ⟨_, rfl⟩
  have hv : 0 ≤ v := by omega
  have hvY : v < y1 * 4294967296 + y0 := by omega
  have qr2 := M.start_wrap hv (by omega) (by omega) rq2 rr2
  have G2 := M.GI.start hy1 hy1' hy0 hy0' hd0 hd0' hv hvY
  have hG2 : Hid (M.GI v d0 y1 y0 q2 r2 ∧ r2 < 4294967296) := by
    rw [qr2.1, qr2.2]
    exact ⟨G2, by have := Int.emod_lt_of_pos v (show 0 < y1 by omega); omega⟩
  clear fin two eD eD2 ev eB G1 G2 qr1 qr2 e1 e0 hYY b1 b0 k1 k2 vlt evN eDN eYY eUU eLL ey0 ed0 n2 hn hn' hL huY hvY HY HU HL hs
  go_enter Tryz.func125, Tryz.ntmps125
  go_wp2_with (go_at_call 141; refine (Hcs.out _).mono ?_; rintro e w' ⟨rfl, rfl⟩)
  go_loop [15, 16] (fun a b => ∃ qn rn : Int, a = .int .u64 qn ∧ b = .int .u64 rn ∧ M.GI u d1 y1 y0 qn rn ∧ rn < 4294967296) (fun a _ => (intOf a).toNat)
  case atStart => exact ⟨q, r, rfl, rfl, hG.out⟩
  case round =>
    obtain ⟨qn, rn, rfl, rfl, hg, hrn⟩ := hrel
    obtain ⟨b0, b1, b2⟩ := hg.bd
    have HG : Hid (M.GI u d1 y1 y0 qn rn) := hg
    clear hg
    by_cases hc : 4294967296 ≤ qn
    · obtain ⟨g1, g2⟩ := HG.out.step (.inl hc)
      have HG2 : Hid (M.GI u d1 y1 y0 (qn - 1) (rn + y1)) := g2
      clear g2
      by_cases hr : 4294967296 ≤ rn + y1
      · have e : qn - 1 = D := by rw [HD.out]; exact HG2.out.done2 (by omega) hr
        go_wp2
        go_loop [18, 16] (fun a b => ∃ qn rn : Int, a = .int .u64 qn ∧ b = .int .u64 rn ∧ M.GI v d0 y1 y0 qn rn ∧ rn < 4294967296) (fun a _ => (intOf a).toNat)
        case atStart => exact ⟨q2, r2, rfl, rfl, hG2.out⟩
        case round =>
          obtain ⟨qn, rn, rfl, rfl, hg, hrn⟩ := hrel
          obtain ⟨b0, b1, b2⟩ := hg.bd
          have HG : Hid (M.GI v d0 y1 y0 qn rn) := hg
          clear hg hG hG2
          by_cases hc : 4294967296 ≤ qn
          · obtain ⟨g1, g2⟩ := HG.out.step (.inl hc)
            have HG2 : Hid (M.GI v d0 y1 y0 (qn - 1) (rn + y1)) := g2
            clear g2
            by_cases hr : 4294967296 ≤ rn + y1
            · have e : qn - 1 = D2 := by rw [HD2.out]; exact HG2.out.done2 (by omega) hr
              go_wp2
              go_ret2
              exact ⟨rfl, 0, rfl⟩
            · go_wp2
              go_round
              case rel => exact ⟨qn - 1, rn + y1, rfl, rfl, HG2.out, by omega⟩
              case measure => simp [intOf]; omega
          · obtain ⟨pr, hpr⟩ : ∃ pr, qn * y0 = pr := ⟨_, rfl⟩
            have hp := M.prod_bd b0 (by omega) hy0 hy0' hpr
            obtain ⟨hp0, hp1⟩ := hp
            by_cases hc2 : 4294967296 * rn + d0 < pr
            · obtain ⟨g1, g2⟩ := HG.out.step (.inr (by rw [hpr]; exact hc2))
              have HG2 : Hid (M.GI v d0 y1 y0 (qn - 1) (rn + y1)) := g2
              clear g2
              by_cases hr : 4294967296 ≤ rn + y1
              · have e : qn - 1 = D2 := by rw [HD2.out]; exact HG2.out.done2 (by omega) hr
                go_wp2
                go_ret2
                exact ⟨rfl, 0, rfl⟩
              · go_wp2
                go_round
                case rel => exact ⟨qn - 1, rn + y1, rfl, rfl, HG2.out, by omega⟩
                case measure => simp [intOf]; omega
            · have e : qn = D2 := by rw [HD2.out]; exact HG.out.done (by rw [hpr]; exact hc2)
              subst e
              go_wp2
              go_ret2
              exact ⟨rfl, 0, rfl⟩
      · go_wp2
        go_round
        case rel => exact ⟨qn - 1, rn + y1, rfl, rfl, HG2.out, by omega⟩
        case measure => simp [intOf]; omega
    · obtain ⟨pr, hpr⟩ : ∃ pr, qn * y0 = pr := ⟨_, rfl⟩
      have hp := M.prod_bd b0 (by omega) hy0 hy0' hpr
      obtain ⟨hp0, hp1⟩ := hp
      by_cases hc2 : 4294967296 * rn + d1 < pr
      · obtain ⟨g1, g2⟩ := HG.out.step (.inr (by rw [hpr]; exact hc2))
        have HG2 : Hid (M.GI u d1 y1 y0 (qn - 1) (rn + y1)) := g2
        clear g2
        by_cases hr : 4294967296 ≤ rn + y1
        · have e : qn - 1 = D := by rw [HD.out]; exact HG2.out.done2 (by omega) hr
          go_wp2
          go_loop [18, 16] (fun a b => ∃ qn rn : Int, a = .int .u64 qn ∧ b = .int .u64 rn ∧ M.GI v d0 y1 y0 qn rn ∧ rn < 4294967296) (fun a _ => (intOf a).toNat)
          case atStart => exact ⟨q2, r2, rfl, rfl, hG2.out⟩
          case round =>
            obtain ⟨qn, rn, rfl, rfl, hg, hrn⟩ := hrel
            obtain ⟨b0, b1, b2⟩ := hg.bd
            have HG : Hid (M.GI v d0 y1 y0 qn rn) := hg
            clear hg hG hG2
            by_cases hc : 4294967296 ≤ qn
            · obtain ⟨g1, g2⟩ := HG.out.step (.inl hc)
              have HG2 : Hid (M.GI v d0 y1 y0 (qn - 1) (rn + y1)) := g2
              clear g2
              by_cases hr : 4294967296 ≤ rn + y1
              · have e : qn - 1 = D2 := by rw [HD2.out]; exact HG2.out.done2 (by omega) hr
                go_wp2
                go_ret2
                exact ⟨rfl, 0, rfl⟩
              · go_wp2
                go_round
                case rel => exact ⟨qn - 1, rn + y1, rfl, rfl, HG2.out, by omega⟩
                case measure => simp [intOf]; omega
            · obtain ⟨pr, hpr⟩ : ∃ pr, qn * y0 = pr := ⟨_, rfl⟩
              have hp := M.prod_bd b0 (by omega) hy0 hy0' hpr
              obtain ⟨hp0, hp1⟩ := hp
              by_cases hc2 : 4294967296 * rn + d0 < pr
              · obtain ⟨g1, g2⟩ := HG.out.step (.inr (by rw [hpr]; exact hc2))
                have HG2 : Hid (M.GI v d0 y1 y0 (qn - 1) (rn + y1)) := g2
                clear g2
                by_cases hr : 4294967296 ≤ rn + y1
                · have e : qn - 1 = D2 := by rw [HD2.out]; exact HG2.out.done2 (by omega) hr
                  go_wp2
                  go_ret2
                  exact ⟨rfl, 0, rfl⟩
                · go_wp2
                  go_round
                  case rel => exact ⟨qn - 1, rn + y1, rfl, rfl, HG2.out, by omega⟩
                  case measure => simp [intOf]; omega
              · have e : qn = D2 := by rw [HD2.out]; exact HG.out.done (by rw [hpr]; exact hc2)
                subst e
                go_wp2
                go_ret2
                exact ⟨rfl, 0, rfl⟩
        · go_wp2
          go_round
          case rel => exact ⟨qn - 1, rn + y1, rfl, rfl, HG2.out, by omega⟩
          case measure => simp [intOf]; omega
      · have e : qn = D := by rw [HD.out]; exact HG.out.done (by rw [hpr]; exact hc2)
        subst e
        go_wp2
        go_loop [18, 16] (fun a b => ∃ qn rn : Int, a = .int .u64 qn ∧ b = .int .u64 rn ∧ M.GI v d0 y1 y0 qn rn ∧ rn < 4294967296) (fun a _ => (intOf a).toNat)
        case atStart => exact ⟨q2, r2, rfl, rfl, hG2.out⟩
        case round =>
          obtain ⟨qn, rn, rfl, rfl, hg, hrn⟩ := hrel
          obtain ⟨b0, b1, b2⟩ := hg.bd
          have HG : Hid (M.GI v d0 y1 y0 qn rn) := hg
          clear hg hG hG2
          by_cases hc : 4294967296 ≤ qn
          · obtain ⟨g1, g2⟩ := HG.out.step (.inl hc)
            have HG2 : Hid (M.GI v d0 y1 y0 (qn - 1) (rn + y1)) := g2
            clear g2
            by_cases hr : 4294967296 ≤ rn + y1
            · have e : qn - 1 = D2 := by rw [HD2.out]; exact HG2.out.done2 (by omega) hr
              go_wp2
              go_ret2
              exact ⟨rfl, 0, rfl⟩
            · go_wp2
              go_round
              case rel => exact ⟨qn - 1, rn + y1, rfl, rfl, HG2.out, by omega⟩
              case measure => simp [intOf]; omega
          · obtain ⟨pr, hpr⟩ : ∃ pr, qn * y0 = pr := ⟨_, rfl⟩
            have hp := M.prod_bd b0 (by omega) hy0 hy0' hpr
            obtain ⟨hp0, hp1⟩ := hp
            by_cases hc2 : 4294967296 * rn + d0 < pr
            · obtain ⟨g1, g2⟩ := HG.out.step (.inr (by rw [hpr]; exact hc2))
              have HG2 : Hid (M.GI v d0 y1 y0 (qn - 1) (rn + y1)) := g2
              clear g2
              by_cases hr : 4294967296 ≤ rn + y1
              · have e : qn - 1 = D2 := by rw [HD2.out]; exact HG2.out.done2 (by omega) hr
                go_wp2
                go_ret2
                exact ⟨rfl, 0, rfl⟩
              · go_wp2
                go_round
                case rel => exact ⟨qn - 1, rn + y1, rfl, rfl, HG2.out, by omega⟩
                case measure => simp [intOf]; omega
            · have e : qn = D2 := by rw [HD2.out]; exact HG.out.done (by rw [hpr]; exact hc2)
              subst e
              go_wp2
              go_ret2
              exact ⟨rfl, 0, rfl⟩
end Go.Proofs.YtjbkjeabobccaabGreatDoor
