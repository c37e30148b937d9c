import Derived.Shelf.Bits.Mul64
import Derived.Lib.ItoaNum
import Derived.WalkKit
namespace Go.Proofs.YtjbkjeabobccaabGreatDoor.M
/-! Two words divided by one, in halves of words: plain numbers, no program. -/
theorem two_halves {q y1 y0 : Nat} : q * (y1 * 4294967296 + y0) = q * y1 * 4294967296 + q * y0 := by
  rw [Nat.mul_add, Nat.mul_assoc]

/-- What holds of a digit's guess q and its rest r at the loop's head. -/
structure Guess (u d y1 y0 q r : Nat) : Prop where
  hy1 : 2147483648 ≤ y1
  hy1' : y1 < 4294967296
  hy0 : y0 < 4294967296
  hd : d < 4294967296
  hu : u < y1 * 4294967296 + y0
  sum : q * y1 + r = u
  ge : (u * 4294967296 + d) / (y1 * 4294967296 + y0) ≤ q
  le : q ≤ 4294967297

theorem Guess.start {u d y1 y0 : Nat} (hy1 : 2147483648 ≤ y1) (hy1' : y1 < 4294967296) (hy0 : y0 < 4294967296) (hd : d < 4294967296) (hu : u < y1 * 4294967296 + y0) :
    Guess u d y1 y0 (u / y1) (u % y1) := by
  refine ⟨hy1, hy1', hy0, hd, hu, ?_, ?_, ?_⟩
  · rw [Nat.mul_comm]; exact Nat.div_add_mod u y1
  · rw [Nat.le_div_iff_mul_le (by omega)]
    have h : (u * 4294967296 + d) / (y1 * 4294967296 + y0) * (y1 * 4294967296 + y0) ≤ u * 4294967296 + d := Nat.div_mul_le_self _ _
    generalize (u * 4294967296 + d) / (y1 * 4294967296 + y0) = Q at h ⊢
    rw [two_halves] at h
    generalize Q * y1 = A at h ⊢
    generalize Q * y0 = B at h
    omega
  · have : u / y1 < 4294967298 := by
      rw [Nat.div_lt_iff_lt_mul (by omega)]
      omega
    omega

theorem Guess.top {u d y1 y0 q r : Nat} (h : Guess u d y1 y0 q r) : (u * 4294967296 + d) / (y1 * 4294967296 + y0) < 4294967296 := by
  have := h.hy1; have := h.hd; have := h.hu
  rw [Nat.div_lt_iff_lt_mul (by omega)]
  omega

theorem Guess.pos_of {u d y1 y0 q r : Nat} (h : Guess u d y1 y0 q r) (hc : 4294967296 ≤ q ∨ 4294967296 * r + d < q * y0) :
    (u * 4294967296 + d) / (y1 * 4294967296 + y0) < q := by
  rcases hc with hc | hc
  · exact Nat.lt_of_lt_of_le h.top hc
  · have := h.hy1
    rw [Nat.div_lt_iff_lt_mul (by omega), two_halves]
    have hs := h.sum
    generalize q * y1 = A at hs ⊢
    generalize q * y0 = B at hc ⊢
    omega

theorem Guess.step {u d y1 y0 q r : Nat} (h : Guess u d y1 y0 q r) (hc : 4294967296 ≤ q ∨ 4294967296 * r + d < q * y0) :
    1 ≤ q ∧ Guess u d y1 y0 (q - 1) (r + y1) := by
  have hp := h.pos_of hc
  have hq : 1 ≤ q := Nat.lt_of_le_of_lt (Nat.zero_le _) hp
  refine ⟨hq, h.hy1, h.hy1', h.hy0, h.hd, h.hu, ?_, Nat.le_sub_one_of_lt hp, by have := h.le; omega⟩
  have hs := h.sum
  obtain ⟨k, rfl⟩ : ∃ k, q = k + 1 := ⟨q - 1, by omega⟩
  rw [Nat.add_sub_cancel, ← hs, Nat.succ_mul]
  omega

theorem Guess.done {u d y1 y0 q r : Nat} (h : Guess u d y1 y0 q r) (hc : q * y0 ≤ 4294967296 * r + d) :
    q = (u * 4294967296 + d) / (y1 * 4294967296 + y0) := by
  refine Nat.le_antisymm ?_ h.ge
  have := h.hy1
  rw [Nat.le_div_iff_mul_le (by omega), two_halves]
  have hs := h.sum
  generalize q * y1 = A at hs ⊢
  generalize q * y0 = B at hc ⊢
  omega

theorem Guess.done2 {u d y1 y0 q r : Nat} (h : Guess u d y1 y0 q r) (hq : q ≤ 4294967296) (hr : 4294967296 ≤ r) :
    q = (u * 4294967296 + d) / (y1 * 4294967296 + y0) := by
  refine h.done ?_
  have h0 := h.hy0
  have h1 : q * y0 ≤ 4294967296 * y0 := Nat.mul_le_mul_right _ hq
  omega

/-- The whole: two digits, one behind the other. -/
theorem two_digits (N s y u d1 d0 : Nat) (hN : N * 2 ^ s = (u * 4294967296 + d1) * 4294967296 + d0) (hy : 0 < y) :
    (u * 4294967296 + d1) / (y * 2 ^ s) * 4294967296 + ((u * 4294967296 + d1) % (y * 2 ^ s) * 4294967296 + d0) / (y * 2 ^ s) = N / y ∧
    ((u * 4294967296 + d1) % (y * 2 ^ s) * 4294967296 + d0) % (y * 2 ^ s) / 2 ^ s = N % y := by
  have hs : 0 < 2 ^ s := Nat.two_pow_pos s
  have hY : 0 < y * 2 ^ s := Nat.mul_pos hy hs
  have e1 : N * 2 ^ s / (y * 2 ^ s) = N / y := Nat.mul_div_mul_right _ _ hs
  have e2 : N * 2 ^ s % (y * 2 ^ s) = N % y * 2 ^ s := Nat.mul_mod_mul_right _ _ _
  have hv := Nat.div_add_mod (u * 4294967296 + d1) (y * 2 ^ s)
  have hq : (u * 4294967296 + d1) * 4294967296 + d0 = (u * 4294967296 + d1) % (y * 2 ^ s) * 4294967296 + d0 + y * 2 ^ s * ((u * 4294967296 + d1) / (y * 2 ^ s) * 4294967296) := by
    conv => lhs; rw [← hv]
    rw [Nat.add_mul, Nat.mul_assoc]
    generalize y * 2 ^ s * ((u * 4294967296 + d1) / (y * 2 ^ s) * 4294967296) = A
    generalize (u * 4294967296 + d1) % (y * 2 ^ s) * 4294967296 = B
    omega
  constructor
  · rw [← e1, hN, hq, Nat.add_mul_div_left _ _ hY, Nat.add_comm]
  · have : ((u * 4294967296 + d1) % (y * 2 ^ s) * 4294967296 + d0) % (y * 2 ^ s) = N % y * 2 ^ s := by
      rw [← e2, hN, hq, Nat.add_mul_mod_self_left]
    rw [this, Nat.mul_div_cancel _ hs]

/-- The same of Int's numbers, as the walk writes them. -/
def GI (u d y1 y0 q r : Int) : Prop := ∃ u' d' y1' y0' q' r' : Nat, u = u' ∧ d = d' ∧ y1 = y1' ∧ y0 = y0' ∧ q = q' ∧ r = r' ∧ Guess u' d' y1' y0' q' r'
theorem cast_cond {q y0 r d : Nat} (h : (4294967296 : Int) * r + d < q * y0) : 4294967296 * r + d < q * y0 := by
  rw [← Int.natCast_mul] at h
  generalize q * y0 = B at *
  omega
theorem cast_cond' {q y0 r d : Nat} (h : ¬ (4294967296 : Int) * r + d < q * y0) : q * y0 ≤ 4294967296 * r + d := by
  rw [← Int.natCast_mul] at h
  generalize q * y0 = B at *
  omega
theorem GI.bd {u d y1 y0 q r : Int} (h : GI u d y1 y0 q r) : 0 ≤ q ∧ q ≤ 4294967297 ∧ 0 ≤ r := by
  obtain ⟨u', d', y1', y0', q', r', rfl, rfl, rfl, rfl, rfl, rfl, g⟩ := h
  have := g.le
  exact ⟨by omega, by omega, by omega⟩
theorem GI.step {u d y1 y0 q r : Int} (h : GI u d y1 y0 q r) (hc : 4294967296 ≤ q ∨ 4294967296 * r + d < q * y0) : 1 ≤ q ∧ GI u d y1 y0 (q - 1) (r + y1) := by
  obtain ⟨u', d', y1', y0', q', r', rfl, rfl, rfl, rfl, rfl, rfl, g⟩ := h
  have hc' : 4294967296 ≤ q' ∨ 4294967296 * r' + d' < q' * y0' := by
    rcases hc with hc | hc
    · exact .inl (by omega)
    · exact .inr (cast_cond hc)
  obtain ⟨h1, g2⟩ := g.step hc'
  exact ⟨by omega, u', d', y1', y0', q' - 1, r' + y1', rfl, rfl, rfl, rfl, by omega, by omega, g2⟩
theorem prod_bd {q y p : Int} (h0 : 0 ≤ q) (h1 : q < 4294967296) (h2 : 0 ≤ y) (h3 : y < 4294967296) (h : q * y = p) : 0 ≤ p ∧ p < 18446744073709551616 := by
  subst h
  refine ⟨Int.mul_nonneg h0 h2, ?_⟩
  have := Int.mul_le_mul (show q ≤ 4294967295 by omega) (show y ≤ 4294967295 by omega) h2 (by omega)
  omega
/-- The digit. -/
def dig (u d y1 y0 : Int) : Int := (((u.toNat * 4294967296 + d.toNat) / (y1.toNat * 4294967296 + y0.toNat) : Nat) : Int)
theorem GI.done {u d y1 y0 q r : Int} (h : GI u d y1 y0 q r) (hc : ¬ 4294967296 * r + d < q * y0) : q = dig u d y1 y0 := by
  obtain ⟨u', d', y1', y0', q', r', rfl, rfl, rfl, rfl, rfl, rfl, g⟩ := h
  exact congrArg Int.ofNat (g.done (cast_cond' hc))
theorem GI.done2 {u d y1 y0 q r : Int} (h : GI u d y1 y0 q r) (hq : q ≤ 4294967296) (hr : 4294967296 ≤ r) : q = dig u d y1 y0 := by
  obtain ⟨u', d', y1', y0', q', r', rfl, rfl, rfl, rfl, rfl, rfl, g⟩ := h
  exact congrArg Int.ofNat (g.done2 (by omega) (by omega))
theorem GI.start {u d y1 y0 : Int} (hy1 : 2147483648 ≤ y1) (hy1' : y1 < 4294967296) (h0 : 0 ≤ y0) (hy0 : y0 < 4294967296) (hd0 : 0 ≤ d) (hd : d < 4294967296) (hu0 : 0 ≤ u) (hu : u < y1 * 4294967296 + y0) :
    GI u d y1 y0 (u / y1) (u % y1) := by
  obtain ⟨u', rfl⟩ := Int.eq_ofNat_of_zero_le hu0
  obtain ⟨d', rfl⟩ := Int.eq_ofNat_of_zero_le hd0
  obtain ⟨y1', rfl⟩ := Int.eq_ofNat_of_zero_le (show 0 ≤ y1 by omega)
  obtain ⟨y0', rfl⟩ := Int.eq_ofNat_of_zero_le h0
  exact ⟨u', d', y1', y0', u' / y1', u' % y1', rfl, rfl, rfl, rfl, (Int.natCast_ediv _ _).symm, (Int.natCast_emod _ _).symm, Guess.start (by omega) (by omega) (by omega) (by omega) (by omega)⟩

theorem two_pow_64 (s : Nat) (hs : s ≤ 64) : 2 ^ (64 - s) * 2 ^ s = 18446744073709551616 := by
  rw [← Nat.pow_add, Nat.sub_add_cancel hs]
/-- How far a number is shifted, so that its top bit is set. -/
theorem shift_bd (y : Nat) (h0 : y ≠ 0) (h : y < 18446744073709551616) : ∃ s : Nat, (64 - (Lib.bitLen y : Int)) = (s : Int) ∧ s ≤ 63 ∧ 9223372036854775808 ≤ y * 2 ^ s ∧ y * 2 ^ s < 18446744073709551616 := by
  obtain ⟨b1, b2, b3⟩ := Lib.bitLenAux_bounds 64 y h h0
  have b4 : Lib.bitLen y ≤ 64 := Lib.bitLen_le y 64 (Nat.le_refl _) h
  have e : Lib.bitLen y = Lib.bitLenAux 64 y := rfl
  rw [← e] at b1 b2 b3
  generalize Lib.bitLen y = l at *
  refine ⟨64 - l, by omega, by omega, ?_, ?_⟩
  · have := Nat.mul_le_mul_right (2 ^ (64 - l)) b2
    rw [← Nat.pow_add] at this
    have e2 : l - 1 + (64 - l) = 63 := by omega
    rw [e2] at this
    exact this
  · have := Nat.mul_lt_mul_of_pos_right b3 (Nat.two_pow_pos (64 - l))
    rw [← Nat.pow_add] at this
    have e2 : l + (64 - l) = 64 := by omega
    rw [e2] at this
    exact this
/-- The shifted number in digits. -/
theorem digits_of (hi lo y s : Nat) (hs : s ≤ 63) (hn' : y * 2 ^ s < 18446744073709551616) (hhi : hi < y) (hlo : lo < 18446744073709551616) :
    lo / 2 ^ (64 - s) < 2 ^ s ∧ hi * 2 ^ s + lo / 2 ^ (64 - s) < y * 2 ^ s ∧ hi * 2 ^ s < 18446744073709551616 ∧
    (hi * 18446744073709551616 + lo) * 2 ^ s = ((hi * 2 ^ s + lo / 2 ^ (64 - s)) * 4294967296 + lo * 2 ^ s % 18446744073709551616 / 4294967296) * 4294967296 + lo * 2 ^ s % 18446744073709551616 % 4294967296 := by
  have hp := two_pow_64 s (by omega)
  have hlt : lo / 2 ^ (64 - s) < 2 ^ s := by
    rw [Nat.div_lt_iff_lt_mul (Nat.two_pow_pos _), Nat.mul_comm, hp]
    exact hlo
  have h1 : (hi + 1) * 2 ^ s ≤ y * 2 ^ s := Nat.mul_le_mul_right _ hhi
  rw [Nat.succ_mul] at h1
  refine ⟨hlt, by omega, Nat.lt_of_le_of_lt (Nat.le_trans (Nat.le_add_right _ _) h1) hn', ?_⟩
  have hd : lo * 2 ^ s / 18446744073709551616 = lo / 2 ^ (64 - s) := by
    rw [← hp, Nat.mul_div_mul_right _ _ (Nat.two_pow_pos s)]
  have hm := Nat.div_add_mod (lo * 2 ^ s) 18446744073709551616
  rw [hd] at hm
  rw [Nat.add_mul, Nat.mul_right_comm]
  generalize hi * 2 ^ s = A at *
  generalize lo / 2 ^ (64 - s) = C at *
  generalize lo * 2 ^ s = L at *
  omega
theorem cast_shl (y s : Nat) : (y : Int) * 2 ^ s = ((y * 2 ^ s : Nat) : Int) := by
  rw [Int.natCast_mul, Int.natCast_pow]
  rfl
theorem cast_shr (y s : Nat) : (y : Int) / 2 ^ s = ((y / 2 ^ s : Nat) : Int) := by
  rw [Int.natCast_ediv, Int.natCast_pow]
  rfl
theorem wrap_nat (n : Nat) (h : n < 18446744073709551616) : IntKind.u64.wrap (n : Int) = n := by
  rw [IntKind.wrap_u64]
  omega
theorem or_of (a b s : Nat) (h : b < 2 ^ s) : a * 2 ^ s ||| b = a * 2 ^ s + b := by
  rw [Nat.mul_comm, Nat.two_pow_add_eq_or_of_lt h]
theorem start_wrap {u y1 q r : Int} (hu : 0 ≤ u) (hu' : u < 18446744073709551616) (hy : 0 < y1) (rq : IntKind.u64.wrap (u.tdiv y1) = q) (rr : IntKind.u64.wrap (u - IntKind.u64.wrap (q * y1)) = r) :
    q = u / y1 ∧ r = u % y1 := by
  rw [Int.tdiv_eq_ediv_of_nonneg hu, IntKind.wrap_u64] at rq
  have h0 : 0 ≤ u / y1 := Int.ediv_nonneg hu (by omega)
  have h1 : u / y1 ≤ u := Int.ediv_le_self _ hu
  have e : q = u / y1 := by omega
  refine ⟨e, ?_⟩
  have hm := Int.emod_add_mul_ediv u y1
  have h2 := Int.emod_nonneg u (show y1 ≠ 0 by omega)
  rw [← e, Int.mul_comm] at hm
  rw [IntKind.wrap_u64, IntKind.wrap_u64] at rr
  have h3 : 0 ≤ q * y1 := Int.mul_nonneg (by omega) (by omega)
  generalize q * y1 = P at *
  omega
theorem dig_eq {u d y1 y0 : Int} {uN dN YN : Nat} (hu : u = (uN : Int)) (hd : d = (dN : Int)) (hy : y1 * 4294967296 + y0 = (YN : Int)) (h1 : 0 ≤ y1) (h0 : 0 ≤ y0) : dig u d y1 y0 = (((uN * 4294967296 + dN) / YN : Nat) : Int) := by
  have e : y1.toNat * 4294967296 + y0.toNat = YN := by omega
  unfold dig
  rw [e, hu, hd, Int.toNat_natCast, Int.toNat_natCast]
theorem rest_wrap {u d D Y : Int} {uN dN YN : Nat} (hu : u = (uN : Int)) (hd : d = (dN : Int)) (hY : Y = (YN : Int)) (hD : D = (((uN * 4294967296 + dN) / YN : Nat) : Int)) (hb : YN < 18446744073709551616) (h0 : 0 < YN) :
    IntKind.u64.wrap (IntKind.u64.wrap (IntKind.u64.wrap (u * 4294967296) + d) - IntKind.u64.wrap (D * Y)) = (((uN * 4294967296 + dN) % YN : Nat) : Int) := by
  have hm := Nat.div_add_mod (uN * 4294967296 + dN) YN
  have hl := Nat.mod_lt (uN * 4294967296 + dN) h0
  have hp : D * Y = ((YN * ((uN * 4294967296 + dN) / YN) : Nat) : Int) := by
    rw [hD, hY, Int.mul_comm, Int.natCast_mul]
  rw [hp, hu, hd]
  generalize YN * ((uN * 4294967296 + dN) / YN) = P at *
  generalize (uN * 4294967296 + dN) % YN = R at *
  simp only [IntKind.wrap_u64]
  omega
theorem dig_bd {uN dN YN : Nat} (h : uN < YN) (hd : dN < 4294967296) : (uN * 4294967296 + dN) / YN < 4294967296 := by
  rw [Nat.div_lt_iff_lt_mul (by omega)]
  omega
/-- A word's difference is exact where it is a word. -/
theorem wrap_diff (a b c d : Int) (h0 : 0 ≤ a - b) (h1 : a - b < 18446744073709551616) (hc : c % 18446744073709551616 = a % 18446744073709551616) (hd : d % 18446744073709551616 = b % 18446744073709551616) :
    (c - d) % 18446744073709551616 = a - b := by omega
end Go.Proofs.YtjbkjeabobccaabGreatDoor.M
