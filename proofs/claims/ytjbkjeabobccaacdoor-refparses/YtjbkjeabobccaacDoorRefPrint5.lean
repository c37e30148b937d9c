import Derived.Test.YtjbkjeabobccaacDoorRefPrint4
namespace Go.Proofs.YtjbkjeabobccaacDoor
open Go.RowKit Go.Sort Go.Lib
set_option linter.unusedVariables false

def fixL (f : Bool) : List UInt8 := if f then [36] else []
def dg : Nat → Nat → List UInt8
  | 0, _ => []
  | k + 1, u => if u < 10 then [UInt8.ofNat (48 + u)] else dg k (u / 10) ++ [UInt8.ofNat (48 + u % 10)]
theorem dg_eq : ∀ (k u : Nat), u < 10 ^ k → 0 < k → dg k u = decDigits u
  | 0, _, _, h => absurd h (by omega)
  | k + 1, u, hu, _ => by
    rw [dg, decDigits]
    by_cases h : u < 10
    · rw [if_pos h, dif_pos h]
    · rw [if_neg h, dif_neg h]
      have hk : 0 < k := by
        rcases Nat.eq_zero_or_pos k with h0 | h0
        · subst h0; omega
        · exact h0
      rw [dg_eq k (u / 10) (by rw [Nat.pow_succ] at hu; omega) hk]

def hd1 : List UInt8 → Bool
  | [] => false
  | h :: _ => h != 36
def hd2 : List UInt8 → Bool
  | [] => false
  | h :: _ => !isLet h && h != 36
def hd3 : List UInt8 → Bool
  | [] => true
  | h :: _ => !isLet h

theorem rows_back : ∀ r, r < 1024 → rowR (dg 4 (r + 1)) = ((r : Int), true) ∧ hd2 (dg 4 (r + 1)) = true := by decide +kernel
theorem cols_back : ∀ c, c < 64 → colR (colN c) = ((c : Int), true) ∧ (colN c).all isLet = true ∧ hd1 (colN c) = true := by decide +kernel

theorem cell_name (L R : List UInt8) (f g : Bool) (hL : L.all isLet = true) (hL' : hd1 L = true) (hR : hd2 R = true)
    (hc : (colR L).2 = true) (hr : (rowR R).2 = true) : cellR (fixL f ++ L ++ fixL g ++ R) = ((colR L).1, (rowR R).1, f, g, true) := by
  have hall : ∀ a ∈ L, isLet a = true := by simpa using hL
  have tw : ∀ X, hd3 X = true → (L ++ X).takeWhile isLet = L ∧ (L ++ X).dropWhile isLet = X := by
    intro X hX
    rw [List.takeWhile_append_of_pos hall, List.dropWhile_append_of_pos hall]
    cases X with
    | nil => simp
    | cons h t =>
      have hh : isLet h = false := by simpa [hd3] using hX
      simp [hh]
  cases L with
  | nil => cases hL'
  | cons a L' =>
  cases R with
  | nil => cases hR
  | cons b R' =>
  have ha : (36 == a) = false := by
    have : a ≠ 36 := by simpa [hd1] using hL'
    simp only [beq_eq_false_iff_ne]; exact fun h => this h.symm
  have hb : isLet b = false ∧ b ≠ 36 := by simpa [hd2] using hR
  have hb' : (36 == b) = false := by simp only [beq_eq_false_iff_ne]; exact fun h => hb.2 h.symm
  have t1 := tw (b :: R') (by simp [hd3, hb.1])
  have t2 := tw (36 :: b :: R') (by simp [hd3]; decide)
  have e1 : ∀ f X, fixL f ++ (a :: L') ++ X = fixL f ++ ((a :: L') ++ X) := fun f X => List.append_assoc _ _ _
  have pf : ∀ f X, Lib.hasPrefix (fixL f ++ (a :: X)) [36] = f ∧ Lib.trimPrefix (fixL f ++ (a :: X)) [36] = a :: X := by
    intro f X
    cases f <;> simp [fixL, Lib.trimPrefix, Lib.hasPrefix, List.isPrefixOf, ha]
  have pg : ∀ g X, Lib.hasPrefix (fixL g ++ (b :: X)) [36] = g ∧ Lib.trimPrefix (fixL g ++ (b :: X)) [36] = b :: X := by
    intro g X
    cases g <;> simp [fixL, Lib.trimPrefix, Lib.hasPrefix, List.isPrefixOf, hb']
  have t3 : ((a :: L') ++ (fixL g ++ b :: R')).takeWhile isLet = a :: L' ∧ ((a :: L') ++ (fixL g ++ b :: R')).dropWhile isLet = fixL g ++ b :: R' := by
    cases g
    · exact t1
    · exact t2
  have whole : fixL f ++ (a :: L') ++ fixL g ++ b :: R' = fixL f ++ (a :: (L' ++ (fixL g ++ b :: R'))) := by simp
  rw [whole]
  unfold cellR
  simp only [(pf f _).1, (pf f _).2]
  rw [show a :: (L' ++ (fixL g ++ b :: R')) = (a :: L') ++ (fixL g ++ b :: R') from rfl, t3.1, t3.2]
  simp only [(pg g _).1, (pg g _).2]
  rw [if_pos ⟨hc, hr⟩]

theorem name_list (c r : Nat) (f g : Bool) (hr : r < 1024) : (nameB c r f g).data.toList = fixL f ++ colN c ++ fixL g ++ dg 4 (r + 1) := by
  rw [dg_eq 4 (r + 1) (by omega) (by omega)]
  unfold nameB fixS fixL
  cases f <;> cases g <;> simp [ByteArray.data_append]

theorem name_cell (c r : Nat) (f g : Bool) (hc : c < 64) (hr : r < 1024) : cellR (nameB c r f g).data.toList = ((c : Int), (r : Int), f, g, true) := by
  rw [name_list c r f g hr]
  obtain ⟨k1, k2, k3⟩ := cols_back c hc
  obtain ⟨k4, k5⟩ := rows_back r hr
  rw [cell_name _ _ f g k2 k3 k5 (by rw [k1]) (by rw [k4]), k1, k4]
theorem name_size (c r : Nat) (f g : Bool) (hr : r < 1024) : (nameB c r f g).size ≤ 24 := by
  have l1 := fixS_le f
  have l2 := fixS_le g
  have l3 := colN_le c
  have l4 := dec_le (r + 1) (by omega)
  unfold nameB
  rw [ByteArray.size_append, ByteArray.size_append, ByteArray.size_append]
  have l3' : (⟨(colN c).toArray⟩ : ByteArray).size ≤ 2 := by simpa [ByteArray.size] using l3
  have l4' : (⟨(decDigits (r + 1)).toArray⟩ : ByteArray).size ≤ 20 := by simpa [ByteArray.size] using l4
  omega
end Go.Proofs.YtjbkjeabobccaacDoor
