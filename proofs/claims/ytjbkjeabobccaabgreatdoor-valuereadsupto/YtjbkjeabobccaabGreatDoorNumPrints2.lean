import Derived.Test.YtjbkjeabobccaabGreatDoorNumPrints1
import Derived.Lib.ItoaLen
import Derived.Deep.LoopGhost
namespace Go.Proofs.YtjbkjeabobccaabGreatDoor
open Go.RowKit Go.Sort Go.Lib
set_option linter.unusedVariables false

/-- A text made of one byte. -/
theorem cv_one (W : World) (v : Int) (b : UInt8) (hb : (b.toNat : Int) = v) :
    (convert 97 9 (.slice (some ⟨W.heap.size, 0, none⟩) 1 1)).run Tryz.prog (W.alloc (.cells #[.int .u8 v] 5)) = .ok (.string ⟨#[b]⟩) (W.alloc (.cells #[.int .u8 v] 5)) := by
  have := run_convert_bytes_back (P := Tryz.prog) (W.alloc (.cells #[.int .u8 v] 5)) 97 9 5 ⟨W.heap.size, 0, none⟩ 1 [b] Tryz.underlying97 Tryz.underlying5 Tryz.underlying9
    (fun j hj => by
      have h0 : j = 0 := by simpa using hj
      subst h0
      change (W.alloc (.cells #[.int .u8 v] 5)).cell? ⟨W.heap.size, 0, none⟩ = _
      rw [World.cell?_alloc_at _ _ _ _ rfl]
      simp [hb])
  simpa using this

theorem byte_of {x : Int} (n : Nat) (h : x = n) (hn : n < 256) : (((UInt8.ofNat n).toNat : Nat) : Int) = x := by
  rw [h]; simp [Nat.mod_eq_of_lt hn]

set_option maxHeartbeats 4000000 in
theorem whole_any (n : Nat) : n ≤ 9300000000000 → ∀ (x : Int) (w : World), x = n →
    Calls Tryz.prog 73 #[.int .i64 x] w fun e w' => e = .returned (.string ⟨(decDigits n).toArray⟩) ∧ Below w.heap.size w w' := by
  induction n using Nat.strongRecOn with
  | ind n ih =>
  intro hn x w hx
  have h0 : 0 ≤ x := by omega
  have h1 : x ≤ 9300000000000 := by omega
  by_cases h : n < 10
  · have hx' : x < 10 := by omega
    have cv : Hid (∀ W : World, _) := fun W => cv_one W (48 + x) (UInt8.ofNat (48 + n)) (byte_of _ (by omega) (by omega))
    have ed : decDigits n = [UInt8.ofNat (48 + n)] := by rw [decDigits, dif_pos h]
    rw [ed]
    obtain ⟨b, eb⟩ : ∃ b, UInt8.ofNat (48 + n) = b := ⟨_, rfl⟩
    rw [eb] at cv ⊢
    clear eb ih hx h ed hn
    have cv' := cv.out
    go_enter Tryz.func73, Tryz.ntmps73
    go_wp2_with fail
    go_ret
    exact ⟨rfl, (Below.refl _ _).alloc (Nat.le_refl _) _⟩
  · have hx' : ¬ x < 10 := by omega
    have cv : Hid (∀ W : World, _) := fun W => cv_one W (48 + x % 10) (UInt8.ofNat (48 + n % 10)) (byte_of _ (by omega) (by omega))
    have ed : decDigits n = decDigits (n / 10) ++ [UInt8.ofNat (48 + n % 10)] := by rw [decDigits, dif_neg h]
    have cw : Hid (∀ w, _) := fun w => ih (n / 10) (by omega) (by omega) (x / 10) w (by omega)
    have hl : (decDigits (n / 10)).length ≤ 20 := by rw [decDigits_length]; exact nDigits_le20 _ (by omega)
    rw [ed]
    obtain ⟨b, eb⟩ : ∃ b, UInt8.ofNat (48 + n % 10) = b := ⟨_, rfl⟩
    obtain ⟨D, eD⟩ : ∃ D, decDigits (n / 10) = D := ⟨_, rfl⟩
    rw [eb] at cv ⊢
    rw [eD] at cw hl ⊢
    have sm : ∀ W, (Op.stringOp .add ⟨D.toArray⟩ ⟨#[b]⟩).run Tryz.prog W = .ok (.string ⟨(D ++ [b]).toArray⟩) W := fun W => by
      rw [run_string_add_sum W ⟨D.toArray⟩ ⟨#[b]⟩ (by simp [ByteArray.size]; omega)]
      congr 2
    clear eb eD ih hx h ed hn
    have cv' := cv.out
    go_enter Tryz.func73, Tryz.ntmps73
    go_wp2_with fail
    refine (cw.out _).mono ?_
    rintro e w1 ⟨rfl, hb1⟩
    go_wp2_with fail
    go_ret
    exact ⟨rfl, hb1.trans (((Below.refl _ _).alloc (Nat.le_refl _) _).mono hb1.size)⟩
end Go.Proofs.YtjbkjeabobccaabGreatDoor
