import Derived.Test.YtjbkjeabobccaabGreatDoorNumBig5
import Derived.Deep.RegionHeld2
namespace Go.Proofs.YtjbkjeabobccaabGreatDoor
open Go.RowKit
set_option linter.unusedVariables false

theorem repr_len_pos {x : Nat} (h : x ≠ 0) : 0 < (repr x).length := by rw [repr_pos h]; simp

set_option maxHeartbeats 2000000 in
theorem neg_any (w : World) (v : Value) (z : Int) (h : BigIs w v z) :
    Calls Tryz.prog 66 #[v] w fun e w' => (∃ u, e = .returned u ∧ BigIs w' u (-z)) ∧ Below w.heap.size w w' := by
  obtain ⟨a, cap, rfl, hR⟩ := h
  have hz : (-z).natAbs = z.natAbs := by omega
  have HR : Hid (∀ w', Below w.heap.size w w' → RowIs w' a cap (repr (-z).natAbs)) := fun w' hb => by rw [hz]; exact hR.step hb
  obtain ⟨n, en⟩ : ∃ n, (repr z.natAbs).length = n := ⟨_, rfl⟩
  have en' : (repr (-z).natAbs).length = n := by rw [hz]; exact en
  unfold BigIs
  rw [en, en']
  have hp : z ≠ 0 → 0 < n := fun h => by rw [← en]; exact repr_len_pos (by omega)
  have h0 : z = 0 → n = 0 := fun h => by rw [← en, h]; rfl
  clear en en' hR hz
  rcases Int.lt_trichotomy z 0 with h | h | h
  · rw [show decide (z < 0) = true by simpa using h, show decide (-z < 0) = false by simp; omega]
    go_enter Tryz.func66, Tryz.ntmps66
    go_wp2
    refine bodyPost_ret (v := .agg #[.slice a n cap, .bool false]) (by simp [results, Tryz.results66, go_sem]) rfl ?_
    exact ⟨⟨_, rfl, a, cap, rfl, HR.out _ (by go_grown)⟩, by go_grown⟩
  · obtain rfl : n = 0 := h0 h
    rw [show decide (z < 0) = false by simp; omega, show decide (-z < 0) = false by simp; omega]
    clear h h0 hp
    go_enter Tryz.func66, Tryz.ntmps66
    go_wp2
    refine bodyPost_ret (v := .agg #[.slice a 0 cap, .bool false]) (by simp [results, Tryz.results66, go_sem]) rfl ?_
    exact ⟨⟨_, rfl, a, cap, rfl, HR.out _ (by go_grown)⟩, by go_grown⟩
  · have hn := hp (by omega)
    rw [show decide (z < 0) = false by simp; omega, show decide (-z < 0) = true by simp; omega]
    go_enter Tryz.func66, Tryz.ntmps66
    go_wp2
    refine bodyPost_ret (v := .agg #[.slice a n cap, .bool true]) (by simp [results, Tryz.results66, go_sem]) rfl ?_
    exact ⟨⟨_, rfl, a, cap, rfl, HR.out _ (by go_grown)⟩, by go_grown⟩

theorem box3 {w W w9 : World} {A B C : Obj} (hW : W.heap = (((w.alloc A).alloc B).alloc C).heap) (hb : Below W.heap.size W w9) :
    w9.heap[w.heap.size]? = some A ∧ w9.heap[w.heap.size + 1]? = some B ∧ w9.heap[w.heap.size + 2]? = some C ∧ w.heap.size + 3 ≤ w9.heap.size := by
  have e : W.heap = ((w.heap.push A).push B).push C := hW
  have hs := hb.size
  have es : W.heap.size = w.heap.size + 3 := by rw [e]; simp
  refine ⟨?_, ?_, ?_, by omega⟩
  · rw [hb.block _ (by omega), e, Array.getElem?_push_lt (by simp; omega), ← Array.getElem?_eq_getElem, Array.getElem?_push_lt (by simp), ← Array.getElem?_eq_getElem, Array.getElem?_push_size]
  · rw [hb.block _ (by omega), e, Array.getElem?_push_lt (by simp), ← Array.getElem?_eq_getElem, show w.heap.size + 1 = (w.heap.push A).size by simp, Array.getElem?_push_size]
  · rw [hb.block _ (by omega), e, show w.heap.size + 2 = ((w.heap.push A).push B).size by simp, Array.getElem?_push_size]
theorem RowIs.store2 {w : World} {a : Option Addr} {cap : Nat} {ds : List Int} (h : RowIs w a cap ds) {b : Nat} {c : Option Addr} {n k : Nat} {u : Value} {T : TypeId} (hg : w.heap[b]? = some (.cells #[.slice c n k, u] T (0, 0))) (x y : Value) :
    RowIs ((w.setCell ⟨b, 0, none⟩ x).setCell ⟨b, 1, none⟩ y) a cap ds :=
  ⟨h.le, h.lid, fun j hj => by
    obtain ⟨g, rfl, hc⟩ := h.at (by omega)
    have hne : g ≠ b := by
      rintro rfl
      have := hc 0 (by omega)
      rw [two_cell0 hg] at this
      cases this
    refine ⟨g, rfl, ?_⟩
    rw [World.cell?_of_block (w := w) (a := ⟨g, j, none⟩) (by
      show _ = w.heap[g]?
      rw [Below.heap_setCell _ _ _ _ (by simpa using hne), Below.heap_setCell _ _ _ _ (by simpa using hne)])]
    exact hc j hj⟩
theorem key2 {w X w9 : World} (h1 : Below w.heap.size w X) (h2 : Below X.heap.size X w9) : Below w.heap.size w w9 := h1.trans (h2.mono h1.size)

set_option maxHeartbeats 8000000 in
theorem sum_same (w : World) (a b : Option Addr) (ca cb x y : Nat) (m : Bool) (ha : RowIs w a ca (repr x)) (hb : RowIs w b cb (repr y)) (hl : (repr (x + y)).length ≤ 1000000000000) :
    Calls Tryz.prog 64 #[.agg #[.slice a (repr x).length ca, .bool m], .agg #[.slice b (repr y).length cb, .bool m]] w fun e w' =>
      (∃ v cap, e = .returned (.agg #[.slice v (repr (x + y)).length cap, .bool m]) ∧ RowIs w' v cap (repr (x + y))) ∧ Below w.heap.size w w' := by
  have cp0 : ∀ w', Below w.heap.size w w' → _ := fun w' h => plus_any w' a b ca cb x y (ha.step h) (hb.step h) hl
  obtain ⟨la, ea⟩ : ∃ l, (repr x).length = l := ⟨_, rfl⟩
  obtain ⟨lb, eb⟩ : ∃ l, (repr y).length = l := ⟨_, rfl⟩
  obtain ⟨S, eS⟩ : ∃ l, repr (x + y) = l := ⟨_, rfl⟩
  rw [ea, eb, eS] at cp0
  rw [ea, eb, eS]
  clear ea eb eS ha hb hl
  obtain ⟨A, eA⟩ : ∃ A : Obj, A = .cells #[.slice a la ca, .bool m] 91 := ⟨_, rfl⟩
  obtain ⟨B, eB⟩ : ∃ A : Obj, A = .cells #[.slice b lb cb, .bool m] 91 := ⟨_, rfl⟩
  obtain ⟨C, eC⟩ : ∃ A : Obj, A = .cells #[.slice none 0 0, .bool false] 91 := ⟨_, rfl⟩
  have cp : Hid (Calls Tryz.prog 100 #[.slice a la ca, .slice b lb cb] (((w.alloc A).alloc B).alloc C).drew fun e w9 => ∃ v cap, e = .returned (.slice v S.length cap) ∧ Hid (RowIs w9 v cap S) ∧ Hid (Below w.heap.size w w9) ∧ Hid (w.heap.size + 3 ≤ w9.heap.size) ∧ Hid (w9.heap[w.heap.size + 2]? = some C) ∧
      w9.cell? ⟨w.heap.size, 0, none⟩ = some (.slice a la ca) ∧ w9.cell? ⟨w.heap.size, 1, none⟩ = some (.bool m) ∧ w9.cell? ⟨w.heap.size + 1, 0, none⟩ = some (.slice b lb cb) ∧
      w9.cell? ⟨w.heap.size + 2, 0, none⟩ = some (.slice none 0 0) ∧ w9.cell? ⟨w.heap.size + 2, 1, none⟩ = some (.bool false) ∧ w9.frozen? ⟨w.heap.size + 2, 0, none⟩ = false ∧ w9.frozen? ⟨w.heap.size + 2, 1, none⟩ = false) := by
    have hbel : Below w.heap.size w (((w.alloc A).alloc B).alloc C).drew := ((((Below.refl _ _).alloc (Nat.le_refl _) _).alloc (by simp) _).alloc (by simp <;> omega) _).drew
    refine (cp0 _ hbel).mono ?_
    rintro e w9 ⟨⟨v, cap, rfl, hR⟩, hb9⟩
    obtain ⟨g0, g1, g2, g3⟩ := box3 (w := w) (W := (((w.alloc A).alloc B).alloc C).drew) (A := A) (B := B) (C := C) rfl hb9
    rw [eA] at g0
    rw [eB] at g1
    have g2' := g2
    rw [eC] at g2'
    exact ⟨v, cap, rfl, hR, key2 hbel hb9, g3, g2, two_cell0 g0, two_cell1 g0, two_cell0 g1, two_cell0 g2', two_cell1 g2', two_free g2' 0, two_free g2' 1⟩
  have HC : Hid (C = .cells #[.slice none 0 0, .bool false] 91) := eC
  rw [eA, eB, eC] at cp
  clear eA eB eC cp0
  have n1 : ¬ w.heap.size + 1 + 1 = w.heap.size := by omega
  have n2 : ¬ w.heap.size = w.heap.size + 1 + 1 := by omega
  go_enter Tryz.func64, Tryz.ntmps64
  go_wp2_with fail
  go_region_held2 (fun w' => w'.cell? ⟨w.heap.size, 0, none⟩ = some (.slice a la ca) ∧ w'.cell? ⟨w.heap.size, 1, none⟩ = some (.bool m) ∧ w'.cell? ⟨w.heap.size + 1, 0, none⟩ = some (.slice b lb cb)) (go_keep)
    (first | (go_at_call 100; go_loud (refine cp.out.mono ?_; rintro e w9 ⟨v, cap, rfl, HR9, HB9, HS9, HG9, k0, k1, k2, k3, k4, k5, k6⟩)))
  all_goals
    have HQ : Hid (∀ x y, _ ∧ _) := two_both HG9.out
    go_wp2_with fail
    refine bodyPost_ret (v := .agg #[.slice v S.length cap, .bool m]) (by simp [results, Tryz.results64, go_sem, HQ.out]) rfl ?_
    exact ⟨⟨v, cap, rfl, HR9.out.store2 HG9.out _ _⟩, (HB9.out.setCell (by show _ ≤ w.heap.size + 2; omega) _).setCell (by show _ ≤ w.heap.size + 2; omega) _⟩
end Go.Proofs.YtjbkjeabobccaabGreatDoor
