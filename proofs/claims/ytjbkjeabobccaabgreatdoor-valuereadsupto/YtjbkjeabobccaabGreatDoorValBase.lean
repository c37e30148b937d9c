import Derived.Test.YtjbkjeabobccaabGreatDoorNumBase
import Derived.Test.YtjbkjeabobccaabGreatDoorShelf
import Derived.Lib.Walk
import Derived.Lib.Strings
import Derived.Deep.RegionHeld2
import Derived.Handy
namespace Go.Proofs.YtjbkjeabobccaabGreatDoor
open Go.RowKit Go.Sort Go.Lib
set_option linter.unusedVariables false

theorem hidv {p : Prop} (h : p) : Hid p := h
def noB : ByteArray := ⟨#[]⟩

theorem box3h {w w' : World} {v0 v1 v2 : Value} {T : TypeId} (hb : Below (w.alloc (.cells #[v0, v1, v2] T)).heap.size (w.alloc (.cells #[v0, v1, v2] T)) w') : w'.heap[w.heap.size]? = some (.cells #[v0, v1, v2] T (0, 0)) := by
  rw [hb.block _ (by simp)]
  show (w.heap.push _)[_]? = _
  rw [Array.getElem?_push_size]
theorem three {w : World} {b : Nat} {p q r : Value} {T : TypeId} (h : w.heap[b]? = some (.cells #[p, q, r] T (0, 0))) :
    w.cell? ⟨b, 0, none⟩ = some p ∧ w.cell? ⟨b, 1, none⟩ = some q ∧ w.cell? ⟨b, 2, none⟩ = some r ∧ w.frozen? ⟨b, 0, none⟩ = false ∧ w.frozen? ⟨b, 1, none⟩ = false ∧ w.frozen? ⟨b, 2, none⟩ = false := by
  refine ⟨?_, ?_, ?_, ?_, ?_, ?_⟩ <;> first | (simp [World.cell?, h]; done) | (simp [World.frozen?, h]; done)
theorem three_set {w : World} {b : Nat} {a0 a1 a2 : Value} (j0 : w.cell? ⟨b, 0, none⟩ = some a0) (j1 : w.cell? ⟨b, 1, none⟩ = some a1) (j2 : w.cell? ⟨b, 2, none⟩ = some a2) :
    (∀ x, (w.setCell ⟨b, 0, none⟩ x).cell? ⟨b, 0, none⟩ = some x) ∧ (∀ x y, ((w.setCell ⟨b, 0, none⟩ x).setCell ⟨b, 1, none⟩ y).cell? ⟨b, 1, none⟩ = some y) ∧
    (∀ x y z, (((w.setCell ⟨b, 0, none⟩ x).setCell ⟨b, 1, none⟩ y).setCell ⟨b, 2, none⟩ z).cell? ⟨b, 2, none⟩ = some z) := by
  refine ⟨fun x => World.cell?_setCell_same _ _ _ j0, fun x y => World.cell?_setCell_same _ _ _ (u := a1) ?_, fun x y z => World.cell?_setCell_same _ _ _ (u := a2) ?_⟩
  · rw [World.cell?_setCell_other _ _ _ _ (by simp)]; exact j1
  · rw [World.cell?_setCell_other _ _ _ _ (by simp), World.cell?_setCell_other _ _ _ _ (by simp)]; exact j2
theorem bel_set3 {w w1 : World} {v : Obj} (hb : Below (w.alloc v).heap.size (w.alloc v) w1) (x y z : Value) : Below w.heap.size w (((w1.setCell ⟨w.heap.size, 0, none⟩ x).setCell ⟨w.heap.size, 1, none⟩ y).setCell ⟨w.heap.size, 2, none⟩ z) :=
  (((((Below.refl _ _).alloc (Nat.le_refl _) _).trans (hb.mono (by simp))).setCell (Nat.le_refl _) _).setCell (Nat.le_refl _) _).setCell (Nat.le_refl _) _

set_option maxHeartbeats 800000 in
theorem faultValue_any (n : Int) (w : World) : Calls Tryz.prog 31 #[.int .i64 n] w fun e w' => e = .returned (.agg #[.int .i64 4, .int .i64 (if n < 1 ∨ 6 < n then 3 else n), .string ⟨#[]⟩]) ∧ Below w.heap.size w w' := by
  by_cases h1 : n < 1
  · rw [if_pos (Or.inl h1)]
    go_enter Tryz.func31, Tryz.ntmps31
    go_wp2
    refine bodyPost_ret (v := .agg #[.int .i64 4, .int .i64 3, .string ⟨#[]⟩]) (by simp [results, Tryz.results31, go_sem]) rfl ?_
    exact ⟨rfl, by go_grown⟩
  · by_cases h2 : 6 < n
    · rw [if_pos (Or.inr h2)]
      go_enter Tryz.func31, Tryz.ntmps31
      go_wp2
      refine bodyPost_ret (v := .agg #[.int .i64 4, .int .i64 3, .string ⟨#[]⟩]) (by simp [results, Tryz.results31, go_sem]) rfl ?_
      exact ⟨rfl, by go_grown⟩
    · rw [if_neg (by omega)]
      go_enter Tryz.func31, Tryz.ntmps31
      go_wp2
      refine bodyPost_ret (v := .agg #[.int .i64 4, .int .i64 n, .string ⟨#[]⟩]) (by simp [results, Tryz.results31, go_sem]) rfl ?_
      exact ⟨rfl, by go_grown⟩

set_option maxHeartbeats 800000 in
theorem truthValue_any (b : Bool) (w : World) : Calls Tryz.prog 29 #[.bool b] w fun e w' => e = .returned (.agg #[.int .i64 3, .int .i64 (if b then 1 else 0), .string ⟨#[]⟩]) ∧ Below w.heap.size w w' := by
  cases b
  · go_enter Tryz.func29, Tryz.ntmps29
    go_wp2
    refine bodyPost_ret (v := .agg #[.int .i64 3, .int .i64 0, .string ⟨#[]⟩]) (by simp [results, Tryz.results29, go_sem]) rfl ?_
    exact ⟨rfl, by go_grown⟩
  · go_enter Tryz.func29, Tryz.ntmps29
    go_wp2
    refine bodyPost_ret (v := .agg #[.int .i64 3, .int .i64 1, .string ⟨#[]⟩]) (by simp [results, Tryz.results29, go_sem]) rfl ?_
    exact ⟨rfl, by go_grown⟩

set_option maxHeartbeats 800000 in
theorem textValue_any (s : ByteArray) (w : World) : Calls Tryz.prog 32 #[.string s] w fun e w' => e = .returned (if 1000 < s.size then .agg #[.int .i64 4, .int .i64 3, .string ⟨#[]⟩] else .agg #[.int .i64 2, .int .i64 0, .string s]) ∧ Below w.heap.size w w' := by
  have cf := hidv (fun w => faultValue_any 3 w)
  rw [if_neg (show ¬ ((3 : Int) < 1 ∨ 6 < (3 : Int)) by omega)] at cf
  by_cases h : 1000 < s.size
  · rw [if_pos h]
    have h' : (1000 : Int) < s.size := by omega
    go_enter Tryz.func32, Tryz.ntmps32
    go_wp2_with (go_at_call 31; refine (cf.out _).mono ?_; rintro e w1 ⟨rfl, hb1⟩; have B1 := hidv (bel_set3 hb1); obtain ⟨p0, p1, p2, f0, f1, f2⟩ := three (box3h hb1); obtain ⟨s0, s1, s2⟩ := three_set p0 p1 p2; clear hb1)
    refine bodyPost_ret (v := .agg #[.int .i64 4, .int .i64 3, .string ⟨#[]⟩]) (by simp [results, Tryz.results32, go_sem, *]) rfl ?_
    exact ⟨rfl, B1.out _ _ _⟩
  · rw [if_neg h]
    have h' : ¬ (1000 : Int) < s.size := by omega
    go_enter Tryz.func32, Tryz.ntmps32
    go_wp2_with (go_at_call 31; refine (cf.out _).mono ?_; rintro e w1 ⟨rfl, hb1⟩; have B1 := hidv (bel_set3 hb1); obtain ⟨p0, p1, p2, f0, f1, f2⟩ := three (box3h hb1); obtain ⟨s0, s1, s2⟩ := three_set p0 p1 p2; clear hb1)
    refine bodyPost_ret (v := .agg #[.int .i64 2, .int .i64 0, .string s]) (by simp [results, Tryz.results32, go_sem]) rfl ?_
    exact ⟨rfl, by go_grown⟩

set_option maxHeartbeats 800000 in
set_option maxRecDepth 100000 in
theorem numberValue_any (n : Int) (w : World) : Calls Tryz.prog 27 #[.int .i64 n] w fun e w' => e = .returned (if n = -9223372036854775808 then .agg #[.int .i64 4, .int .i64 2, .string ⟨#[]⟩] else .agg #[.int .i64 1, .int .i64 n, .string ⟨#[]⟩]) ∧ Below w.heap.size w w' := by
  have cf := hidv (fun w => faultValue_any 2 w)
  rw [if_neg (show ¬ ((2 : Int) < 1 ∨ 6 < (2 : Int)) by omega)] at cf
  by_cases h : n = -9223372036854775808
  · rw [if_pos h]
    have h' : (n == -9223372036854775808) = true := by simpa using h
    clear h
    go_enter Tryz.func27, Tryz.ntmps27
    go_wp2_with (go_at_call 31; refine (cf.out _).mono ?_; rintro e w1 ⟨rfl, hb1⟩; have B1 := hidv (bel_set3 hb1); obtain ⟨p0, p1, p2, f0, f1, f2⟩ := three (box3h hb1); obtain ⟨s0, s1, s2⟩ := three_set p0 p1 p2; clear hb1)
    refine bodyPost_ret (v := .agg #[.int .i64 4, .int .i64 2, .string ⟨#[]⟩]) (by simp [results, Tryz.results27, go_sem, *]) rfl ?_
    exact ⟨rfl, B1.out _ _ _⟩
  · rw [if_neg h]
    have h' : (n == -9223372036854775808) = false := by simpa using h
    clear h
    go_enter Tryz.func27, Tryz.ntmps27
    go_wp2_with (go_at_call 31; refine (cf.out _).mono ?_; rintro e w1 ⟨rfl, hb1⟩; have B1 := hidv (bel_set3 hb1); obtain ⟨p0, p1, p2, f0, f1, f2⟩ := three (box3h hb1); obtain ⟨s0, s1, s2⟩ := three_set p0 p1 p2; clear hb1)
    refine bodyPost_ret (v := .agg #[.int .i64 1, .int .i64 n, .string ⟨#[]⟩]) (by simp [results, Tryz.results27, go_sem]) rfl ?_
    exact ⟨rfl, by go_grown⟩
end Go.Proofs.YtjbkjeabobccaabGreatDoor
