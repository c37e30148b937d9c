import Derived.Test.YtjbkjeabobccaacDoorRefPrint2
import Derived.Test.YtjbkjeabobccaacDoorRefCopied
import Derived.Lib.ItoaMem
import Derived.Deep.RegionHeld2
namespace Go.Proofs.YtjbkjeabobccaacDoor
open Go.RowKit Go.Sort Go.Lib
set_option linter.unusedVariables false

/-- What the walks lean on, in every later world: a table of the library's. -/
def TabE (w : World) : Prop := ∀ w', Below w.heap.size w w' → Lib.TabIs Tryd.prog w' "internal/strconv.uint64pow10" .u64 Lib.pow10Tab
theorem TabE.step {w w1 : World} (h : TabE w) (hb : Below w.heap.size w w1) : TabE w1 := fun w' hb' => h w' (hb.trans (hb'.mono hb.size))
theorem bell (B : Nat) (w : World) (hB : B ≤ w.heap.size) (k : Nat) (os : Array Obj) : Below B w (grow (w.drewN k) os) :=
  ⟨rfl, rfl, rfl, by show w.heap.size ≤ (w.heap ++ os).size; rw [Array.size_append]; omega, fun j hj => by show (w.heap ++ os)[j]? = w.heap[j]?; rw [Array.getElem?_append_left (by omega)]⟩

theorem itoa_any (n : Nat) (x : Int) (w : World) (hx : x = n) (hn : n ≤ 100000) (hE : TabE w) :
    Calls Tryd.prog 29 #[.int .i64 x] w fun e w' => e = .returned (.string ⟨(decDigits n).toArray⟩) ∧ Below w.heap.size w w' := by
  subst hx
  refine (Tryd.strconv_Itoa n (by omega) (by omega) w (hE w (Below.refl _ _))).mono ?_
  rintro e w' ⟨rfl, k, os, rfl⟩
  exact ⟨by rw [itoa_nonneg], bell _ _ (Nat.le_refl _) k os⟩

/-- A cell's name (D2). -/
def nameB (c r : Nat) (f g : Bool) : ByteArray := ((fixS f ++ ⟨(colN c).toArray⟩) ++ fixS g) ++ ⟨(decDigits (r + 1)).toArray⟩
theorem fixS_le (f : Bool) : (fixS f).size ≤ 1 := by cases f <;> decide
theorem colN_le (c : Nat) : (colN c).length ≤ 2 := by unfold colN; split <;> simp
theorem dec_le (n : Nat) (h : n ≤ 100000) : (decDigits n).length ≤ 20 := by rw [decDigits_length]; exact nDigits_le20 _ (by omega)

theorem wr1 {y : Int} (h0 : 0 ≤ y) (h1 : y < 1024) : IntKind.i64.wrap (y + 1) = y + 1 := by
  simp [IntKind.wrap, IntKind.bits, IntKind.signed]
  omega

set_option maxHeartbeats 8000000 in
theorem print_in (c r : Nat) (x y : Int) (f g : Bool) (w : World) (hx : x = c) (hy : y = r) (hc : c < 64) (hr : r < 1024) (hE : TabE w) :
    Calls Tryd.prog 11 #[.agg #[.int .i64 x, .int .i64 y, .bool f, .bool g]] w fun e w' => e = .returned (.string (nameB c r f g)) ∧ Below w.heap.size w w' := by
  have hin : inB x y := ⟨by omega, by omega, by omega, by omega⟩
  have co : Hid (∀ w, _) := fun w => outside_in x y f g w hin
  have y0 : 0 ≤ y := by omega
  have y1 : y < 1024 := by omega
  have cc0 := fun w => columnName_any x w (by omega) (by omega)
  rw [show x.toNat = c by omega] at cc0
  have ci0 : ∀ w, TabE w → _ := fun w h => itoa_any (r + 1) (IntKind.i64.wrap (y + 1)) w (by rw [wr1 y0 y1]; omega) (by omega) h
  have cf0 := fun w => fixSign_any f w
  have cg0 := fun w => fixSign_any g w
  have l1 := fixS_le f
  have l2 := fixS_le g
  have l3 := colN_le c
  have l4 := dec_le (r + 1) (by omega)
  unfold nameB
  obtain ⟨F, eF⟩ : ∃ F, fixS f = F := ⟨_, rfl⟩
  obtain ⟨G, eG⟩ : ∃ G, fixS g = G := ⟨_, rfl⟩
  obtain ⟨C, eC⟩ : ∃ C : ByteArray, ⟨(colN c).toArray⟩ = C := ⟨_, rfl⟩
  obtain ⟨D, eD⟩ : ∃ D : ByteArray, ⟨(decDigits (r + 1)).toArray⟩ = D := ⟨_, rfl⟩
  have l3' : C.size ≤ 2 := by rw [← eC]; simpa [ByteArray.size] using l3
  have l4' : D.size ≤ 20 := by rw [← eD]; simpa [ByteArray.size] using l4
  rw [eF] at cf0 l1 ⊢
  rw [eG] at cg0 l2 ⊢
  rw [eC] at cc0 ⊢
  rw [eD] at ci0 ⊢
  have s1 : ∀ W, (Op.stringOp .add F C).run Tryd.prog W = .ok (.string (F ++ C)) W := fun W => run_string_add_sum W F C (by omega)
  have s2 : ∀ W, (Op.stringOp .add (F ++ C) G).run Tryd.prog W = .ok (.string (F ++ C ++ G)) W := fun W => run_string_add_sum W (F ++ C) G (by rw [ByteArray.size_append]; omega)
  have s3 : ∀ W, (Op.stringOp .add (F ++ C ++ G) D).run Tryd.prog W = .ok (.string (F ++ C ++ G ++ D)) W := fun W => run_string_add_sum W (F ++ C ++ G) D (by rw [ByteArray.size_append, ByteArray.size_append]; omega)
  have cc : Hid (∀ w, _) := cc0
  have ci : Hid (∀ w, TabE w → _) := ci0
  have cf : Hid (∀ w, _) := cf0
  have cg : Hid (∀ w, _) := cg0
  have hE' : Hid (∀ A B, TabE ((w.alloc A).alloc B).drew) := fun A B => hE.step (by go_grown)
  clear cc0 ci0 cf0 cg0 l1 l2 l3 l4 l3' l4' eF eG eC eD hx hy hin hE
  go_enter Tryd.func11, Tryd.ntmps11
  go_wp2_with fail
  refine (co.out _).mono ?_
  rintro e w' ⟨rfl, rfl⟩
  go_wp2_with fail
  have pX : ∀ (B : Obj) (o : Nat) (v : Value), (w.alloc (.cells #[.int .i64 x, .int .i64 y, .bool f, .bool g] 23)).cell? ⟨w.heap.size, o, none⟩ = some v → ((w.alloc (.cells #[.int .i64 x, .int .i64 y, .bool f, .bool g] 23)).alloc B).drew.cell? ⟨w.heap.size, o, none⟩ = some v := fun B o v h => by
    simp only [World.cell?_drew]
    rw [World.cell?_alloc_past _ _ _ (by simp)]
    exact h
  have e0 : (w.alloc (.cells #[.int .i64 x, .int .i64 y, .bool f, .bool g] 23)).cell? ⟨w.heap.size, 0, none⟩ = some (.int .i64 x) := by rw [World.cell?_alloc_at _ _ _ _ rfl]; rfl
  have e1 : (w.alloc (.cells #[.int .i64 x, .int .i64 y, .bool f, .bool g] 23)).cell? ⟨w.heap.size, 1, none⟩ = some (.int .i64 y) := by rw [World.cell?_alloc_at _ _ _ _ rfl]; rfl
  have e2 : (w.alloc (.cells #[.int .i64 x, .int .i64 y, .bool f, .bool g] 23)).cell? ⟨w.heap.size, 2, none⟩ = some (.bool f) := by rw [World.cell?_alloc_at _ _ _ _ rfl]; rfl
  have e3 : (w.alloc (.cells #[.int .i64 x, .int .i64 y, .bool f, .bool g] 23)).cell? ⟨w.heap.size, 3, none⟩ = some (.bool g) := by rw [World.cell?_alloc_at _ _ _ _ rfl]; rfl
  have d0 := fun B => pX B 0 _ e0
  have d1 := fun B => pX B 1 _ e1
  have d2 := fun B => pX B 2 _ e2
  have d3 := fun B => pX B 3 _ e3
  clear pX e0 e1 e2 e3
  go_region_held2 (fun w' => w'.cell? ⟨w.heap.size, 0, none⟩ = some (.int .i64 x) ∧ w'.cell? ⟨w.heap.size, 1, none⟩ = some (.int .i64 y) ∧ w'.cell? ⟨w.heap.size, 2, none⟩ = some (.bool f) ∧ w'.cell? ⟨w.heap.size, 3, none⟩ = some (.bool g)) (go_keep)
    (first | (go_at_call 27; first | (refine (cf.out _).mono ?_; rintro e w' ⟨rfl, rfl⟩) | (refine (cg.out _).mono ?_; rintro e w' ⟨rfl, rfl⟩)) | (go_at_call 28; refine (cc.out _).mono ?_; rintro e w' ⟨rfl, rfl⟩) | (go_at_call 29; refine (ci.out _ (hE'.out _ _)).mono ?_; rintro e w9 ⟨rfl, hb9⟩; have k0 := (hb9.cell (p := ⟨w.heap.size, 0, none⟩) (by simp <;> omega)).trans (d0 _); have k1 := (hb9.cell (p := ⟨w.heap.size, 1, none⟩) (by simp <;> omega)).trans (d1 _); have k2 := (hb9.cell (p := ⟨w.heap.size, 2, none⟩) (by simp <;> omega)).trans (d2 _); have k3 := (hb9.cell (p := ⟨w.heap.size, 3, none⟩) (by simp <;> omega)).trans (d3 _)))
  all_goals
    go_wp2_with fail
    go_ret
    exact ⟨rfl, Below.trans (by go_grown) (hb9.mono (by simp <;> omega))⟩
end Go.Proofs.YtjbkjeabobccaacDoor
