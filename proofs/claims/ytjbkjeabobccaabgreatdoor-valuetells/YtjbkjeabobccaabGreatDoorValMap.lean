import Derived.Test.YtjbkjeabobccaabGreatDoorValOrder
import Derived.Maps.OwnOps
import Derived.MapKept
namespace Go.Proofs.YtjbkjeabobccaabGreatDoor
open Go.RowKit Go.Sort Go.Lib
set_option linter.unusedVariables false

theorem set_pushed (w : World) (o o' : Obj) : { w.alloc o with heap := (w.alloc o).heap.setIfInBounds w.heap.size o' } = w.alloc o' := by
  have : (w.alloc o).heap.setIfInBounds w.heap.size o' = (w.alloc o').heap := by
    show (w.heap.push o).setIfInBounds w.heap.size o' = w.heap.push o'
    apply Array.ext
    · simp
    · intro i h1 h2
      simp at h1
      rw [Array.getElem_setIfInBounds (by simpa using h1)]
      by_cases e : w.heap.size = i
      · subst e; simp
      · rw [if_neg e, Array.getElem_push_lt (by omega), Array.getElem_push_lt (by omega)]
  rw [this]
  rfl
theorem run_insert_now {P : Program} {T K E : TypeId} (hT : P.underlying T = some (.map K E)) (hK : P.underlying K = some .string) (w : World) (es : Array MapEntry) (c : Nat) (k : ByteArray) (v : Value)
    (hf : Instr.findNow .string (.string k) es.toList 0 = some none) :
    (Instr.mapUpdate T (.map (some w.heap.size)) (.string k) v).run P (w.alloc (.map es c)) = .ok () (w.alloc (.map (es.push ⟨.string k, v, c⟩) (c + 1))) := by
  have hh : (w.alloc (.map es c)).heap[w.heap.size]? = some (.map es c) := by show (w.heap.push _)[_]? = _; rw [Array.getElem?_push_size]
  have h1 := MapKept.run_checkKey (P := P) (w := w.alloc (.map es c)) (k := .string k) hK (by simp [MapKept.IsKey]) false 9999
  have h2 := MapKept.run_findKey (P := P) (w := w.alloc (.map es c)) hK hf
  unfold Instr.mapUpdate
  simp only [Sem.run_bind, run_underlying hT, Result.andThen, MapKept.run_getObj_map hh, h1, h2, MapKept.run_setObj_map _ hh, set_pushed]
theorem run_lookup_now {P : Program} {T K E : TypeId} (hT : P.underlying T = some (.map K E)) (hK : P.underlying K = some .string) (w : World) (r : Nat) (es : Array MapEntry) (c : Nat) (hh : w.heap[r]? = some (.map es c)) (k : ByteArray) (i : Nat) (v : Value)
    (hf : Instr.findNow .string (.string k) es.toList 0 = some (some (i, v))) :
    (Instr.lookup T (.map (some r)) (.string k) true).run P w = .ok (.tuple #[v, .bool true]) w := by
  have h1 := fun e => MapKept.run_checkKey (P := P) (w := w) (k := .string k) hK (by simp [MapKept.IsKey]) e 9999
  have h2 := MapKept.run_findKey (P := P) (w := w) hK hf
  unfold Instr.lookup
  simp only [Sem.run_bind, run_underlying hT, Result.andThen, MapKept.run_getObj_map hh, Sem.run_pure, h1, h2, if_true]
theorem run_lookup_none {P : Program} {T K E : TypeId} (hT : P.underlying T = some (.map K E)) (hK : P.underlying K = some .string) (w : World) (r : Nat) (es : Array MapEntry) (c : Nat) (hh : w.heap[r]? = some (.map es c)) (k : ByteArray) (z : Value)
    (hz : (zeroValue E).run P w = .ok z w) (hf : Instr.findNow .string (.string k) es.toList 0 = some none) :
    (Instr.lookup T (.map (some r)) (.string k) true).run P w = .ok (.tuple #[z, .bool false]) w := by
  have h1 := fun e => MapKept.run_checkKey (P := P) (w := w) (k := .string k) hK (by simp [MapKept.IsKey]) e 9999
  have h2 := MapKept.run_findKey (P := P) (w := w) hK hf
  unfold Instr.lookup
  simp only [Sem.run_bind, run_underlying hT, Result.andThen, MapKept.run_getObj_map hh, Sem.run_pure, h1, h2, hz, if_true]

theorem wpList_insert_now {P : Program} (w : World) {ops : Array Oper} {rest : List Oper} {o : Oper} {a : Act} {Q : Exit → Act → World → Prop}
    (hg : o.guard = none) (m x v : Operand) (T : TypeId) (hop : o.op = Op.insert T m x v) (K E : TypeId) (hT : P.underlying T = some (.map K E)) (hK : P.underlying K = some .string)
    (es : Array MapEntry) (c : Nat) (hm : a.eval m = .map (some w.heap.size)) (key : ByteArray) (val : Value) (hx : a.eval x = .string key) (hv : a.eval v = val) (hf : Instr.findNow .string (.string key) es.toList 0 = some none)
    (h : wpList P ops Q rest (a.put o.dst undef) (w.alloc (.map (es.push ⟨.string key, val, c⟩) (c + 1)))) : wpList P ops Q (o :: rest) a (w.alloc (.map es c)) := by
  refine wpList_plain hg fun K' hK' => ?_
  unfold Oper.wp
  simp [execOp, hop, hm, hx, hv, run_insert_now hT hK w es c key val hf, Result.andThen]
  exact hK' _ _ h

def calcMap : Array MapEntry := #[⟨.string ⟨#[43]⟩, .func (.func 76) #[] #[], 0⟩, ⟨.string ⟨#[45]⟩, .func (.func 77) #[] #[], 1⟩, ⟨.string ⟨#[42]⟩, .func (.func 78) #[] #[], 2⟩, ⟨.string ⟨#[47]⟩, .func (.func 79) #[] #[], 3⟩, ⟨.string ⟨#[94]⟩, .func (.func 80) #[] #[], 4⟩]
set_option maxHeartbeats 800000 in
theorem calculations_any (w : World) : Calls Tryz.prog 48 #[] w fun e w' => e = .returned (.map (some w.heap.size)) ∧ w' = w.alloc (.map calcMap 5) := by
  have hmm := @run_makeMap Tryz.prog
  go_enter Tryz.func48, Tryz.ntmps48
  go_wp2_with (refine wpList_insert_now _ rfl _ _ _ _ rfl _ _ Tryz.underlying69 Tryz.underlying9 _ _ rfl _ _ rfl rfl (by rfl) ?_)
  go_ret
  exact ⟨rfl, rfl⟩
end Go.Proofs.YtjbkjeabobccaabGreatDoor
