import Derived.Test.YtjbkjeabobccaacGreatDoorValCount
import Derived.Laws.IdiomStrings
import Derived.Deep.CutRange
import Derived.Deep.CutBlock
import Derived.Lib.ItoaMem
namespace Go.Proofs.YtjbkjeabobccaacGreatDoor
open Go.RowKit Go.Sort Go.Lib
set_option linter.unusedVariables false

/-- A small letter as a capital one. -/
def cap (c : UInt8) : UInt8 := if 97 ≤ c.toNat ∧ c.toNat ≤ 122 then c - 32 else c
theorem cap_sub {c : UInt8} (h1 : 97 ≤ (c.toNat : Int)) (h2 : (c.toNat : Int) ≤ 122) : ((cap c).toNat : Int) = (c.toNat : Int) - 32 := by
  unfold cap
  rw [if_pos (by omega)]
  have : (32 : UInt8) ≤ c := by rw [UInt8.le_iff_toNat_le]; have : (32 : UInt8).toNat = 32 := rfl; omega
  rw [UInt8.toNat_sub_of_le _ _ this]
  have : (32 : UInt8).toNat = 32 := rfl
  omega
theorem cap_no {c : UInt8} (h : ¬ (97 ≤ (c.toNat : Int) ∧ (c.toNat : Int) ≤ 122)) : cap c = c := by
  unfold cap
  rw [if_neg (by omega)]
def capTo (s : ByteArray) (i j : Nat) : UInt8 := if j < i then cap (s.data.toList.getD j 0) else s.data.toList.getD j 0

structure Cpy (s : ByteArray) (w wx : World) (i : Nat) : Prop where
  cells : ∀ j, j < s.size → wx.cell? ⟨w.heap.size, j, none⟩ = some (.int .u8 ((capTo s i j).toNat : Int))
  free : ∀ j, j < s.size → wx.frozen? ⟨w.heap.size, j, none⟩ = false
  below : Below w.heap.size w wx
theorem cpy_start (s : ByteArray) (w : World) (cap : Nat) (wx : World) (hw : wx.heap = (w.alloc (.cells (bytesRow s cap) 5 ((bytesRow s cap).size, (bytesRow s cap).size + 1))).heap) (hb : Below w.heap.size w wx) : Cpy s w wx 0 := by
  have e : wx.heap = w.heap.push (.cells (bytesRow s cap) 5 ((bytesRow s cap).size, (bytesRow s cap).size + 1)) := hw
  have h1 : wx.heap[w.heap.size]? = some (.cells (bytesRow s cap) 5 ((bytesRow s cap).size, (bytesRow s cap).size + 1)) := by rw [e, Array.getElem?_push_size]
  have hsz : s.size ≤ (bytesRow s cap).size := by unfold bytesRow; rw [Array.size_append, Array.size_map]; have : s.data.size = s.size := rfl; omega
  refine ⟨fun j hj => ?_, fun j hj => ?_, hb⟩
  · have := bytesRow_at s cap j (by simpa using hj)
    simp only [World.cell?, h1]
    rw [show capTo s 0 j = s.data[j]'(by simpa using hj) by
      unfold capTo
      rw [if_neg (by omega), List.getD_eq_getElem?_getD, List.getElem?_eq_getElem (by simpa using hj)]
      rfl]
    simpa using this
  · simp only [World.frozen?, h1]
    simp
    omega
theorem Cpy.skip {s : ByteArray} {w wx : World} {i : Nat} (h : Cpy s w wx i) (hi : i < s.size) (hn : cap (s.data.toList.getD i 0) = s.data.toList.getD i 0) : Cpy s w wx (i + 1) := by
  refine ⟨fun j hj => ?_, h.free, h.below⟩
  rw [h.cells j hj]
  unfold capTo
  by_cases e : j = i
  · subst e; rw [if_neg (by omega), if_pos (by omega), hn]
  · by_cases l : j < i
    · rw [if_pos l, if_pos (by omega)]
    · rw [if_neg l, if_neg (by omega)]
theorem Cpy.next {s : ByteArray} {w wx : World} {i : Nat} (h : Cpy s w wx i) (hi : i < s.size) (v : Int) (hv : v = ((cap (s.data.toList.getD i 0)).toNat : Int)) : Cpy s w (wx.setCell ⟨w.heap.size, i, none⟩ (.int .u8 v)) (i + 1) := by
  refine ⟨fun j hj => ?_, fun j hj => ?_, h.below.setCell (Nat.le_refl _) _⟩
  · by_cases e : j = i
    · subst e
      rw [World.cell?_setCell_same _ _ _ (h.cells j hj), hv]
      unfold capTo
      rw [if_pos (by omega)]
    · rw [World.cell?_setCell_other _ _ _ _ (by intro hh; apply e; injection hh with _ h2; exact h2.symm), h.cells j hj]
      unfold capTo
      by_cases l : j < i
      · rw [if_pos l, if_pos (by omega)]
      · rw [if_neg l, if_neg (by omega)]
  · rw [World.frozen?_setCell]; exact h.free j hj

set_option maxHeartbeats 4000000 in
set_option maxRecDepth 100000 in
theorem capitals_any (s : ByteArray) (w : World) (hs : s.size ≤ maxLen) :
    Calls Tryz.prog 14 #[.string s] w fun e w' => e = .returned (.string ⟨(s.data.toList.map cap).toArray⟩) ∧ Below w.heap.size w w' := by
  unfold maxLen at hs
  have hcv : ∀ W : World, (convert 9 58 (.string s)).run Tryz.prog W = .ok (.slice (some ⟨W.heap.size, 0, none⟩) s.size (grownCap W s.size 0 5))
      (W.drew.alloc (.cells (bytesRow s (grownCap W s.size 0 5)) 5 ((bytesRow s (grownCap W s.size 0 5)).size, (bytesRow s (grownCap W s.size 0 5)).size + 1))) :=
    fun W => run_bytes_of_string W 9 58 5 s Tryz.underlying9 Tryz.underlying58 Tryz.underlying5
  go_enter Tryz.func14, Tryz.ntmps14
  go_upto_block 0 with fail
  obtain ⟨cp, ecap⟩ : ∃ cap, grownCap w s.size 0 5 = cap := ⟨_, rfl⟩
  rw [ecap]
  clear ecap hcv
  go_cut [10] from 10 (fun i wx => Hid (Cpy s w wx s.size))
  case first =>
    go_wp2_with fail
    go_loopw [10] (fun i wr => ∃ k : Nat, k ≤ s.size ∧ i = .int .i64 k ∧ Hid (Cpy s w wr k)) (fun i _ => s.size - (RowKit.intOf i).toNat)
    case atStart => exact ⟨0, Nat.zero_le _, rfl, cpy_start s w cp _ rfl (by go_grown)⟩
    case round =>
      obtain ⟨k, hk, rfl, HC⟩ := hrel
      by_cases hlt : k < s.size
      · have cc := HC.out.cells k hlt
        have cf := HC.out.free k hlt
        have eu : capTo s k k = s[k] := by
          unfold capTo
          rw [if_neg (by omega), List.getD_eq_getElem?_getD, List.getElem?_eq_getElem (by simpa using hlt)]
          rfl
        have eg : s.data.toList.getD k 0 = s[k] := by
          rw [List.getD_eq_getElem?_getD, List.getElem?_eq_getElem (by simpa using hlt)]
          rfl
        rw [eu] at cc
        obtain ⟨c, ec⟩ : ∃ c, s[k] = c := ⟨_, rfl⟩
        rw [ec] at cc eg
        have EG := hidv eg
        have hc := c.toNat_lt
        clear eu ec eg
        by_cases h1 : 97 ≤ (c.toNat : Int)
        · by_cases h2 : (c.toNat : Int) ≤ 122
          · have HN := hidv (HC.out.next hlt ((c.toNat : Int) - 97 + 65) (by rw [EG.out, cap_sub h1 h2]; omega))
            go_wp2
            go_roundw
            case rel => exact ⟨k + 1, by omega, by go_num, HN⟩
            case measure => simp [RowKit.intOf]; omega
          · have HN := hidv (HC.out.skip hlt (by rw [EG.out]; exact cap_no (by omega)))
            go_wp2
            go_roundw
            case rel => exact ⟨k + 1, by omega, by go_num, HN⟩
            case measure => simp [RowKit.intOf]; omega
        · have HN := hidv (HC.out.skip hlt (by rw [EG.out]; exact cap_no (by omega)))
          go_wp2
          go_roundw
          case rel => exact ⟨k + 1, by omega, by go_num, HN⟩
          case measure => simp [RowKit.intOf]; omega
      · obtain rfl : k = s.size := by omega
        go_wp2_with fail
        go_meet
        exact HC
  case rest =>
  have HC := hcut
  clear hcut
  obtain ⟨tB, HtB⟩ : ∃ tB : ByteArray, Hid (tB = ⟨(s.data.toList.map cap).toArray⟩) := ⟨_, rfl⟩
  have hback : (convert 58 9 (.slice (some ⟨w.heap.size, 0, none⟩) s.size cp)).run Tryz.prog wc = .ok (.string tB) wc := by
    have := run_convert_bytes_back (P := Tryz.prog) wc 58 9 5 ⟨w.heap.size, 0, none⟩ cp (s.data.toList.map cap) Tryz.underlying58 Tryz.underlying5 Tryz.underlying9
      (fun j hj => by
        have hj' : j < s.size := by simpa using hj
        rw [Lib.add_plain, Nat.zero_add, HC.out.cells j hj']
        congr 2
        unfold capTo
        rw [if_pos hj', List.getD_eq_getElem?_getD, List.getElem?_eq_getElem (by simpa using hj')]
        simp)
    rw [HtB.out]
    simpa using this
  have HB := hidv HC.out.below
  clear HC
  go_wp2_with fail
  go_ret
  exact ⟨by rw [HtB.out]; rfl, HB.out⟩

end Go.Proofs.YtjbkjeabobccaacGreatDoor
