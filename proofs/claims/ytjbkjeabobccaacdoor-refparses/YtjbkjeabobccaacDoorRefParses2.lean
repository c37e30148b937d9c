import Derived.Test.YtjbkjeabobccaacDoorRefParses1
import Derived.Test.YtjbkjeabobccaacDoorRefPrintsWalk
import Derived.Laws.IdiomStrings
import Derived.Deep.CutRange
import Derived.Deep.CutBlock
namespace Go.Proofs.YtjbkjeabobccaacDoor
open Go.RowKit Go.Sort Go.Lib
set_option linter.unusedVariables false

theorem hidd {p : Prop} (h : p) : Hid p := h
/-- The text's bytes, those ahead of place i as capital letters. -/
def upTo (s : ByteArray) (i j : Nat) : UInt8 := if j < i then up (s.data.toList.getD j 0) else s.data.toList.getD j 0
/-- No cell's name with a column ahead of these, or of these, is the text. -/
def NoneTo (U : List UInt8) (C K : Nat) : Prop := ∀ c k, (c < C ∨ (c = C ∧ k < K)) → c < 64 → k < 4 → ∀ r, r < 1024 → fixL (decide (k % 2 = 1)) ++ colN c ++ fixL (decide (k / 2 = 1)) ++ dg 4 (r + 1) ≠ U
theorem up_sub {c : UInt8} (h1 : 97 ≤ (c.toNat : Int)) (h2 : (c.toNat : Int) ≤ 122) : ((up c).toNat : Int) = (c.toNat : Int) - 32 := by
  unfold up
  rw [if_pos (by omega)]
  have : (32 : UInt8) ≤ c := by rw [UInt8.le_iff_toNat_le]; have : (32 : UInt8).toNat = 32 := rfl; omega
  rw [UInt8.toNat_sub_of_le _ _ this]
  have : (32 : UInt8).toNat = 32 := rfl
  omega

/-- The copy of the text, and the answer's box, in a later world. -/
structure Copy (s : ByteArray) (w wx : World) (i : Nat) : Prop where
  cells : ∀ j, j < s.size → wx.cell? ⟨w.heap.size + 1, j, none⟩ = some (.int .u8 ((upTo s i j).toNat : Int))
  free : ∀ j, j < s.size → wx.frozen? ⟨w.heap.size + 1, j, none⟩ = false
  box : wx.heap[w.heap.size]? = some (.cells #[.int .i64 0, .int .i64 0, .bool false, .bool false] 26 (0, 0))
  below : Below w.heap.size w wx
theorem copy_start (s : ByteArray) (w : World) (cap : Nat) (wx : World) (hw : wx.heap = ((w.alloc (.cells #[.int .i64 0, .int .i64 0, .bool false, .bool false] 26)).alloc (.cells (bytesRow s cap) 5 ((bytesRow s cap).size, (bytesRow s cap).size + 1))).heap)
    (hb : Below w.heap.size w wx) : Copy s w wx 0 := by
  have e : wx.heap = (w.heap.push (.cells #[.int .i64 0, .int .i64 0, .bool false, .bool false] 26)).push (.cells (bytesRow s cap) 5 ((bytesRow s cap).size, (bytesRow s cap).size + 1)) := hw
  have h1 : wx.heap[w.heap.size + 1]? = some (.cells (bytesRow s cap) 5 ((bytesRow s cap).size, (bytesRow s cap).size + 1)) := by
    rw [e, show w.heap.size + 1 = (w.heap.push (.cells #[.int .i64 0, .int .i64 0, .bool false, .bool false] 26)).size by simp, Array.getElem?_push_size]
  have hsz : s.size ≤ (bytesRow s cap).size := by unfold bytesRow; rw [Array.size_append, Array.size_map]; have : s.data.size = s.size := rfl; omega
  refine ⟨fun j hj => ?_, fun j hj => ?_, ?_, hb⟩
  · have := bytesRow_at s cap j (by simpa using hj)
    simp only [World.cell?, h1]
    rw [show upTo s 0 j = s.data[j]'(by simpa using hj) by
      unfold upTo
      rw [if_neg (by omega), List.getD_eq_getElem?_getD, List.getElem?_eq_getElem (by simpa using hj)]
      rfl]
    simpa using this
  · simp only [World.frozen?, h1]
    simp
    omega
  · rw [e, Array.getElem?_push_lt (by simp), ← Array.getElem?_eq_getElem, Array.getElem?_push_size]
theorem Copy.skip {s : ByteArray} {w wx : World} {i : Nat} (h : Copy s w wx i) (hi : i < s.size) (hn : up (s.data.toList.getD i 0) = s.data.toList.getD i 0) : Copy s w wx (i + 1) := by
  refine ⟨fun j hj => ?_, h.free, h.box, h.below⟩
  rw [h.cells j hj]
  unfold upTo
  by_cases e : j = i
  · subst e; rw [if_neg (by omega), if_pos (by omega), hn]
  · by_cases l : j < i
    · rw [if_pos l, if_pos (by omega)]
    · rw [if_neg l, if_neg (by omega)]
theorem Copy.next {s : ByteArray} {w wx : World} {i : Nat} (h : Copy s w wx i) (hi : i < s.size) (v : Int) (hv : v = ((up (s.data.toList.getD i 0)).toNat : Int)) : Copy s w (wx.setCell ⟨w.heap.size + 1, i, none⟩ (.int .u8 v)) (i + 1) := by
  refine ⟨fun j hj => ?_, fun j hj => ?_, ?_, h.below.setCell (by show w.heap.size ≤ w.heap.size + 1; omega) _⟩
  · by_cases e : j = i
    · subst e
      rw [World.cell?_setCell_same _ _ _ (h.cells j hj), hv]
      unfold upTo
      rw [if_pos (by omega)]
    · rw [World.cell?_setCell_other _ _ _ _ (by intro hh; apply e; injection hh with _ h2; exact h2.symm), h.cells j hj]
      unfold upTo
      by_cases l : j < i
      · rw [if_pos l, if_pos (by omega)]
      · rw [if_neg l, if_neg (by omega)]
  · rw [World.frozen?_setCell]; exact h.free j hj
  · rw [Below.heap_setCell _ _ _ _ (by simp)]; exact h.box

theorem dg_len : ∀ r, r < 1024 → 1 ≤ (dg 4 (r + 1)).length ∧ (dg 4 (r + 1)).length ≤ 4 := by decide +kernel
/-- The number behind a column's letters, as the document's own reader tells it. -/
def nf : List UInt8 → Int → Int
  | [], n => n
  | c :: E, n => nf E (10 * (if (c.toNat : Int) < 48 ∨ 57 < (c.toNat : Int) then -100000 else n) + (c.toNat : Int) - 48)
theorem nf_dg : ∀ r, r < 1024 → nf (dg 4 (r + 1)) 0 = (r : Int) + 1 := by decide +kernel
def bd : Nat → Int
  | 0 => 0
  | k + 1 => 10 * (bd k + 1000000) + 300
theorem bd_le : ∀ k, k < 5 → 0 ≤ bd k ∧ bd k ≤ 100000000000 := by decide +kernel
theorem bd_nn : ∀ k, 0 ≤ bd k
  | 0 => by decide
  | k + 1 => by have := bd_nn k; unfold bd; omega
theorem nf_step {l : List UInt8} {p a : Nat} {N NF : Int} {c : UInt8} (ha : a ≤ p) (hp : p < l.length) (hc : l[p] = c) (h : -(bd (p - a)) ≤ N ∧ N ≤ bd (p - a) ∧ nf (l.drop p) N = NF) :
    -(bd (p + 1 - a)) ≤ 10 * (if (c.toNat : Int) < 48 ∨ 57 < (c.toNat : Int) then -100000 else N) + (c.toNat : Int) - 48 ∧ 10 * (if (c.toNat : Int) < 48 ∨ 57 < (c.toNat : Int) then -100000 else N) + (c.toNat : Int) - 48 ≤ bd (p + 1 - a) ∧
      nf (l.drop (p + 1)) (10 * (if (c.toNat : Int) < 48 ∨ 57 < (c.toNat : Int) then -100000 else N) + (c.toNat : Int) - 48) = NF := by
  obtain ⟨h1, h2, h3⟩ := h
  have hl := c.toNat_lt
  have hn := bd_nn (p - a)
  have e : bd (p + 1 - a) = 10 * (bd (p - a) + 1000000) + 300 := by rw [show p + 1 - a = (p - a) + 1 by omega]; rfl
  rw [List.drop_eq_getElem_cons hp, hc] at h3
  refine ⟨?_, ?_, h3⟩
  · rw [e]; split <;> omega
  · rw [e]; split <;> omega
theorem NoneTo.next {U A : List UInt8} {C K : Nat} {f g : Bool} (h : NoneTo U C K) (hA : fixL f ++ colN C ++ fixL g = A) (hf : f = decide (K % 2 = 1)) (hg : g = decide (K / 2 = 1)) (hn : ∀ r, r < 1024 → A ++ dg 4 (r + 1) ≠ U) : NoneTo U C (K + 1) := by
  intro c k hck hc hk r hr
  by_cases e : c = C ∧ k = K
  · obtain ⟨rfl, rfl⟩ := e
    rw [← hf, ← hg, hA]
    exact hn r hr
  · exact h c k (by rcases hck with h | h <;> omega) hc hk r hr
theorem no_short {U A : List UInt8} (h : U.length ≤ A.length ∨ A.length + 4 < U.length ∨ U.take A.length ≠ A) : ∀ r, r < 1024 → A ++ dg 4 (r + 1) ≠ U := by
  rintro r hr rfl
  have hl := dg_len r hr
  rcases h with h | h | h
  · simp at h; omega
  · simp at h; omega
  · exact h (by simp)
theorem no_tail {U A : List UInt8} {N : Int} (hN : nf (U.drop A.length) 0 = N) (h : ∀ r : Nat, r < 1024 → N - 1 = r → A ++ dg 4 (r + 1) ≠ U) : ∀ r, r < 1024 → A ++ dg 4 (r + 1) ≠ U := by
  intro r hr e
  refine h r hr ?_ e
  rw [← hN, ← e, List.drop_left, nf_dg r hr]
  omega
theorem cell_no {l : List UInt8} (h : NoneTo (l.map up) 64 0) : cellR l = (0, 0, false, false, false) := by
  cases hk : (cellR l).2.2.2.2
  · unfold cellR at hk ⊢
    simp only at hk ⊢
    split at hk
    · cases hk
    · rename_i hh; rw [if_neg hh]
  · exfalso
    obtain ⟨c1, c2, r1, r2, e⟩ := cell_is_name l hk
    obtain ⟨k, hk4, kf, kg⟩ : ∃ k, k < 4 ∧ decide (k % 2 = 1) = (cellR l).2.2.1 ∧ decide (k / 2 = 1) = (cellR l).2.2.2.1 := by
      cases (cellR l).2.2.1 <;> cases (cellR l).2.2.2.1
      · exact ⟨0, by omega, by decide, by decide⟩
      · exact ⟨2, by omega, by decide, by decide⟩
      · exact ⟨1, by omega, by decide, by decide⟩
      · exact ⟨3, by omega, by decide, by decide⟩
    refine h (cellR l).1.toNat k (.inl (by omega)) (by omega) hk4 (cellR l).2.1.toNat (by omega) ?_
    rw [kf, kg, e]
theorem cell_yes {l : List UInt8} {c r : Nat} {f g : Bool} (hc : c < 64) (hr : r < 1024) (h : (nameB c r f g).data.toList = l.map up) : cellR l = ((c : Int), (r : Int), f, g, true) := by
  rw [← cellR_up, ← h]
  exact name_cell c r f g hc hr
theorem gr3' (W : World) (o : Obj) : Below W.heap.size W (W.alloc o) := (Below.refl _ _).alloc (Nat.le_refl _) _
theorem lt_of_block' {w : World} {b : Nat} {o : Obj} (h : w.heap[b]? = some o) : b < w.heap.size := by
  rcases Nat.lt_or_ge b w.heap.size with h' | h'
  · exact h'
  · simp [Array.getElem?_eq_none h'] at h
theorem box4 {w W w9 : World} {A : Obj} (hW : W.heap = (w.alloc A).heap) (hb : Below W.heap.size W w9) : w9.heap[w.heap.size]? = some A ∧ w.heap.size < w9.heap.size := by
  have e : W.heap = w.heap.push A := hW
  have hs := hb.size
  have es : W.heap.size = w.heap.size + 1 := by rw [e]; simp
  exact ⟨by rw [hb.block _ (by omega), e, Array.getElem?_push_size], by omega⟩
theorem key2' {w X w9 : World} (h1 : Below w.heap.size w X) (h2 : Below X.heap.size X w9) : Below w.heap.size w w9 := h1.trans (h2.mono h1.size)
theorem keepbox {w1 w2 : World} {b : Nat} {o : Obj} (h : w1.heap[b]? = some o) (hb : Below w1.heap.size w1 w2) : w2.heap[b]? = some o := by
  have hlt : b < w1.heap.size := by
    rcases Nat.lt_or_ge b w1.heap.size with h' | h'
    · exact h'
    · simp [Array.getElem?_eq_none h'] at h
  rw [hb.block _ hlt]; exact h
theorem four_cells {w : World} {b : Nat} {p q r t : Value} {T : TypeId} (h : w.heap[b]? = some (.cells #[p, q, r, t] T (0, 0))) :
    w.cell? ⟨b, 0, none⟩ = some p ∧ w.cell? ⟨b, 1, none⟩ = some q ∧ w.cell? ⟨b, 2, none⟩ = some r ∧ w.cell? ⟨b, 3, none⟩ = some t ∧ w.frozen? ⟨b, 0, none⟩ = false ∧ w.frozen? ⟨b, 1, none⟩ = false ∧ w.frozen? ⟨b, 2, none⟩ = false ∧ w.frozen? ⟨b, 3, none⟩ = false := by
  refine ⟨?_, ?_, ?_, ?_, ?_, ?_, ?_, ?_⟩ <;> first | (simp [World.cell?, h]; done) | (simp [World.frozen?, h]; done)

theorem outs {w w2 : World} {b : Nat} {A : Obj} (h : w2.heap[w.heap.size]? = some A) (hb : Below w.heap.size w w2) (hl : w.heap.size < b) (o : Nat) (v : Value) (B : Obj) :
    ((w2.setCell ⟨b, o, none⟩ v).alloc B).heap[w.heap.size]? = some A ∧ Below w.heap.size w ((w2.setCell ⟨b, o, none⟩ v).alloc B) := by
  have h1 : (w2.setCell ⟨b, o, none⟩ v).heap[w.heap.size]? = some A := by rw [Below.heap_setCell _ _ _ _ (by show w.heap.size ≠ b; omega)]; exact h
  exact ⟨keepbox h1 (gr3' _ _), (hb.setCell (p := ⟨b, o, none⟩) (by show w.heap.size ≤ b; omega) v).alloc (by rw [World.size_setCell]; exact hb.size) _⟩
theorem outs2 {w w2 w5 : World} {b : Nat} {A : Obj} {x0 x1 x2 x3 v : Value} {T : TypeId} {B : Obj} (h : w2.heap[w.heap.size]? = some A) (hb : Below w.heap.size w w2) (hr : w2.heap[b]? = some (.cells #[x0, x1, x2, x3] T (0, 0))) (hl : w.heap.size < b)
    (h5 : Below ((w2.setCell ⟨b, 1, none⟩ v).alloc B).heap.size ((w2.setCell ⟨b, 1, none⟩ v).alloc B) w5) :
    w5.heap[w.heap.size]? = some A ∧ Below w.heap.size w w5 ∧ w5.heap[b]? = some (.cells #[x0, v, x2, x3] T (0, 0)) := by
  obtain ⟨a1, a2⟩ := outs h hb hl 1 v B
  refine ⟨keepbox a1 h5, a2.trans (h5.mono a2.size), ?_⟩
  refine keepbox (keepbox ?_ (gr3' _ _)) h5
  have hlt := lt_of_block' hr
  have hg : w2.heap[b] = .cells #[x0, x1, x2, x3] T (0, 0) := by rw [Array.getElem?_eq_getElem hlt] at hr; exact Option.some.inj hr
  simp [World.setCell, hlt, Array.getElem_modify, hg]
theorem four_set {w : World} {b : Nat} {a0 a1 a2 a3 : Value} (j0 : w.cell? ⟨b, 0, none⟩ = some a0) (j1 : w.cell? ⟨b, 1, none⟩ = some a1) (j2 : w.cell? ⟨b, 2, none⟩ = some a2) (j3 : w.cell? ⟨b, 3, none⟩ = some a3) :
    (∀ x, (w.setCell ⟨b, 0, none⟩ x).cell? ⟨b, 0, none⟩ = some x) ∧ (∀ x y, ((w.setCell ⟨b, 0, none⟩ x).setCell ⟨b, 1, none⟩ y).cell? ⟨b, 1, none⟩ = some y) ∧
    (∀ x y z, (((w.setCell ⟨b, 0, none⟩ x).setCell ⟨b, 1, none⟩ y).setCell ⟨b, 2, none⟩ z).cell? ⟨b, 2, none⟩ = some z) ∧
    (∀ x y z t, ((((w.setCell ⟨b, 0, none⟩ x).setCell ⟨b, 1, none⟩ y).setCell ⟨b, 2, none⟩ z).setCell ⟨b, 3, none⟩ t).cell? ⟨b, 3, none⟩ = some t) := by
  refine ⟨fun x => World.cell?_setCell_same _ _ _ j0, fun x y => World.cell?_setCell_same _ _ _ (u := a1) ?_, fun x y z => World.cell?_setCell_same _ _ _ (u := a2) ?_, fun x y z t => World.cell?_setCell_same _ _ _ (u := a3) ?_⟩
  · rw [World.cell?_setCell_other _ _ _ _ (by simp)]; exact j1
  · rw [World.cell?_setCell_other _ _ _ _ (by simp), World.cell?_setCell_other _ _ _ _ (by simp)]; exact j2
  · rw [World.cell?_setCell_other _ _ _ _ (by simp), World.cell?_setCell_other _ _ _ _ (by simp), World.cell?_setCell_other _ _ _ _ (by simp)]; exact j3
set_option maxHeartbeats 16000000 in
set_option maxRecDepth 100000 in
theorem rfParse_any (s : ByteArray) (w : World) (hs : s.size ≤ maxLen) :
    Calls Tryd.prog 9 #[.string s] w fun e w' => e = .returned (.tuple #[.agg #[.int .i64 (cellR s.data.toList).1, .int .i64 (cellR s.data.toList).2.1, .bool (cellR s.data.toList).2.2.1, .bool (cellR s.data.toList).2.2.2.1], .bool (cellR s.data.toList).2.2.2.2]) ∧ Below w.heap.size w w' := by
  unfold maxLen at hs
  obtain ⟨P, eP⟩ : ∃ P, cellR s.data.toList = P := ⟨_, rfl⟩
  rw [eP]
  have HP := hidd eP
  clear eP
  have hcv : ∀ W : World, (convert 9 57 (.string s)).run Tryd.prog W = .ok (.slice (some ⟨W.heap.size, 0, none⟩) s.size (grownCap W s.size 0 5))
      (W.drew.alloc (.cells (bytesRow s (grownCap W s.size 0 5)) 5 ((bytesRow s (grownCap W s.size 0 5)).size, (bytesRow s (grownCap W s.size 0 5)).size + 1))) :=
    fun W => run_bytes_of_string W 9 57 5 s Tryd.underlying9 Tryd.underlying57 Tryd.underlying5
  go_enter Tryd.func9, Tryd.ntmps9
  go_upto_block 0 with fail
  obtain ⟨cap, ecap⟩ : ∃ cap, grownCap (w.alloc (.cells #[.int .i64 0, .int .i64 0, .bool false, .bool false] 26)) s.size 0 5 = cap := ⟨_, rfl⟩
  rw [ecap]
  clear ecap hcv
  go_cut [5] from 15 (fun i wx => Hid (Copy s w wx s.size))
  case first =>
    go_wp2_with fail
    go_loopw [5] (fun i wr => ∃ k : Nat, k ≤ s.size ∧ i = .int .i64 k ∧ Hid (Copy s w wr k)) (fun i _ => s.size - (RowKit.intOf i).toNat)
    case atStart => exact ⟨0, Nat.zero_le _, rfl, copy_start s w cap _ rfl (by go_grown)⟩
    case round =>
      obtain ⟨k, hk, rfl, HC⟩ := hrel
      by_cases hlt : k < s.size
      · have cc := HC.out.cells k hlt
        have cf := HC.out.free k hlt
        have eu : upTo s k k = s[k] := by
          unfold upTo
          rw [if_neg (by omega), List.getD_eq_getElem?_getD, List.getElem?_eq_getElem (by simpa using hlt)]
          rfl
        have eg : s.data.toList.getD k 0 = s[k] := by
          rw [List.getD_eq_getElem?_getD, List.getElem?_eq_getElem (by simpa using hlt)]
          rfl
        rw [eu] at cc
        obtain ⟨c, ec⟩ : ∃ c, s[k] = c := ⟨_, rfl⟩
        rw [ec] at cc eg
        have EG := hidd eg
        have hc := c.toNat_lt
        clear eu ec eg
        by_cases h1 : 97 ≤ (c.toNat : Int)
        · by_cases h2 : (c.toNat : Int) ≤ 122
          · have HN := hidd (HC.out.next hlt ((c.toNat : Int) - 32) (by rw [EG.out, up_sub h1 h2]))
            go_wp2
            go_roundw
            case rel => exact ⟨k + 1, by omega, by go_num, HN⟩
            case measure => simp [RowKit.intOf]; omega
          · have HN := hidd (HC.out.skip hlt (by rw [EG.out]; unfold up; rw [if_neg (by omega)]))
            go_wp2
            go_roundw
            case rel => exact ⟨k + 1, by omega, by go_num, HN⟩
            case measure => simp [RowKit.intOf]; omega
        · have HN := hidd (HC.out.skip hlt (by rw [EG.out]; unfold up; rw [if_neg (by omega)]))
          go_wp2
          go_roundw
          case rel => exact ⟨k + 1, by omega, by go_num, HN⟩
          case measure => simp [RowKit.intOf]; omega
      · obtain rfl : k = s.size := by omega
        go_wp2_with fail
        go_meet
        exact HC
  case rest =>
  have HC := hcut
  clear hcut
  obtain ⟨tB, HtB⟩ : ∃ tB : ByteArray, Hid (tB = ⟨(s.data.toList.map up).toArray⟩) := ⟨_, rfl⟩
  have hback : (convert 57 9 (.slice (some ⟨w.heap.size + 1, 0, none⟩) s.size cap)).run Tryd.prog wc = .ok (.string tB) wc := by
    have := run_convert_bytes_back (P := Tryd.prog) wc 57 9 5 ⟨w.heap.size + 1, 0, none⟩ cap (s.data.toList.map up) Tryd.underlying57 Tryd.underlying5 Tryd.underlying9
      (fun j hj => by
        have hj' : j < s.size := by simpa using hj
        rw [Lib.add_plain, Nat.zero_add, HC.out.cells j hj']
        congr 2
        unfold upTo
        rw [if_pos hj', List.getD_eq_getElem?_getD, List.getElem?_eq_getElem (by simpa using hj')]
        simp)
    rw [HtB.out]
    simpa using this
  have hts : tB.size = s.size := by rw [HtB.out]; show (s.data.toList.map up).toArray.size = _; simp
  have HTL : Hid (tB.data.toList = s.data.toList.map up) := by show _ = _; rw [HtB.out]
  obtain ⟨n, en⟩ : ∃ n, s.size = n := ⟨_, rfl⟩
  rw [en] at hts hback hs
  have HBX : Hid (wc.heap[w.heap.size]? = some (.cells #[.int .i64 0, .int .i64 0, .bool false, .bool false] 26 (0, 0)) ∧ Below w.heap.size w wc) := ⟨HC.out.box, HC.out.below⟩
  rw [en]
  clear en HC
  go_wp2_with fail
  clear hback
  go_loopw [7] (fun c wr => ∃ C : Nat, C ≤ 64 ∧ c = .int .i64 C ∧ Hid (NoneTo tB.data.toList C 0 ∧ wr.heap[w.heap.size]? = some (.cells #[.int .i64 0, .int .i64 0, .bool false, .bool false] 26 (0, 0)) ∧ Below w.heap.size w wr)) (fun c _ => 64 - (RowKit.intOf c).toNat)
  case atStart => exact ⟨0, by omega, rfl, (fun c k h => by rcases h with h | h <;> omega), HBX.out.1, HBX.out.2⟩
  case round =>
    clear HBX
    obtain ⟨C, hC, rfl, HN⟩ := hrel
    by_cases hlt : C < 64
    · have hC64 : decide ((C : Int) < 64) = true := by simp; omega
      go_wp2_with fail
      obtain ⟨wo, rfl⟩ : ∃ wo : World, wo = wr := ⟨_, rfl⟩
      go_loopw [8] (fun k wr => ∃ K : Nat, K ≤ 4 ∧ k = .int .i64 K ∧ Hid (NoneTo tB.data.toList C K ∧ wr.heap[w.heap.size]? = some (.cells #[.int .i64 0, .int .i64 0, .bool false, .bool false] 26 (0, 0)) ∧ Below w.heap.size w wr)) (fun k _ => 4 - (RowKit.intOf k).toNat)
      case atStart => exact ⟨0, by omega, rfl, HN.out.1, HN.out.2.1, HN.out.2.2⟩
      case round =>
        clear HN
        obtain ⟨K, hK, rfl, HN⟩ := hrel
        by_cases hlt2 : K < 4
        · obtain ⟨f, ef⟩ : ∃ f, ((K : Int) % 2 == 1) = f := ⟨_, rfl⟩
          obtain ⟨g, eg⟩ : ∃ g, ((K : Int) / 2 == 1) = g := ⟨_, rfl⟩
          have cp := hidd (rPrint_in C 0 (C : Int) 0 f g (wr.alloc (.cells #[.int .i64 C, .int .i64 0, .bool f, .bool g] 26)) rfl rfl hlt (by omega))
          go_wp2_with fail
          refine cp.out.mono ?_
          rintro e w2 ⟨rfl, hb2⟩
          obtain ⟨A, eA⟩ : ∃ A, fixL f ++ colN C ++ fixL g = A := ⟨_, rfl⟩
          have hnl : (nameB C 0 f g).data.toList = A ++ [49] := by rw [name_list C 0 f g (by omega), eA]; rfl
          have hA4 : A.length ≤ 4 := by
            rw [← eA]
            have := colN_le C
            cases f <;> cases g <;> simp [fixL] <;> omega
          obtain ⟨N0, eN0⟩ : ∃ N, nameB C 0 f g = N := ⟨_, rfl⟩
          rw [eN0] at hnl ⊢
          obtain ⟨aB, eaB⟩ : ∃ a : ByteArray, a = ⟨A.toArray⟩ := ⟨_, rfl⟩
          have haB : aB.data.toList = A := by rw [eaB]
          have hNs : N0.size = A.length + 1 := by rw [Lib.size_eq, hnl]; simp
          have has : aB.size = A.length := by rw [Lib.size_eq, haB]
          have hex : N0.extract 0 (N0.size - 1) = aB := by
            apply WideShapes.bytes_inj
            rw [Lib.extract_data, hnl, haB, hNs]
            simp
          have HNL := hidd hnl
          have HAB := hidd haB
          have EAA := hidd eA
          have hN1 : 1 ≤ N0.size := by omega
          have hN2 : N0.size ≤ 5 := by omega
          have ha4 : aB.size ≤ 4 := by omega
          clear hnl haB eA eaB eN0 hNs has hA4
          have HFG : Hid (f = decide (K % 2 = 1) ∧ g = decide (K / 2 = 1)) := ⟨by rw [← ef]; by_cases h : K % 2 = 1 <;> simp [h] <;> omega, by rw [← eg]; by_cases h : K / 2 = 1 <;> simp [h] <;> omega⟩
          have HLN : Hid (aB.size = A.length ∧ n = tB.data.toList.length) := ⟨by rw [Lib.size_eq, HAB.out], by rw [← hts, Lib.size_eq]⟩
          obtain ⟨gR, gL⟩ := box4 (W := wr.alloc (.cells #[.int .i64 C, .int .i64 0, .bool f, .bool g] 26)) rfl hb2
          have hgr := gr3' wr (.cells #[.int .i64 C, .int .i64 0, .bool f, .bool g] 26)
          have hb2' := hgr.trans (hb2.mono hgr.size)
          have HW2 : Hid (w2.heap[w.heap.size]? = some (.cells #[.int .i64 0, .int .i64 0, .bool false, .bool false] 26 (0, 0)) ∧ Below w.heap.size w w2 ∧ w2.heap[wr.heap.size]? = some (.cells #[.int .i64 C, .int .i64 0, .bool f, .bool g] 26 (0, 0)) ∧ w.heap.size < wr.heap.size) :=
            ⟨keepbox HN.out.2.1 hb2', HN.out.2.2.trans (hb2'.mono HN.out.2.2.size), gR, lt_of_block' HN.out.2.1⟩
          clear gR gL hgr hb2 hb2' cp
          by_cases q1 : n ≤ aB.size
          · have HNN := hidd (HN.out.1.next EAA.out HFG.out.1 HFG.out.2 (no_short (.inl (by have := HLN.out; omega))))
            go_wp2_with fail
            go_roundw
            case rel => first | exact ⟨K + 1, by omega, by go_num, HNN.out, HW2.out.1, HW2.out.2.1⟩ | ((repeat apply Exists.intro); refine ⟨?_, rfl⟩; exact ⟨K + 1, by omega, by go_num, HNN.out, HW2.out.1, HW2.out.2.1⟩)
            case measure => simp [RowKit.intOf]; omega
          · by_cases q2 : aB.size + 4 < n
            · have HNN := hidd (HN.out.1.next EAA.out HFG.out.1 HFG.out.2 (no_short (.inr (.inl (by have := HLN.out; omega)))))
              go_wp2_with fail
              go_roundw
              case rel => first | exact ⟨K + 1, by omega, by go_num, HNN.out, HW2.out.1, HW2.out.2.1⟩ | ((repeat apply Exists.intro); refine ⟨?_, rfl⟩; exact ⟨K + 1, by omega, by go_num, HNN.out, HW2.out.1, HW2.out.2.1⟩)
              case measure => simp [RowKit.intOf]; omega
            · have hte : (tB.extract 0 aB.size).toList = tB.data.toList.take A.length := by rw [Lib.toList_data, Lib.extract_data, HLN.out.1]; simp
              cases hpre : ((tB.extract 0 aB.size).toList == aB.toList)
              · have HNN := hidd (HN.out.1.next EAA.out HFG.out.1 HFG.out.2 (no_short (.inr (.inr (by rw [← hte]; intro e; rw [e, Lib.toList_data, HAB.out] at hpre; simp at hpre)))))
                clear hte
                go_wp2_with fail
                go_roundw
                case rel => first | exact ⟨K + 1, by omega, by go_num, HNN.out, HW2.out.1, HW2.out.2.1⟩ | ((repeat apply Exists.intro); refine ⟨?_, rfl⟩; exact ⟨K + 1, by omega, by go_num, HNN.out, HW2.out.1, HW2.out.2.1⟩)
                case measure => simp [RowKit.intOf]; omega
              · clear hte
                go_wp2_with fail
                obtain ⟨NF, eNF⟩ : ∃ NF, nf (tB.data.toList.drop aB.size) 0 = NF := ⟨_, rfl⟩
                have ENF := hidd eNF
                clear eNF
                go_loop [11, 12] (fun nn i => ∃ (p : Nat) (N : Int), aB.size ≤ p ∧ p ≤ n ∧ i = .int .i64 p ∧ nn = .int .i64 N ∧ Hid (-(bd (p - aB.size)) ≤ N ∧ N ≤ bd (p - aB.size) ∧ nf (tB.data.toList.drop p) N = NF)) (fun _ i => n - (RowKit.intOf i).toNat)
                case atStart => exact ⟨aB.size, 0, Nat.le_refl _, by omega, rfl, rfl, by rw [Nat.sub_self]; decide, by rw [Nat.sub_self]; decide, ENF.out⟩
                case round =>
                  obtain ⟨p, N, hp1, hp2, rfl, rfl, HNF⟩ := hrel
                  have hbd := bd_le (p - aB.size) (by omega)
                  have hb1 : -100000000000 ≤ N := by have := HNF.out.1; omega
                  have hb2 : N ≤ 100000000000 := by have := HNF.out.2.1; omega
                  clear hbd
                  by_cases hlt3 : p < n
                  · have hlt3' : p < tB.size := by omega
                    obtain ⟨c, ec⟩ : ∃ c, tB[p] = c := ⟨_, rfl⟩
                    have hc := c.toNat_lt
                    have HN3 := hidd (nf_step (l := tB.data.toList) (p := p) (a := aB.size) (N := N) (c := c) hp1 (by simpa using hlt3') (by rw [← ec]; rfl) HNF.out)
                    by_cases h1 : (c.toNat : Int) < 48
                    · rw [if_pos (.inl h1)] at HN3
                      go_wp2_with fail
                      go_round
                      case rel => exact ⟨p + 1, 10 * -100000 + (c.toNat : Int) - 48, by omega, by omega, by go_num, by go_num, HN3⟩
                      case measure => simp [RowKit.intOf]; omega
                    · by_cases h2 : 57 < (c.toNat : Int)
                      · rw [if_pos (.inr h2)] at HN3
                        go_wp2_with fail
                        go_round
                        case rel => exact ⟨p + 1, 10 * -100000 + (c.toNat : Int) - 48, by omega, by omega, by go_num, by go_num, HN3⟩
                        case measure => simp [RowKit.intOf]; omega
                      · rw [if_neg (by omega)] at HN3
                        go_wp2_with fail
                        go_round
                        case rel => exact ⟨p + 1, 10 * N + (c.toNat : Int) - 48, by omega, by omega, by go_num, by go_num, HN3⟩
                        case measure => simp [RowKit.intOf]; omega
                  · obtain rfl : p = n := by omega
                    have eN : NF = N := by
                      have h := HNF.out.2.2
                      rw [HLN.out.2, List.drop_length] at h
                      exact h.symm
                    subst eN
                    clear HNF hp1 hp2 hlt3
                    obtain ⟨k0, k1, k2, k3, z0, z1, z2, z3⟩ := four_cells HW2.out.2.2.1
                    have L2 := lt_of_block' HW2.out.2.2.1
                    obtain ⟨y, ey⟩ : ∃ y, NF - 1 = y := ⟨_, rfl⟩
                    by_cases hin : inB (C : Int) y
                    · have co : Hid (∀ w, _) := fun w => rOutside_in (C : Int) y f g w hin
                      obtain ⟨R, hyR⟩ : ∃ R : Nat, y = (R : Int) := ⟨y.toNat, by have := hin.2.2.1; omega⟩
                      have hR4 : R < 1024 := by have := hin.2.2.2; omega
                      have cr0 := fun w => rPrint_in C R (C : Int) y f g w rfl hyR hlt hR4
                      obtain ⟨NB, eNB⟩ : ∃ NB, nameB C R f g = NB := ⟨_, rfl⟩
                      rw [eNB] at cr0
                      have cr : Hid (∀ w, _) := cr0
                      have HNB : Hid (NB.data.toList = A ++ dg 4 (R + 1)) := by show _ = _; rw [← eNB, name_list C R f g hR4, EAA.out]
                      have HNB2 := hidd eNB
                      have HYR := hidd hyR
                      clear cr0 eNB hyR
                      go_wp2_with fail
                      refine (co.out _).mono ?_
                      rintro e w4 ⟨rfl, rfl⟩
                      go_wp2_with fail
                      refine (cr.out _).mono ?_
                      rintro e w5 ⟨rfl, hb5⟩
                      have HB5 := hidd (outs2 HW2.out.1 HW2.out.2.1 HW2.out.2.2.1 HW2.out.2.2.2 hb5)
                      clear hb5 k0 k1 k2 k3 z0 z1 z2 z3
                      obtain ⟨k0, k1, k2, k3, -, -, -, -⟩ := four_cells HB5.out.2.2
                      obtain ⟨j0, j1, j2, j3, z0, z1, z2, z3⟩ := four_cells HB5.out.1
                      obtain ⟨q0, q1, q2, q3⟩ := four_set j0 j1 j2 j3
                      have L5 := lt_of_block' HB5.out.2.2
                      cases hq : (NB.toList == tB.toList)
                      · have HNN := hidd (HN.out.1.next EAA.out HFG.out.1 HFG.out.2 (no_tail (N := NF) (by rw [← HLN.out.1]; exact ENF.out) (fun r hr he h => by
                          obtain rfl : r = R := by have := HYR.out; omega
                          rw [Lib.toList_data, Lib.toList_data, HNB.out, h] at hq
                          simp at hq)))
                        go_wp2_with fail
                        go_roundw
                        case rel => first | exact ⟨K + 1, by omega, by go_num, HNN.out, HB5.out.1, HB5.out.2.1⟩ | ((repeat apply Exists.intro); refine ⟨?_, rfl⟩; exact ⟨K + 1, by omega, by go_num, HNN.out, HB5.out.1, HB5.out.2.1⟩)
                        case measure => simp [RowKit.intOf]; omega
                      · have HPE : Hid (P = ((C : Int), y, f, g, true)) := by
                          show _ = _
                          rw [← HP.out, cell_yes (c := C) (r := R) (f := f) (g := g) hlt (by omega) (by
                            rw [← HTL.out, HNB2.out]
                            rw [Lib.toList_data, Lib.toList_data] at hq
                            exact eq_of_beq hq), HYR.out]
                        have HB := hidd HB5.out.2.1
                        go_wp2_with fail
                        (try simp only [Exit.inBlock, Exit.then])
                        refine bodyPost_ret (v := .tuple #[.agg #[.int .i64 C, .int .i64 y, .bool f, .bool g], .bool true]) (by simp [results, Tryd.results9, go_sem, q0, q1, q2, q3]) rfl ?_
                        exact ⟨by rw [HPE.out], (((HB.out.setCell (Nat.le_refl _) _).setCell (Nat.le_refl _) _).setCell (Nat.le_refl _) _).setCell (Nat.le_refl _) _⟩
                    · have co : Hid (∀ w, _) := fun w => rOutside_no (C : Int) y f g w hin
                      have HNN := hidd (HN.out.1.next EAA.out HFG.out.1 HFG.out.2 (no_tail (N := NF) (by rw [← HLN.out.1]; exact ENF.out) (fun r hr he => absurd (show inB (C : Int) y from ⟨by omega, by omega, by omega, by omega⟩) hin)))
                      have HB3 := hidd (outs HW2.out.1 HW2.out.2.1 HW2.out.2.2.2 1 (.int .i64 y) (.cells #[.int .i64 C, .int .i64 y, .bool f, .bool g] 26))
                      go_wp2_with fail
                      refine (co.out _).mono ?_
                      rintro e w4 ⟨rfl, rfl⟩
                      go_wp2_with fail
                      go_roundw
                      case rel => first | exact ⟨K + 1, by omega, by go_num, HNN.out, HB3.out.1, HB3.out.2⟩ | ((repeat apply Exists.intro); refine ⟨?_, rfl⟩; exact ⟨K + 1, by omega, by go_num, HNN.out, HB3.out.1, HB3.out.2⟩)
                      case measure => simp [RowKit.intOf]; omega
        · obtain rfl : K = 4 := by omega
          have HN2 : Hid (NoneTo tB.data.toList (C + 1) 0) := fun c k h hc hk => HN.out.1 c k (by rcases h with h | h <;> omega) hc hk
          go_wp2_with fail
          go_roundw
          case rel => exact ⟨C + 1, by omega, by go_num, HN2.out, HN.out.2.1, HN.out.2.2⟩
          case measure => simp [RowKit.intOf]; omega
    · obtain rfl : C = 64 := by omega
      have HPE : Hid (P = (0, 0, false, false, false)) := by
        show _ = _
        rw [← HP.out, cell_no (by rw [← HTL.out]; exact HN.out.1)]
      obtain ⟨j0, j1, j2, j3, z0, z1, z2, z3⟩ := four_cells HN.out.2.1
      obtain ⟨q0, q1, q2, q3⟩ := four_set j0 j1 j2 j3
      have HB := hidd HN.out.2.2
      go_wp2_with fail
      (try simp only [Exit.inBlock, Exit.then])
      refine bodyPost_ret (v := .tuple #[.agg #[.int .i64 0, .int .i64 0, .bool false, .bool false], .bool false]) (by simp [results, Tryd.results9, go_sem, q0, q1, q2, q3]) rfl ?_
      exact ⟨by rw [HPE.out], (((HB.out.setCell (Nat.le_refl _) _).setCell (Nat.le_refl _) _).setCell (Nat.le_refl _) _).setCell (Nat.le_refl _) _⟩
end Go.Proofs.YtjbkjeabobccaacDoor
