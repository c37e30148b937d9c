import Derived.Test.YtjbkjeabobccaabGreatDoorNumBig11
namespace Go.Proofs.YtjbkjeabobccaabGreatDoor
open Go.RowKit
set_option linter.unusedVariables false

theorem getD_set (l : List Int) (j m : Nat) (a : Int) (hj : j < l.length) : (l.set j a).getD m 0 = if m = j then a else l.getD m 0 := by
  simp only [List.getD_eq_getElem?_getD, List.getElem?_set]
  by_cases h : m = j
  · subst h; simp [hj]
  · rw [if_neg (fun e => h e.symm), if_neg h]
theorem valD_set : ∀ (l : List Int) (j : Nat) (a : Int), j < l.length → valD (l.set j a) = valD l + 10000 ^ j * (a - l.getD j 0)
  | [], j, a, h => absurd h (by simp)
  | d :: l, 0, a, _ => by simp [valD]; omega
  | d :: l, j + 1, a, h => by
    have ih := valD_set l j a (by simpa using h)
    simp only [List.set_cons_succ, valD, ih, List.getD_cons_succ]
    rw [Int.pow_succ, Int.mul_add, Int.mul_comm (10000 ^ j) 10000, Int.mul_assoc]
    omega
theorem valD_take_succ (l : List Int) (k : Nat) (h : k < l.length) : valD (l.take (k + 1)) = valD (l.take k) + 10000 ^ k * l.getD k 0 := by
  have := take_last (ds := l) (k := k + 1) (by omega) (by omega)
  rw [Nat.add_sub_cancel] at this
  rw [this, valD_append, List.length_take_of_le (by omega)]
  simp [valD]

/-- How far a product is told. -/
structure TInv (xs ys : List Int) (i k : Nat) (D : List Int) : Prop where
  len : D.length = xs.length + ys.length + 1
  lo : ∀ j, 0 ≤ D.getD j 0
  hi : ∀ j, j ≠ i + k → D.getD j 0 ≤ 9999
  cur : D.getD (i + k) 0 ≤ 19998
  zero : ∀ j, i + ys.length ≤ j → j ≠ i + k → D.getD j 0 = 0
  top : k = ys.length → D.getD (i + k) 0 ≤ 9999
  val : valD D = valD (xs.take i) * valD ys + 10000 ^ i * xs.getD i 0 * valD (ys.take k)
theorem getD_rep (n j : Nat) : (List.replicate n (0 : Int)).getD j 0 = 0 := by
  rw [List.getD_eq_getElem?_getD, List.getElem?_replicate]
  split <;> rfl
theorem valD_rep : ∀ n, valD (List.replicate n 0) = 0
  | 0 => rfl
  | n + 1 => by simp [List.replicate_succ, valD, valD_rep n]
theorem TInv.start (xs ys : List Int) : TInv xs ys 0 0 (List.replicate (xs.length + ys.length + 1) 0) :=
  ⟨by simp, fun j => by rw [getD_rep]; omega, fun j _ => by rw [getD_rep]; omega, by rw [getD_rep]; omega, fun j _ _ => getD_rep _ _, fun _ => by rw [getD_rep]; omega, by simp [valD_rep, valD]⟩
theorem mul_bd {u v : Int} (hu : 0 ≤ u ∧ u < 10000) (hv : 0 ≤ v ∧ v < 10000) : 0 ≤ u * v ∧ u * v ≤ 99980001 := by
  refine ⟨Int.mul_nonneg hu.1 hv.1, ?_⟩
  have h1 : u * v ≤ 9999 * v := Int.mul_le_mul_of_nonneg_right (by omega) hv.1
  omega
theorem okD_getD {l : List Int} (h : okD l) {j : Nat} (hj : j < l.length) : 0 ≤ l.getD j 0 ∧ l.getD j 0 < 10000 := by
  have : l.getD j 0 = l[j] := by rw [List.getD_eq_getElem?_getD, List.getElem?_eq_getElem hj]; rfl
  rw [this]
  exact h _ (List.getElem_mem hj)
theorem TInv.next {xs ys D : List Int} {i k : Nat} (h : TInv xs ys i k D) (ha : okD xs) (hb : okD ys) (hi : i < xs.length) (hk : k < ys.length) {s t r : Int}
    (hs : s = D.getD (i + k) 0 + xs.getD i 0 * ys.getD k 0) (ht : t = D.getD (i + k + 1) 0 + s / 10000) (hr : r = s % 10000) :
    TInv xs ys i (k + 1) (((D.set (i + k) s).set (i + k + 1) t).set (i + k) r) := by
  have hl := h.len
  have g : ∀ m, (((D.set (i + k) s).set (i + k + 1) t).set (i + k) r).getD m 0 = if m = i + k then r else if m = i + k + 1 then t else D.getD m 0 := fun m => by
    rw [getD_set _ _ _ _ (by simp; omega), getD_set _ _ _ _ (by simp; omega), getD_set _ _ _ _ (by omega)]
    split
    · rfl
    · split <;> simp_all
  obtain ⟨p0, p1⟩ := mul_bd (okD_getD ha hi) (okD_getD hb hk)
  have c0 := h.lo (i + k)
  have c1 := h.cur
  have d0 := h.lo (i + k + 1)
  have d1 := h.hi (i + k + 1) (by omega)
  refine ⟨by simp [hl], fun j => ?_, fun j hj => ?_, ?_, fun j hj hj' => ?_, fun hk' => ?_, ?_⟩
  · rw [g]; split
    · omega
    · split
      · omega
      · exact h.lo j
  · rw [g]; split
    · omega
    · rw [if_neg (by omega)]; exact h.hi j (by omega)
  · rw [g, if_neg (by omega), if_pos (by omega)]; omega
  · rw [g, if_neg (by omega), if_neg (by omega)]; exact h.zero j hj (by omega)
  · rw [g, if_neg (by omega), if_pos (by omega)]
    have := h.zero (i + k + 1) (by omega) (by omega)
    omega
  · have e1 : ((D.set (i + k) s).set (i + k + 1) t).getD (i + k) 0 = s := by rw [getD_set _ _ _ _ (by simp; omega), if_neg (by omega), getD_set _ _ _ _ (by omega), if_pos rfl]
    have e2 : (D.set (i + k) s).getD (i + k + 1) 0 = D.getD (i + k + 1) 0 := by rw [getD_set _ _ _ _ (by omega), if_neg (by omega)]
    rw [valD_set _ (i + k) r (by simp; omega), e1, valD_set _ (i + k + 1) t (by simp; omega), e2, valD_set D (i + k) s (by omega), h.val, valD_take_succ ys k hk]
    obtain ⟨u, eu⟩ : ∃ u, xs.getD i 0 = u := ⟨_, rfl⟩
    obtain ⟨v, ev⟩ : ∃ v, ys.getD k 0 = v := ⟨_, rfl⟩
    obtain ⟨d, ed⟩ : ∃ v, D.getD (i + k) 0 = v := ⟨_, rfl⟩
    obtain ⟨p, ep⟩ : ∃ p : Int, (10000 : Int) ^ i = p := ⟨_, rfl⟩
    obtain ⟨q, eq⟩ : ∃ p : Int, (10000 : Int) ^ k = p := ⟨_, rfl⟩
    rw [ed, eu, ev] at hs
    have e1 : (10000 : Int) ^ (i + k) = p * q := by rw [Int.pow_add, ep, eq]
    have e2 : (10000 : Int) ^ (i + k + 1) = p * q * 10000 := by rw [Int.pow_succ, e1]
    rw [e1, e2, eu, ev, ed, ep, eq]
    obtain ⟨T, eT⟩ : ∃ T, valD (ys.take k) = T := ⟨_, rfl⟩
    obtain ⟨S, eS⟩ : ∃ S, valD (xs.take i) * valD ys = S := ⟨_, rfl⟩
    rw [eT, eS]
    have f1 : t - D.getD (i + k + 1) 0 = s / 10000 := by omega
    rw [f1]
    have f2 : p * u * (T + q * v) = p * u * T + p * q * (u * v) := by
      rw [Int.mul_add]
      congr 1
      simp only [Int.mul_left_comm, Int.mul_comm]
    rw [f2, show u * v = s - d by omega, show s - d = (s - d) from rfl]
    obtain ⟨Q, eQ⟩ : ∃ Q, p * q = Q := ⟨_, rfl⟩
    rw [eQ]
    have f3 : Q * 10000 * (s / 10000) = Q * (10000 * (s / 10000)) := by rw [Int.mul_assoc]
    rw [f3]
    have f4 : Q * (s - d) + Q * (10000 * (s / 10000)) + Q * (r - s) = Q * (s - d) := by
      rw [← Int.mul_add, ← Int.mul_add]
      congr 1
      omega
    omega
theorem TInv.row {xs ys D : List Int} {i : Nat} (h : TInv xs ys i ys.length D) (hi : i < xs.length) : TInv xs ys (i + 1) 0 D := by
  have ht := h.top rfl
  have hall : ∀ j, D.getD j 0 ≤ 9999 := fun j => by
    by_cases e : j = i + ys.length
    · rw [e]; exact ht
    · exact h.hi j e
  refine ⟨h.len, h.lo, fun j _ => hall j, by have := hall (i + 1 + 0); omega, fun j hj _ => h.zero j (by omega) (by omega), fun _ => hall _, ?_⟩
  have hv := h.val
  rw [List.take_length] at hv
  rw [hv, valD_take_succ xs i hi, Int.add_mul]
  simp [valD]
theorem TInv.done {xs ys D : List Int} {i : Nat} (h : TInv xs ys i 0 D) (hi : xs.length ≤ i) (hz : i + 0 = i) (hz2 : D.getD (i + 0) 0 ≤ 9999) : okD D ∧ valD D = valD xs * valD ys := by
  constructor
  · intro d hd
    obtain ⟨j, hj, rfl⟩ := List.getElem_of_mem hd
    have e : D.getD j 0 = D[j] := by rw [List.getD_eq_getElem?_getD, List.getElem?_eq_getElem hj]; rfl
    rw [← e]
    have h0 := h.lo j
    by_cases hji : j = i + 0
    · rw [hji] at h0 ⊢; omega
    · have := h.hi j hji; omega
  · have hv := h.val
    rw [List.take_of_length_le hi] at hv
    rw [hv]
    simp [valD]
theorem box3b {w wr : World} {A B C : Obj} (hb : Below (w.heap.size + 3) (((w.alloc A).alloc B).alloc C) wr) :
    wr.heap[w.heap.size]? = some A ∧ wr.heap[w.heap.size + 1]? = some B ∧ wr.heap[w.heap.size + 2]? = some C ∧ w.heap.size + 3 ≤ wr.heap.size := by
  have es : (((w.alloc A).alloc B).alloc C).heap.size = w.heap.size + 3 := by simp
  rw [← es] at hb
  exact box3 rfl hb
theorem bel3 {w wr : World} {A B C : Obj} (hb : Below (w.heap.size + 3) (((w.alloc A).alloc B).alloc C) wr) : Below w.heap.size w wr :=
  ((((Below.refl _ _).alloc (Nat.le_refl _) _).alloc (by simp) _).alloc (by simp <;> omega) _).trans (hb.mono (by omega))
theorem own_heap {w w' : World} {base n : Nat} {v : Value} {xs : List Value} (e : w'.heap = w.heap) (h : w.ownsRow base 3 1 v n xs) : w'.ownsRow base 3 1 v n xs := by
  unfold World.ownsRow at h ⊢
  rw [e]
  exact h
theorem own_cell {w : World} {base g n cap : Nat} {D : List Int} (h : w.ownsRow base 3 1 (.slice (some ⟨g, 0, none⟩) n cap) n (D.map (Value.int .i64))) (hn : D.length = n) (j : Nat) (hj : j < n) :
    w.cell? ⟨g, j, none⟩ = some (.int .i64 (D.getD j 0)) ∧ w.frozen? ⟨g, j, none⟩ = false := by
  refine ⟨?_, h.frozenAt j⟩
  rw [h.cellAt j (by omega), List.getElem?_map, List.getD_eq_getElem?_getD, List.getElem?_eq_getElem (by omega)]
  rfl
theorem map_set (D : List Int) (j : Nat) (a : Int) : (D.set j a).map (Value.int .i64) = (D.map (Value.int .i64)).set j (.int .i64 a) := by rw [List.map_set]
theorem own_set {w : World} {base g n cap : Nat} {D : List Int} (h : w.ownsRow base 3 1 (.slice (some ⟨g, 0, none⟩) n cap) n (D.map (Value.int .i64))) (j : Nat) (a : Int) :
    (w.setCell ⟨g, j, none⟩ (.int .i64 a)).ownsRow base 3 1 (.slice (some ⟨g, 0, none⟩) n cap) n ((D.set j a).map (Value.int .i64)) := by
  rw [map_set]; exact (h.stored j _).1
theorem made_zero (n : Nat) : (madeCells #[Value.int .i64 0] n).toList = (List.replicate n (0 : Int)).map (Value.int .i64) := by
  apply List.ext_getElem?
  intro j
  rw [List.map_replicate, List.getElem?_replicate]
  unfold madeCells
  by_cases h : j < n
  · simp [h, Nat.mod_one]
  · simp [h]

end Go.Proofs.YtjbkjeabobccaabGreatDoor
