import Derived.Test.YtjbkjeabobccaabGreatDoorNumBig12
import Derived.Deep.LoopGhost
namespace Go.Proofs.YtjbkjeabobccaabGreatDoor
open Go.RowKit
set_option linter.unusedVariables false

set_option maxHeartbeats 16000000 in
set_option maxRecDepth 100000 in
theorem times_rows (w : World) (a b : Option Addr) (ca cb x y : Nat) (ma mb : Bool) (ha : RowIs w a ca (repr x)) (hb : RowIs w b cb (repr y)) (hl : (repr x).length + (repr y).length ≤ 1000000000000) :
    Calls Tryz.prog 65 #[.agg #[.slice a (repr x).length ca, .bool ma], .agg #[.slice b (repr y).length cb, .bool mb]] w fun e w' =>
      (∃ v cap, e = .returned (.agg #[.slice v (repr (x * y)).length cap, .bool ((ma != mb) && decide (x * y ≠ 0))]) ∧ RowIs w' v cap (repr (x * y))) ∧ Below w.heap.size w w' := by
  have hlen0 : 0 < (repr (x * y)).length ↔ x * y ≠ 0 := by
    constructor
    · intro h h0
      rw [h0, repr_zero] at h
      simp at h
    · intro h; exact repr_len_pos h
  have hdec : decide (x * y ≠ 0) = decide (0 < (repr (x * y)).length) := decide_eq_decide.2 hlen0.symm
  rw [hdec]
  obtain ⟨S, eS⟩ : ∃ l, repr (x * y) = l := ⟨_, rfl⟩
  rw [eS]
  have HS := hidd eS
  obtain ⟨m, em⟩ : ∃ m, ((ma != mb) && decide (0 < S.length)) = m := ⟨_, rfl⟩
  rw [em]
  have EM := hidd em
  clear hlen0 hdec eS em
  obtain ⟨i0, hi, hz0, hz1, hz2⟩ := info_parts info3
  have A1 := ha.le
  have A2 := ha.lid
  have B1 := hb.le
  have B2 := hb.lid
  unfold maxLen at A2 B2
  have HA := hidd ha
  have HB := hidd hb
  clear ha hb
  obtain ⟨la, ea⟩ : ∃ l, (repr x).length = l := ⟨_, rfl⟩
  obtain ⟨lb, eb⟩ : ∃ l, (repr y).length = l := ⟨_, rfl⟩
  rw [ea] at A1 hl ⊢
  rw [eb] at B1 hl ⊢
  have EA := hidd ea
  have EB := hidd eb
  clear ea eb
  obtain ⟨N, eN⟩ : ∃ N, la + lb + 1 = N := ⟨_, rfl⟩
  have EN := hidd eN
  have hN : N ≤ 1000000000001 := by omega
  go_enter Tryz.func65, Tryz.ntmps65
  go_wp2_with (at_make; refine wpList_make_full _ rfl _ _ 89 rfl (w.heap.size + 3) 3 i0 (.int .i64 0) 1 Tryz.underlying89 hi hz0 hz1 .i64 .i64 _ _ N rfl rfl (by omega) (by omega) (by rw [hz2]; omega) (by unfold maxLen; omega) (by simp) ?_)
  intro w1 hown hgrow
  have hown2 : w1.ownsRow (w.heap.size + 3) 3 1 (.slice (some ⟨w.heap.size + 3, 0, none⟩) N N) N ((List.replicate N (0 : Int)).map (Value.int .i64)) := by rw [← made_zero]; exact hown
  have hbel : Below (w.heap.size + 3) (((w.alloc (.cells #[.slice a la ca, .bool ma] 91)).alloc (.cells #[.slice b lb cb, .bool mb] 91)).alloc (.cells #[.slice none 0 0, .bool false] 91)) w1 := (Below.refl _ _).grown hgrow (by simp) (fun k hk => by cases hk)
  have hT0 : Hid (TInv (repr x) (repr y) 0 0 (List.replicate N 0)) := by
    have := TInv.start (repr x) (repr y)
    rw [EA.out, EB.out, EN.out] at this
    exact this
  have hG0 : Hid ((List.replicate N (0 : Int)).getD 0 0 ≤ 9999) := by show _ ≤ _; rw [getD_rep]; omega
  clear hown hgrow
  go_wp2
  go_loopw [6] (fun i wr => ∃ (I : Nat) (D : List Int), I ≤ la ∧ i = .int .i64 I ∧ wr.ownsRow (w.heap.size + 3) 3 1 (.slice (some ⟨w.heap.size + 3, 0, none⟩) N N) N (D.map (Value.int .i64)) ∧ Below (w.heap.size + 3) (((w.alloc (.cells #[.slice a la ca, .bool ma] 91)).alloc (.cells #[.slice b lb cb, .bool mb] 91)).alloc (.cells #[.slice none 0 0, .bool false] 91)) wr ∧ Hid (TInv (repr x) (repr y) I 0 D) ∧ Hid (D.getD I 0 ≤ 9999)) (fun i _ => la - (RowKit.intOf i).toNat)
  case atStart => exact ⟨0, _, Nat.zero_le _, rfl, hown2, hbel, hT0, hG0⟩
  case round =>
    clear hown2 hbel hT0 hG0
    obtain ⟨I, D, hI, rfl, hown, hbel, hT, hG⟩ := hrel
    obtain ⟨b0, b1, b2, b3⟩ := box3b hbel
    have p0 := two_cell0 b0
    have p1 := two_cell0 b1
    by_cases hlt : I < la
    · clear b0 b1 b2 hG
      go_wp2
      obtain ⟨wo, rfl⟩ : ∃ wo : World, wo = wr := ⟨_, rfl⟩
      go_loopw [7] (fun k wr => ∃ (K : Nat) (D : List Int), K ≤ lb ∧ k = .int .i64 K ∧ wr.ownsRow (w.heap.size + 3) 3 1 (.slice (some ⟨w.heap.size + 3, 0, none⟩) N N) N (D.map (Value.int .i64)) ∧ Below (w.heap.size + 3) (((w.alloc (.cells #[.slice a la ca, .bool ma] 91)).alloc (.cells #[.slice b lb cb, .bool mb] 91)).alloc (.cells #[.slice none 0 0, .bool false] 91)) wr ∧ Hid (TInv (repr x) (repr y) I K D)) (fun k _ => lb - (RowKit.intOf k).toNat)
      case atStart => exact ⟨0, D, Nat.zero_le _, rfl, hown, hbel, hT⟩
      case round =>
        clear hown hbel hT p0 p1 b3
        obtain ⟨K, D, hK, rfl, hown, hbel, hT⟩ := hrel
        obtain ⟨b0, b1, b2, b3⟩ := box3b hbel
        have p0 := two_cell0 b0
        have p1 := two_cell0 b1
        by_cases hlt2 : K < lb
        · have hlen : D.length = N := by have := hT.out.len; rw [EA.out, EB.out, EN.out] at this; exact this
          obtain ⟨cd, fd⟩ := own_cell hown hlen (I + K) (by omega)
          obtain ⟨ce, fe⟩ := own_cell hown hlen (I + K + 1) (by omega)
          have hw := bel3 hbel
          obtain ⟨ga, rfl, hga⟩ := (HA.out.step hw).at (by rw [EA.out]; omega)
          obtain ⟨gb, rfl, hgb⟩ := (HB.out.step hw).at (by rw [EB.out]; omega)
          have cu := hga I (by rw [EA.out]; omega)
          have cv := hgb K (by rw [EB.out]; omega)
          have m1 := okD_getD (repr_ok x).1 (j := I) (by rw [EA.out]; omega)
          have m2 := okD_getD (repr_ok y).1 (j := K) (by rw [EB.out]; omega)
          obtain ⟨m3, m4⟩ := mul_bd m1 m2
          have l0 := hT.out.lo (I + K)
          have l1 := hT.out.cur
          have l2 := hT.out.lo (I + K + 1)
          have l3 := hT.out.hi (I + K + 1) (by omega)
          have HN : Hid (∀ s t r : Int, s = D.getD (I + K) 0 + (repr x).getD I 0 * (repr y).getD K 0 → t = D.getD (I + K + 1) 0 + s / 10000 → r = s % 10000 → TInv (repr x) (repr y) I (K + 1) (((D.set (I + K) s).set (I + K + 1) t).set (I + K) r)) :=
            fun s t r hs ht hr => hT.out.next (repr_ok x).1 (repr_ok y).1 (by rw [EA.out]; omega) (by rw [EB.out]; omega) hs ht hr
          obtain ⟨u, eu⟩ : ∃ u, (repr x).getD I 0 = u := ⟨_, rfl⟩
          obtain ⟨v, ev⟩ : ∃ u, (repr y).getD K 0 = u := ⟨_, rfl⟩
          obtain ⟨d, ed⟩ : ∃ u, D.getD (I + K) 0 = u := ⟨_, rfl⟩
          obtain ⟨e, ee⟩ : ∃ u, D.getD (I + K + 1) 0 = u := ⟨_, rfl⟩
          rw [eu] at cu m1 m3 m4 HN
          rw [ev] at cv m2 m3 m4 HN
          rw [ed] at cd l0 l1 HN
          rw [ee] at ce l2 l3 HN
          have HO := hidd hown
          have HBL := hidd hbel
          clear hga hgb eu ev ed ee hT hown hbel b0 b1 b2 hw hlen
          go_wp2
          go_region
          all_goals
            go_wp2
            go_region
            all_goals
              go_wp2
              go_roundw
              case rel => exact ⟨K + 1, ((D.set (I + K) (d + u * v)).set (I + K + 1) (e + (d + u * v) / 10000)).set (I + K) ((d + u * v) % 10000), by omega, by go_num, own_heap (w := World.setCell (World.setCell (World.setCell wr _ _) _ _) _ _) rfl (own_set (own_set (own_set HO.out _ _) _ _) _ _), (((HBL.out.setCell (Nat.le_refl _) _).setCell (Nat.le_refl _) _).setCell (Nat.le_refl _) _).drew.drew, HN.out _ _ _ rfl rfl rfl⟩
              case measure => simp [RowKit.intOf]; omega
        · obtain rfl : K = lb := by omega
          have hT2 : Hid (TInv (repr x) (repr y) (I + 1) 0 D) := by
            have := hT.out
            rw [← EB.out] at this
            exact this.row (by rw [EA.out]; omega)
          have hG2 : Hid (D.getD (I + 1) 0 ≤ 9999) := by
            show _ ≤ _
            by_cases e : I + 1 = I + K
            · rw [e]; exact hT.out.top EB.out.symm
            · exact hT.out.hi (I + 1) e
          have HO := hidd hown
          have HBL := hidd hbel
          clear hT hown hbel b0 b1 b2
          go_wp2
          go_roundw
          case rel => exact ⟨I + 1, D, by omega, by go_num, HO.out, HBL.out, hT2, hG2⟩
          case measure => simp [RowKit.intOf]; omega
    · obtain rfl : la = I := by omega
      obtain ⟨hok, hval⟩ := hT.out.done (by rw [EA.out]; omega) rfl hG.out
      rw [(repr_ok x).2, (repr_ok y).2] at hval
      have hlen : D.length = N := by have := hT.out.len; rw [EA.out, EB.out, EN.out] at this; exact this
      have hrep : Hid (trimD D = S) := by
        show _ = _
        rw [← HS.out, trim_repr _ hok, hval]
        congr 1
      have HOK := hidd hok
      have HLEN := hidd hlen
      clear hT hG hval hok hlen b0 b1 b2
      go_wp2
      obtain ⟨wo, rfl⟩ : ∃ wo : World, wo = wr := ⟨_, rfl⟩
      go_loopw [8] (fun i wr => ∃ J : Nat, J + 1 ≤ N ∧ i = .int .i64 J ∧ wr.ownsRow (w.heap.size + 3) 3 1 (.slice (some ⟨w.heap.size + 3, 0, none⟩) N N) N (D.map (Value.int .i64)) ∧ Below (w.heap.size + 3) (((w.alloc (.cells #[.slice a la ca, .bool ma] 91)).alloc (.cells #[.slice b lb cb, .bool mb] 91)).alloc (.cells #[.slice none 0 0, .bool false] 91)) wr) (fun i _ => N - (RowKit.intOf i).toNat)
      case atStart => exact ⟨0, by omega, rfl, hown, hbel⟩
      case round =>
        clear hown hbel p0 p1 b3
        obtain ⟨J, hJ, rfl, hown, hbel⟩ := hrel
        obtain ⟨b0, b1, b2, b3⟩ := box3b hbel
        by_cases hj : J + 1 < N
        · obtain ⟨cd, fd⟩ := own_cell hown HLEN.out J (by omega)
          obtain ⟨ce, fe⟩ := own_cell hown HLEN.out (J + 1) (by omega)
          have m1 := okD_getD HOK.out (j := J) (by rw [HLEN.out]; omega)
          have m2 := okD_getD HOK.out (j := J + 1) (by rw [HLEN.out]; omega)
          have HD : Hid (∀ d e : Int, D.getD J 0 = d → D.getD (J + 1) 0 = e → (D.set (J + 1) e).set J d = D) := fun d e hd he => by
            subst hd he
            apply List.ext_getElem (by simp)
            intro n h1 h2
            rw [List.getElem_set, List.getElem_set]
            split
            · rename_i h; subst h; rw [List.getD_eq_getElem?_getD, List.getElem?_eq_getElem (by omega)]; rfl
            · split
              · rename_i h; subst h; rw [List.getD_eq_getElem?_getD, List.getElem?_eq_getElem (by omega)]; rfl
              · rfl
          obtain ⟨d, ed⟩ : ∃ u, D.getD J 0 = u := ⟨_, rfl⟩
          obtain ⟨e, ee⟩ : ∃ u, D.getD (J + 1) 0 = u := ⟨_, rfl⟩
          have HE : Hid ((D.set (J + 1) e).set J d = D) := HD.out d e ed ee
          rw [ed] at cd m1
          rw [ee] at ce m2
          have q1 : e + d / 10000 = e := by omega
          have q2 : d % 10000 = d := by omega
          have HO := hidd hown
          have HBL := hidd hbel
          clear ed ee hown hbel b0 b1 b2
          go_wp2
          go_region
          all_goals
            go_wp2
            go_roundw
            case rel => exact ⟨J + 1, by omega, by go_num, own_heap (w := World.setCell (World.setCell wr _ _) _ _) rfl (by have := own_set (own_set HO.out (J + 1) e) J d; rw [HE.out] at this; exact this), ((HBL.out.setCell (Nat.le_refl _) _).setCell (Nat.le_refl _) _).drew⟩
            case measure => simp [RowKit.intOf]; omega
        · have hR : RowIs wr (some ⟨w.heap.size + 3, 0, none⟩) N D := by
            have ho := hown
            rw [← HLEN.out] at ho
            obtain ⟨a', c', e1, e2⟩ := rowIs_own ho
            rw [HLEN.out] at e1
            cases e1
            exact e2
          have ct : Hid (Calls Tryz.prog 103 #[(.slice (some ⟨w.heap.size + 3, 0, none⟩) N N)] wr fun e w' => e = .returned (.slice (some ⟨w.heap.size + 3, 0, none⟩) S.length N) ∧ w' = wr) := by
            have := trim_any wr _ N D hR
            rw [HLEN.out, hrep.out] at this
            exact this
          have HR : Hid (RowIs wr (some ⟨w.heap.size + 3, 0, none⟩) N S) := by have := hR.trim; rw [hrep.out] at this; exact this
          have k1 := two_cell1 b0
          have k2 := two_cell1 b1
          have k3 := two_cell0 b2
          have k4 := two_cell1 b2
          have k5 := two_free b2 0
          have k6 := two_free b2 1
          have HQ : Hid (∀ x y, _ ∧ _) := two_both b2
          have HG := hidd b2
          have HW := hidd (bel3 hbel)
          clear hR hown hbel hrep b0 b1 b2
          go_wp2_with fail
          refine ct.out.mono ?_
          rintro e w' ⟨rfl, rfl⟩
          cases hc : (ma == mb)
          · have hnc : (ma != mb) = true := by simp only [bne, hc, Bool.not_false]
            have em := EM.out
            rw [hnc, Bool.true_and] at em
            by_cases hS : 0 < S.length
            · rw [show decide (0 < S.length) = true by simpa using hS] at em
              subst em
              clear EM
              go_wp2_with fail
              refine bodyPost_ret (v := .agg #[.slice (some ⟨w.heap.size + 3, 0, none⟩) S.length N, .bool true]) (by simp [results, Tryz.results65, go_sem, HQ.out]) rfl ?_
              exact ⟨⟨_, N, rfl, HR.out.store2 HG.out _ _⟩, (HW.out.setCell (Nat.le_add_right _ 2) _).setCell (Nat.le_add_right _ 2) _⟩
            · rw [show decide (0 < S.length) = false by simpa using hS] at em
              subst em
              clear EM
              go_wp2_with fail
              refine bodyPost_ret (v := .agg #[.slice (some ⟨w.heap.size + 3, 0, none⟩) S.length N, .bool false]) (by simp [results, Tryz.results65, go_sem, HQ.out]) rfl ?_
              exact ⟨⟨_, N, rfl, HR.out.store2 HG.out _ _⟩, (HW.out.setCell (Nat.le_add_right _ 2) _).setCell (Nat.le_add_right _ 2) _⟩
          · have hnc : (ma != mb) = false := by simp only [bne, hc, Bool.not_true]
            have em := EM.out
            rw [hnc, Bool.false_and] at em
            subst em
            clear EM
            go_wp2_with fail
            refine bodyPost_ret (v := .agg #[.slice (some ⟨w.heap.size + 3, 0, none⟩) S.length N, .bool false]) (by simp [results, Tryz.results65, go_sem, HQ.out]) rfl ?_
            exact ⟨⟨_, N, rfl, HR.out.store2 HG.out _ _⟩, (HW.out.setCell (Nat.le_add_right _ 2) _).setCell (Nat.le_add_right _ 2) _⟩
end Go.Proofs.YtjbkjeabobccaabGreatDoor
