import Derived.Test.YtjbkjeabobccaacDoorRefMoved3
namespace Go.Proofs.YtjbkjeabobccaacDoor
open Go.RowKit Go.Lib
set_option linter.unusedVariables false

theorem ret3 {a a' b b' : Int} {c c' : Bool} (h1 : a = a') (h2 : b = b') (h3 : c = c') : Ending.returned (.tuple #[.int .i64 a, .int .i64 b, .bool c]) = .returned (.tuple #[.int .i64 a', .int .i64 b', .bool c']) := by rw [h1, h2, h3]

set_option maxHeartbeats 2000000 in
theorem span_any (lo hi at' n size : Int) (w : World) (l0 : 0 ≤ lo) (lh : lo ≤ hi) (h1 : hi < size) (s1 : size ≤ 1024) (a0 : 0 ≤ at') (a1 : at' < size) (n1 : -1024 ≤ n) (n2 : n ≤ 1024) :
    Calls Tryd.prog 38 #[.int .i64 lo, .int .i64 hi, .int .i64 at', .int .i64 n, .int .i64 size] w fun e w' => e = .returned (.tuple #[.int .i64 (loN lo at' n), .int .i64 (hiN hi at' n size), .bool (leftN lo hi at' n size)]) ∧ w' = w := by
  by_cases hn : 0 ≤ n
  · by_cases k1 : at' ≤ lo
    · have k2 : at' ≤ hi := by omega
      go_enter Tryd.func38, Tryd.ntmps38
      go_wp2
      go_ret3
      exact ⟨ret3 (by unfold loN; (repeat' split) <;> omega) (by unfold hiN; (repeat' split) <;> omega) (by unfold leftN loN hiN; (repeat' split) <;> simp <;> omega), rfl⟩
    · by_cases k2 : at' ≤ hi
      · skip
        go_enter Tryd.func38, Tryd.ntmps38
        go_wp2
        go_ret3
        exact ⟨ret3 (by unfold loN; (repeat' split) <;> omega) (by unfold hiN; (repeat' split) <;> omega) (by unfold leftN loN hiN; (repeat' split) <;> simp <;> omega), rfl⟩
      · skip
        go_enter Tryd.func38, Tryd.ntmps38
        go_wp2
        go_ret3
        exact ⟨ret3 (by unfold loN; (repeat' split) <;> omega) (by unfold hiN; (repeat' split) <;> omega) (by unfold leftN loN hiN; (repeat' split) <;> simp <;> omega), rfl⟩
  · by_cases k1 : at' - n ≤ lo
    · have k2 : at' - n ≤ hi := by omega
      go_enter Tryd.func38, Tryd.ntmps38
      go_wp2
      go_ret3
      exact ⟨ret3 (by unfold loN; (repeat' split) <;> omega) (by unfold hiN; (repeat' split) <;> omega) (by unfold leftN loN hiN; (repeat' split) <;> simp <;> omega), rfl⟩
    · by_cases k3 : at' ≤ lo
      · have k4 : at' ≤ hi := by omega
        by_cases k2 : at' - n ≤ hi
        · skip
          go_enter Tryd.func38, Tryd.ntmps38
          go_wp2
          go_ret3
          exact ⟨ret3 (by unfold loN; (repeat' split) <;> omega) (by unfold hiN; (repeat' split) <;> omega) (by unfold leftN loN hiN; (repeat' split) <;> simp <;> omega), rfl⟩
        · skip
          go_enter Tryd.func38, Tryd.ntmps38
          go_wp2
          go_ret3
          exact ⟨ret3 (by unfold loN; (repeat' split) <;> omega) (by unfold hiN; (repeat' split) <;> omega) (by unfold leftN loN hiN; (repeat' split) <;> simp <;> omega), rfl⟩
      · by_cases k2 : at' - n ≤ hi
        · skip
          go_enter Tryd.func38, Tryd.ntmps38
          go_wp2
          go_ret3
          exact ⟨ret3 (by unfold loN; (repeat' split) <;> omega) (by unfold hiN; (repeat' split) <;> omega) (by unfold leftN loN hiN; (repeat' split) <;> simp <;> omega), rfl⟩
        · by_cases k4 : at' ≤ hi
          · skip
            go_enter Tryd.func38, Tryd.ntmps38
            go_wp2
            go_ret3
            exact ⟨ret3 (by unfold loN; (repeat' split) <;> omega) (by unfold hiN; (repeat' split) <;> omega) (by unfold leftN loN hiN; (repeat' split) <;> simp <;> omega), rfl⟩
          · skip
            go_enter Tryd.func38, Tryd.ntmps38
            go_wp2
            go_ret3
            exact ⟨ret3 (by unfold loN; (repeat' split) <;> omega) (by unfold hiN; (repeat' split) <;> omega) (by unfold leftN loN hiN; (repeat' split) <;> simp <;> omega), rfl⟩
end Go.Proofs.YtjbkjeabobccaacDoor
