import Derived.Test.YtjbkjeabobccaaaDoorNumParses3
namespace Go.Proofs.YtjbkjeabobccaaaDoor
open Go.RowKit Go.Sort Go.Lib
set_option linter.unusedVariables false

set_option maxHeartbeats 2000000 in
theorem numParses_walk (s : ByteArray) (w : World) (hE : Env w) (hs : s.size < 4294967281) :
    Calls Tryd.prog 3 #[.string s] w fun e w' => e = .returned (.bool true) ∧ Below w.heap.size w w' := by
  have ca := hidd (fun w hE => parse_any s w hE hs)
  have cb := hidd (fun w => rParse_any s w hs)
  have al := hidd alive_any
  have HE := hidd hE
  generalize (parseR s.data.toList).1 = n at ca cb
  generalize (parseR s.data.toList).2 = b at ca cb
  clear hE
  go_enter Tryd.func3, Tryd.ntmps3
  go_wp2_with fail
  refine (ca.out _ HE.out).mono ?_
  rintro e w1 ⟨rfl, hb1⟩
  go_wp2_with fail
  refine (cb.out _).mono ?_
  rintro e w2 ⟨rfl, hb2⟩
  have B2 := hidd (key2 hb1 hb2)
  clear hb1 hb2
  go_wp2_with fail
  refine (al.out _ (HE.out.step B2.out)).mono ?_
  rintro e w3 ⟨rfl, hb3⟩
  have B3 := hidd (key2 B2.out hb3)
  go_wp2_with fail
  go_ret
  exact ⟨rfl, B3.out⟩
end Go.Proofs.YtjbkjeabobccaaaDoor
