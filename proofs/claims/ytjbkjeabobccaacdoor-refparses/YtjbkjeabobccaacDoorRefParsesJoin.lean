import Derived.Test.YtjbkjeabobccaacDoorRefParsesNo
import Derived.Test.YtjbkjeabobccaacDoorRefParses2
namespace Go.Proofs.YtjbkjeabobccaacDoor
open Go.RowKit Go.Sort Go.Lib

theorem refParses_walk (s : ByteArray) (w : World) (hs : s.size ≤ maxLen) (hE : TabE w) :
    Calls Tryd.prog 3 #[.string s] w fun e w' => e = .returned (.bool true) ∧ Below w.heap.size w w' :=
  refParses_walk' s w hs hE (fun w => rfParse_any s w hs)
end Go.Proofs.YtjbkjeabobccaacDoor
