import Derived.Test.YtjbkjeabobccaacGreatDoorValueLawsLess
import Derived.Test.YtjbkjeabobccaacGreatDoorValueLawsSame
import Derived.Test.YtjbkjeabobccaacGreatDoorValueLawsMore
namespace Go.Proofs.YtjbkjeabobccaacGreatDoor
open Go.RowKit Go.Sort Go.Lib

theorem valueLaws_walk (k1 n1 : Int) (t1 : ByteArray) (k2 n2 : Int) (t2 : ByteArray) (k3 n3 : Int) (t3 : ByteArray) (w : World) (hE : Env w)
    (a1 : -9223372036854775808 ≤ n1) (b1 : n1 ≤ 9223372036854775807) (a2 : -9223372036854775808 ≤ n2) (b2 : n2 ≤ 9223372036854775807) (a3 : -9223372036854775808 ≤ n3) (b3 : n3 ≤ 9223372036854775807) :
    Calls Tryz.prog 3 #[.agg #[.int .i64 k1, .int .i64 n1, .string t1], .agg #[.int .i64 k2, .int .i64 n2, .string t2], .agg #[.int .i64 k3, .int .i64 n3, .string t3]] w fun e w' => e = .returned (.bool true) ∧ Below w.heap.size w w' := by
  obtain ⟨⟨K1, N1, T1⟩, e1⟩ : ∃ c, cnt k1 n1 t1 = c := ⟨_, rfl⟩
  obtain ⟨⟨K2, N2, T2⟩, e2⟩ : ∃ c, cnt k2 n2 t2 = c := ⟨_, rfl⟩
  obtain ⟨⟨K3, N3, T3⟩, e3⟩ : ∃ c, cnt k3 n3 t3 = c := ⟨_, rfl⟩
  rcases ord_range K1 N1 T1 K2 N2 T2 with h | h | h
  · exact valueLaws_less k1 n1 t1 k2 n2 t2 k3 n3 t3 K1 N1 T1 K2 N2 T2 K3 N3 T3 ⟨⟨e1⟩, a1, b1⟩ ⟨⟨e2⟩, a2, b2⟩ ⟨⟨e3⟩, a3, b3⟩ h w hE
  · exact valueLaws_same k1 n1 t1 k2 n2 t2 k3 n3 t3 K1 N1 T1 K2 N2 T2 K3 N3 T3 ⟨⟨e1⟩, a1, b1⟩ ⟨⟨e2⟩, a2, b2⟩ ⟨⟨e3⟩, a3, b3⟩ h w hE
  · exact valueLaws_more k1 n1 t1 k2 n2 t2 k3 n3 t3 K1 N1 T1 K2 N2 T2 K3 N3 T3 ⟨⟨e1⟩, a1, b1⟩ ⟨⟨e2⟩, a2, b2⟩ ⟨⟨e3⟩, a3, b3⟩ h w hE
end Go.Proofs.YtjbkjeabobccaacGreatDoor
