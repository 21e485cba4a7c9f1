/-
  The laws' walks of pressmarklaw07, as their frames ask for them.
-/
import Derived.Test.YtlcephckjhiggaaAw
import Derived.Test.YtlcephckjhiggaaGw
namespace Go.Proofs.Ytlcephckjhiggaa
open Go.RowKit Go.ChangeAt
namespace Gx
open Ab Aw Gw
theorem tells {w : World} (s0 : ByteArray) (hs0 : s0.size ≤ 9223372036854775807) (s1 : ByteArray) (hs1 : s1.size ≤ 9223372036854775807) (a2 : Int) (ha2 : (Lit.int .i64 a2).wf = true) (a3 : Int) (ha3 : (Lit.int .i64 a3).wf = true) :
    Calls Try.prog 3 #[.string s0, .string s1, .int .i64 a2, .int .i64 a3] w fun e w' => e = .returned (.bool true) ∧ Below w.heap.size w w' :=
  FPure.below (Gw.tells_law s0 hs0 s1 hs1 a2 (wf64 ha2) a3 (wf64 ha3)) (vs := [.string s0, .string s1, .int .i64 a2, .int .i64 a3]) ⟨rfl, rfl, rfl, rfl, trivial⟩
end Gx
end Go.Proofs.Ytlcephckjhiggaa
