/-
  The laws' walks of pressmarklaw08, as their frames ask for them.
-/
import Derived.Test.YtnomocicogbdpaaMgb
import Derived.Test.YtnomocicogbdpaaPb
namespace Go.Proofs.Ytnomocicogbdpaa
open Go.RowKit Go.ChangeAt
namespace Pu
open Ab Aw Pb
theorem codeCheck {w : World} (v0 : Value) (n0 : Nat) (z0 : List Int) (h0 : Kit.Sl w 1 v0 n0 (z0.map (Value.int .i64))) (l0 : z0.length = n0) (hz0 : ∀ x ∈ z0, (Lit.int .i64 x).wf = true) (a1 : Int) (ha1 : (Lit.int .i64 a1).wf = true) (a2 : Int) (ha2 : (Lit.int .i64 a2).wf = true) :
    Calls Try.prog 8 #[v0, .int .i64 a1, .int .i64 a2] w fun e w' => e = .returned (.bool true) ∧ Below w.heap.size w w' :=
  FPure.below (check_w z0 (wfs hz0) (by have := sl_bd h0; omega) a1 (wf64 ha1) a2 (wf64 ha2)) (vs := [v0, .int .i64 a1, .int .i64 a2]) ⟨sl_ar h0 l0, rfl, rfl, trivial⟩
end Pu
end Go.Proofs.Ytnomocicogbdpaa
