/-
  The laws' walks of pressmarklaw08, as their frames ask for them.
-/
import Derived.Test.YtnomocicogbdpaaMgb
import Derived.Test.YtnomocicogbdpaaPa
namespace Go.Proofs.Ytnomocicogbdpaa
open Go.RowKit Go.ChangeAt
namespace Pt
open Ab Aw Pa
theorem codePrefix {w : World} (v0 : Value) (n0 : Nat) (z0 : List Int) (h0 : Kit.Sl w 1 v0 n0 (z0.map (Value.int .i64))) (l0 : z0.length = n0) (hz0 : ∀ x ∈ z0, (Lit.int .i64 x).wf = true) :
    Calls Try.prog 5 #[v0] w fun e w' => e = .returned (.bool true) ∧ Below w.heap.size w w' :=
  FPure.below (prefix_w z0 (wfs hz0) (by have := sl_bd h0; omega)) (vs := [v0]) ⟨sl_ar h0 l0, trivial⟩
theorem codeFull {w : World} (v0 : Value) (n0 : Nat) (z0 : List Int) (h0 : Kit.Sl w 1 v0 n0 (z0.map (Value.int .i64))) (l0 : z0.length = n0) (hz0 : ∀ x ∈ z0, (Lit.int .i64 x).wf = true) (s1 : ByteArray) (hs1 : s1.size ≤ 9223372036854775807) :
    Calls Try.prog 6 #[v0, .string s1] w fun e w' => e = .returned (.bool true) ∧ Below w.heap.size w w' :=
  FPure.below (full_w z0 (wfs hz0) (by have := sl_bd h0; omega) s1 hs1) (vs := [v0, .string s1]) ⟨sl_ar h0 l0, rfl, trivial⟩
end Pt
end Go.Proofs.Ytnomocicogbdpaa
