/-
  The laws' walks of pressmarklaw11, as their frames ask for them.
-/
import Derived.Test.YtdcenocljnlipaaMgb
import Derived.Test.YtdcenocljnlipaaKg
namespace Go.Proofs.Ytdcenocljnlipaa
open Go.RowKit Go.ChangeAt
namespace KwB
open Ab Aw Kg
theorem wBest {w : World} (v0 : Value) (n0 : Nat) (z0 : List Int) (h0 : Kit.Sl w 1 v0 n0 (z0.map (Value.int .i64))) (l0 : z0.length = n0) (hz0 : ∀ x ∈ z0, (Lit.int .i64 x).wf = true) (a1 : Int) (ha1 : (Lit.int .i64 a1).wf = true) (v2 : Value) (n2 : Nat) (z2 : List Int) (h2 : Kit.Sl w 1 v2 n2 (z2.map (Value.int .i64))) (l2 : z2.length = n2) (hz2 : ∀ x ∈ z2, (Lit.int .i64 x).wf = true) :
    Calls Try.prog 4 #[v0, .int .i64 a1, v2] w fun e w' => e = .returned (.bool true) ∧ Below w.heap.size w w' :=
  FPure.below (best_w z0 (wfs hz0) (by have := sl_bd h0; omega) a1 (wf64 ha1) z2 (wfs hz2) (by have := sl_bd h2; omega)) (vs := [v0, .int .i64 a1, v2]) ⟨sl_ar h0 l0, rfl, sl_ar h2 l2, trivial⟩
end KwB
end Go.Proofs.Ytdcenocljnlipaa
