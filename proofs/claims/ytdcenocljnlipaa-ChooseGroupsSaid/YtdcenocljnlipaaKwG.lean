/-
  The laws' walks of pressmarklaw11, as their frames ask for them.
-/
import Derived.Test.YtdcenocljnlipaaMgb
import Derived.Test.YtdcenocljnlipaaKh
namespace Go.Proofs.Ytdcenocljnlipaa
open Go.RowKit Go.ChangeAt
namespace KwG
open Ab Aw Kh
theorem wGroups {w : World} (v0 : Value) (n0 : Nat) (z0 : List Int) (h0 : Kit.Sl w 1 v0 n0 (z0.map (Value.int .i64))) (l0 : z0.length = n0) (hz0 : ∀ x ∈ z0, (Lit.int .i64 x).wf = true) (v1 : Value) (n1 : Nat) (z1 : List Int) (h1 : Kit.Sl w 1 v1 n1 (z1.map (Value.int .i64))) (l1 : z1.length = n1) (hz1 : ∀ x ∈ z1, (Lit.int .i64 x).wf = true) :
    Calls Try.prog 5 #[v0, v1] w fun e w' => e = .returned (.bool true) ∧ Below w.heap.size w w' :=
  FPure.below (groups_w z0 (wfs hz0) (by have := sl_bd h0; omega) z1 (wfs hz1) (by have := sl_bd h1; omega)) (vs := [v0, v1]) ⟨sl_ar h0 l0, sl_ar h1 l1, trivial⟩
end KwG
end Go.Proofs.Ytdcenocljnlipaa
