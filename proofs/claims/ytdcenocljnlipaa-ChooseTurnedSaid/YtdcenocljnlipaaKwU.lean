/-
  The laws' walks of pressmarklaw11, as their frames ask for them.
-/
import Derived.Test.YtdcenocljnlipaaMgb
import Derived.Test.YtdcenocljnlipaaKf
namespace Go.Proofs.Ytdcenocljnlipaa
open Go.RowKit Go.ChangeAt
namespace KwU
open Ab Aw Kf
theorem wTurned {w : World} (v0 : Value) (n0 : Nat) (z0 : List Int) (h0 : Kit.Sl w 1 v0 n0 (z0.map (Value.int .i64))) (l0 : z0.length = n0) (hz0 : ∀ x ∈ z0, (Lit.int .i64 x).wf = true) (a1 : Int) (ha1 : (Lit.int .i64 a1).wf = true) :
    Calls Try.prog 7 #[v0, .int .i64 a1] w fun e w' => e = .returned (.bool true) ∧ Below w.heap.size w w' :=
  FPure.below (turned_w z0 (wfs hz0) (by have := sl_bd h0; omega) a1 (wf64 ha1)) (vs := [v0, .int .i64 a1]) ⟨sl_ar h0 l0, rfl, trivial⟩
end KwU
end Go.Proofs.Ytdcenocljnlipaa
