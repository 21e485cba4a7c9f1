/-
  The laws' walks of pressmarklaw11, as their frames ask for them.
-/
import Derived.Test.YtdcenocljnlipaaMgb
import Derived.Test.YtdcenocljnlipaaKt
namespace Go.Proofs.Ytdcenocljnlipaa
open Go.RowKit Go.ChangeAt
namespace KwT
open Ab Aw Kt
theorem wTells {w : World} (v0 : Value) (n0 : Nat) (z0 : List Int) (h0 : Kit.Sl w 1 v0 n0 (z0.map (Value.int .i64))) (l0 : z0.length = n0) (hz0 : ∀ x ∈ z0, (Lit.int .i64 x).wf = true) (v1 : Value) (n1 : Nat) (z1 : List Int) (h1 : Kit.Sl w 1 v1 n1 (z1.map (Value.int .i64))) (l1 : z1.length = n1) (hz1 : ∀ x ∈ z1, (Lit.int .i64 x).wf = true) (a2 : Int) (ha2 : (Lit.int .i64 a2).wf = true) (v3 : Value) (n3 : Nat) (z3 : List Int) (h3 : Kit.Sl w 1 v3 n3 (z3.map (Value.int .i64))) (l3 : z3.length = n3) (hz3 : ∀ x ∈ z3, (Lit.int .i64 x).wf = true) (v4 : Value) (n4 : Nat) (z4 : List Int) (h4 : Kit.Sl w 1 v4 n4 (z4.map (Value.int .i64))) (l4 : z4.length = n4) (hz4 : ∀ x ∈ z4, (Lit.int .i64 x).wf = true) :
    Calls Try.prog 3 #[v0, v1, .int .i64 a2, v3, v4] w fun e w' => e = .returned (.bool true) ∧ Below w.heap.size w w' :=
  FPure.below (tells_w z0 (wfs hz0) (by have := sl_bd h0; omega) z1 (wfs hz1) (by have := sl_bd h1; omega) a2 (wf64 ha2) z3 (wfs hz3) (by have := sl_bd h3; omega) z4 (wfs hz4) (by have := sl_bd h4; omega)) (vs := [v0, v1, .int .i64 a2, v3, v4]) ⟨sl_ar h0 l0, sl_ar h1 l1, rfl, sl_ar h3 l3, sl_ar h4 l4, trivial⟩
end KwT
end Go.Proofs.Ytdcenocljnlipaa
