/-
  The laws' walks of pressmarklaw10, as their frames ask for them.
-/
import Derived.Test.YtidbnpbccpmjlaaMgb
import Derived.Test.YtidbnpbccpmjlaaWv
namespace Go.Proofs.Ytidbnpbccpmjlaa
open Go.RowKit Go.ChangeAt
namespace Wy
open Ab Aw Wv
theorem wTells {w : World} (v0 : Value) (n0 : Nat) (z0 : List Int) (h0 : Kit.Sl w 1 v0 n0 (z0.map (Value.int .i64))) (l0 : z0.length = n0) (hz0 : ∀ x ∈ z0, (Lit.int .i64 x).wf = true) (v1 : Value) (n1 : Nat) (z1 : List Int) (h1 : Kit.Sl w 1 v1 n1 (z1.map (Value.int .i64))) (l1 : z1.length = n1) (hz1 : ∀ x ∈ z1, (Lit.int .i64 x).wf = true) (a2 : Int) (ha2 : (Lit.int .i64 a2).wf = true) (v3 : Value) (n3 : Nat) (z3 : List Int) (h3 : Kit.Sl w 1 v3 n3 (z3.map (Value.int .i64))) (l3 : z3.length = n3) (hz3 : ∀ x ∈ z3, (Lit.int .i64 x).wf = true) :
    Calls Try.prog 3 #[v0, v1, .int .i64 a2, v3] w fun e w' => e = .returned (.bool true) ∧ Below w.heap.size w w' :=
  FPure.below (tells_w z0 (wfs hz0) (by have := sl_bd h0; omega) z1 (wfs hz1) (by have := sl_bd h1; omega) a2 (wf64 ha2) z3 (wfs hz3) (by have := sl_bd h3; omega)) (vs := [v0, v1, .int .i64 a2, v3]) ⟨sl_ar h0 l0, sl_ar h1 l1, rfl, sl_ar h3 l3, trivial⟩
end Wy
end Go.Proofs.Ytidbnpbccpmjlaa
