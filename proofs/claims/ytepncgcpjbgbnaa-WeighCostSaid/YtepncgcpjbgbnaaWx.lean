/-
  The laws' walks of pressmarklaw10, as their frames ask for them.
-/
import Derived.Test.YtepncgcpjbgbnaaMgb
import Derived.Test.YtepncgcpjbgbnaaWp
import Derived.Test.YtepncgcpjbgbnaaWq
import Derived.Test.YtepncgcpjbgbnaaWr
import Derived.Test.YtepncgcpjbgbnaaWs
namespace Go.Proofs.Ytepncgcpjbgbnaa
open Go.RowKit Go.ChangeAt
namespace Wx
open Ab Aw Wp Wq Wr Ws
theorem wFull {w : World} (v0 : Value) (n0 : Nat) (z0 : List Int) (h0 : Kit.Sl w 1 v0 n0 (z0.map (Value.int .i64))) (l0 : z0.length = n0) (hz0 : ∀ x ∈ z0, (Lit.int .i64 x).wf = true) (a1 : Int) (ha1 : (Lit.int .i64 a1).wf = true) :
    Calls Try.prog 4 #[v0, .int .i64 a1] w fun e w' => e = .returned (.bool true) ∧ Below w.heap.size w w' :=
  FPure.below (full_w z0 (wfs hz0) (by have := sl_bd h0; omega) a1 (wf64 ha1)) (vs := [v0, .int .i64 a1]) ⟨sl_ar h0 l0, rfl, trivial⟩
theorem wOrder {w : World} (v0 : Value) (n0 : Nat) (z0 : List Int) (h0 : Kit.Sl w 1 v0 n0 (z0.map (Value.int .i64))) (l0 : z0.length = n0) (hz0 : ∀ x ∈ z0, (Lit.int .i64 x).wf = true) (a1 : Int) (ha1 : (Lit.int .i64 a1).wf = true) :
    Calls Try.prog 5 #[v0, .int .i64 a1] w fun e w' => e = .returned (.bool true) ∧ Below w.heap.size w w' :=
  FPure.below (order_w z0 (wfs hz0) (by have := sl_bd h0; omega) a1 (wf64 ha1)) (vs := [v0, .int .i64 a1]) ⟨sl_ar h0 l0, rfl, trivial⟩
theorem wLeast {w : World} (v0 : Value) (n0 : Nat) (z0 : List Int) (h0 : Kit.Sl w 1 v0 n0 (z0.map (Value.int .i64))) (l0 : z0.length = n0) (hz0 : ∀ x ∈ z0, (Lit.int .i64 x).wf = true) (v1 : Value) (n1 : Nat) (z1 : List Int) (h1 : Kit.Sl w 1 v1 n1 (z1.map (Value.int .i64))) (l1 : z1.length = n1) (hz1 : ∀ x ∈ z1, (Lit.int .i64 x).wf = true) :
    Calls Try.prog 6 #[v0, v1] w fun e w' => e = .returned (.bool true) ∧ Below w.heap.size w w' :=
  FPure.below (least_w z0 (wfs hz0) (by have := sl_bd h0; omega) z1 (wfs hz1) (by have := sl_bd h1; omega)) (vs := [v0, v1]) ⟨sl_ar h0 l0, sl_ar h1 l1, trivial⟩
theorem wEven {w : World} (a0 : Int) (ha0 : (Lit.int .i64 a0).wf = true) (a1 : Int) (ha1 : (Lit.int .i64 a1).wf = true) (a2 : Int) (ha2 : (Lit.int .i64 a2).wf = true) :
    Calls Try.prog 7 #[.int .i64 a0, .int .i64 a1, .int .i64 a2] w fun e w' => e = .returned (.bool true) ∧ Below w.heap.size w w' :=
  FPure.below (even_w a0 (wf64 ha0) a1 (wf64 ha1) a2 (wf64 ha2)) (vs := [.int .i64 a0, .int .i64 a1, .int .i64 a2]) ⟨rfl, rfl, rfl, trivial⟩
theorem wCost {w : World} (v0 : Value) (n0 : Nat) (z0 : List Int) (h0 : Kit.Sl w 1 v0 n0 (z0.map (Value.int .i64))) (l0 : z0.length = n0) (hz0 : ∀ x ∈ z0, (Lit.int .i64 x).wf = true) (v1 : Value) (n1 : Nat) (z1 : List Int) (h1 : Kit.Sl w 1 v1 n1 (z1.map (Value.int .i64))) (l1 : z1.length = n1) (hz1 : ∀ x ∈ z1, (Lit.int .i64 x).wf = true) (a2 : Int) (ha2 : (Lit.int .i64 a2).wf = true) :
    Calls Try.prog 8 #[v0, v1, .int .i64 a2] w fun e w' => e = .returned (.bool true) ∧ Below w.heap.size w w' :=
  FPure.below (cost_w z0 (wfs hz0) (by have := sl_bd h0; omega) z1 (wfs hz1) (by have := sl_bd h1; omega) a2 (wf64 ha2)) (vs := [v0, v1, .int .i64 a2]) ⟨sl_ar h0 l0, sl_ar h1 l1, rfl, trivial⟩
end Wx
end Go.Proofs.Ytepncgcpjbgbnaa
