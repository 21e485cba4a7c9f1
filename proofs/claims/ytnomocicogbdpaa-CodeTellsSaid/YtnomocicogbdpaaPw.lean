/-
  The laws' walks of pressmarklaw08, as their frames ask for them.
-/
import Derived.Test.YtnomocicogbdpaaMgb
import Derived.Test.YtnomocicogbdpaaPd
namespace Go.Proofs.Ytnomocicogbdpaa
open Go.RowKit Go.ChangeAt
namespace Pw
open Ab Aw Pd
theorem codeTells {w : World} (v0 : Value) (n0 : Nat) (z0 : List Int) (h0 : Kit.Sl w 1 v0 n0 (z0.map (Value.int .i64))) (l0 : z0.length = n0) (hz0 : ∀ x ∈ z0, (Lit.int .i64 x).wf = true) (v1 : Value) (n1 : Nat) (z1 : List Int) (h1 : Kit.Sl w 1 v1 n1 (z1.map (Value.int .i64))) (l1 : z1.length = n1) (hz1 : ∀ x ∈ z1, (Lit.int .i64 x).wf = true) (a2 : Int) (ha2 : (Lit.int .i64 a2).wf = true) (a3 : Int) (ha3 : (Lit.int .i64 a3).wf = true) (v4 : Value) (n4 : Nat) (z4 : List Int) (h4 : Kit.Sl w 1 v4 n4 (z4.map (Value.int .i64))) (l4 : z4.length = n4) (hz4 : ∀ x ∈ z4, (Lit.int .i64 x).wf = true) (s5 : ByteArray) (hs5 : s5.size ≤ 9223372036854775807) (a6 : Int) (ha6 : (Lit.int .i64 a6).wf = true) :
    Calls Try.prog 3 #[v0, v1, .int .i64 a2, .int .i64 a3, v4, .string s5, .int .i64 a6] w fun e w' => e = .returned (.bool true) ∧ Below w.heap.size w w' :=
  FPure.below (tells_w z0 (wfs hz0) (by have := sl_bd h0; omega) z1 (wfs hz1) (by have := sl_bd h1; omega) a2 (wf64 ha2) a3 (wf64 ha3) z4 (wfs hz4) (by have := sl_bd h4; omega) s5 hs5 a6 (wf64 ha6)) (vs := [v0, v1, .int .i64 a2, .int .i64 a3, v4, .string s5, .int .i64 a6]) ⟨sl_ar h0 l0, sl_ar h1 l1, rfl, rfl, sl_ar h4 l4, rfl, rfl, trivial⟩
end Pw
end Go.Proofs.Ytnomocicogbdpaa
