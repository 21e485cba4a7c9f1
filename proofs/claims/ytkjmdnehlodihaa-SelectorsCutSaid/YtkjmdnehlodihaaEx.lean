/-
  The laws' walks of pressmarklaw12, as their frames ask for them.
-/
import Derived.Test.YtkjmdnehlodihaaAw
import Derived.Test.YtkjmdnehlodihaaEj
import Derived.Test.YtkjmdnehlodihaaEk
import Derived.Test.YtkjmdnehlodihaaEl
import Derived.Test.YtkjmdnehlodihaaEw
namespace Go.Proofs.Ytkjmdnehlodihaa
open Go.RowKit Go.ChangeAt
namespace Ex
open Ab Aw Ej Ek El Ew
theorem tells {w : World} (v0 : Value) (n0 : Nat) (z0 : List Int) (h0 : Kit.Sl w 1 v0 n0 (z0.map (Value.int .i64))) (l0 : z0.length = n0) (hz0 : ∀ x ∈ z0, (Lit.int .i64 x).wf = true) (v1 : Value) (n1 : Nat) (z1 : List Int) (h1 : Kit.Sl w 1 v1 n1 (z1.map (Value.int .i64))) (l1 : z1.length = n1) (hz1 : ∀ x ∈ z1, (Lit.int .i64 x).wf = true) (a2 : Int) (ha2 : (Lit.int .i64 a2).wf = true) (s3 : ByteArray) (hs3 : s3.size ≤ 9223372036854775807) (a4 : Int) (ha4 : (Lit.int .i64 a4).wf = true) (a5 : Int) (ha5 : (Lit.int .i64 a5).wf = true) (a6 : Int) (ha6 : (Lit.int .i64 a6).wf = true) :
    Calls Try.prog 3 #[v0, v1, .int .i64 a2, .string s3, .int .i64 a4, .int .i64 a5, .int .i64 a6] w fun e w' => e = .returned (.bool true) ∧ Below w.heap.size w w' :=
  FPure.below (Ew.tells_law z0 (wfs hz0) (by have := sl_bd h0; omega) z1 (wfs hz1) (by have := sl_bd h1; omega) a2 (wf64 ha2) s3 hs3 a4 (wf64 ha4) a5 (wf64 ha5) a6 (wf64 ha6)) (vs := [v0, v1, .int .i64 a2, .string s3, .int .i64 a4, .int .i64 a5, .int .i64 a6]) ⟨sl_ar h0 l0, sl_ar h1 l1, rfl, rfl, rfl, rfl, rfl, trivial⟩
theorem back {w : World} (a0 : Int) (ha0 : (Lit.int .i64 a0).wf = true) (v1 : Value) (n1 : Nat) (z1 : List Int) (h1 : Kit.Sl w 1 v1 n1 (z1.map (Value.int .i64))) (l1 : z1.length = n1) (hz1 : ∀ x ∈ z1, (Lit.int .i64 x).wf = true) (v2 : Value) (n2 : Nat) (z2 : List Int) (h2 : Kit.Sl w 1 v2 n2 (z2.map (Value.int .i64))) (l2 : z2.length = n2) (hz2 : ∀ x ∈ z2, (Lit.int .i64 x).wf = true) (v3 : Value) (n3 : Nat) (z3 : List Int) (h3 : Kit.Sl w 1 v3 n3 (z3.map (Value.int .i64))) (l3 : z3.length = n3) (hz3 : ∀ x ∈ z3, (Lit.int .i64 x).wf = true) (a4 : Int) (ha4 : (Lit.int .i64 a4).wf = true) :
    Calls Try.prog 4 #[.int .i64 a0, v1, v2, v3, .int .i64 a4] w fun e w' => e = .returned (.bool true) ∧ Below w.heap.size w w' :=
  FPure.below (Ej.back_law a0 (wf64 ha0) z1 (wfs hz1) (by have := sl_bd h1; omega) z2 (wfs hz2) (by have := sl_bd h2; omega) z3 (wfs hz3) (by have := sl_bd h3; omega) a4 (wf64 ha4)) (vs := [.int .i64 a0, v1, v2, v3, .int .i64 a4]) ⟨rfl, sl_ar h1 l1, sl_ar h2 l2, sl_ar h3 l3, rfl, trivial⟩
theorem long {w : World} (s0 : ByteArray) (hs0 : s0.size ≤ 9223372036854775807) (a1 : Int) (ha1 : (Lit.int .i64 a1).wf = true) (a2 : Int) (ha2 : (Lit.int .i64 a2).wf = true) :
    Calls Try.prog 5 #[.string s0, .int .i64 a1, .int .i64 a2] w fun e w' => e = .returned (.bool true) ∧ Below w.heap.size w w' :=
  FPure.below (El.long_law s0 hs0 a1 (wf64 ha1) a2 (wf64 ha2)) (vs := [.string s0, .int .i64 a1, .int .i64 a2]) ⟨rfl, rfl, rfl, trivial⟩
theorem names {w : World} (a0 : Int) (ha0 : (Lit.int .i64 a0).wf = true) (v1 : Value) (n1 : Nat) (z1 : List Int) (h1 : Kit.Sl w 1 v1 n1 (z1.map (Value.int .i64))) (l1 : z1.length = n1) (hz1 : ∀ x ∈ z1, (Lit.int .i64 x).wf = true) (a2 : Int) (ha2 : (Lit.int .i64 a2).wf = true) (a3 : Int) (ha3 : (Lit.int .i64 a3).wf = true) :
    Calls Try.prog 6 #[.int .i64 a0, v1, .int .i64 a2, .int .i64 a3] w fun e w' => e = .returned (.bool true) ∧ Below w.heap.size w w' :=
  FPure.below (Ek.names_law a0 (wf64 ha0) z1 (wfs hz1) (by have := sl_bd h1; omega) a2 (wf64 ha2) a3 (wf64 ha3)) (vs := [.int .i64 a0, v1, .int .i64 a2, .int .i64 a3]) ⟨rfl, sl_ar h1 l1, rfl, rfl, trivial⟩
theorem cut {w : World} (a0 : Int) (ha0 : (Lit.int .i64 a0).wf = true) (v1 : Value) (n1 : Nat) (z1 : List Int) (h1 : Kit.Sl w 1 v1 n1 (z1.map (Value.int .i64))) (l1 : z1.length = n1) (hz1 : ∀ x ∈ z1, (Lit.int .i64 x).wf = true) (a2 : Int) (ha2 : (Lit.int .i64 a2).wf = true) :
    Calls Try.prog 7 #[.int .i64 a0, v1, .int .i64 a2] w fun e w' => e = .returned (.bool true) ∧ Below w.heap.size w w' :=
  FPure.below (Ek.cut_law a0 (wf64 ha0) z1 (wfs hz1) (by have := sl_bd h1; omega) a2 (wf64 ha2)) (vs := [.int .i64 a0, v1, .int .i64 a2]) ⟨rfl, sl_ar h1 l1, rfl, trivial⟩
end Ex
end Go.Proofs.Ytkjmdnehlodihaa
