/-
  The laws' walks of pressmarklaw09, as their frames ask for them.
-/
import Derived.Test.YtbfigolloaeknaaMgb
import Derived.Test.YtbfigolloaeknaaDh
import Derived.Test.YtbfigolloaeknaaDi
import Derived.Test.YtbfigolloaeknaaDj
import Derived.Test.YtbfigolloaeknaaDq
import Derived.Test.YtbfigolloaeknaaDs
import Derived.Test.YtbfigolloaeknaaDu
namespace Go.Proofs.Ytbfigolloaeknaa
open Go.RowKit Go.ChangeAt
namespace Dv
open Ab Aw Dh Di Dj Dq Ds Du
theorem wTells {w : World} (v0 : Value) (n0 : Nat) (z0 : List Int) (h0 : Kit.Sl w 1 v0 n0 (z0.map (Value.int .i64))) (l0 : z0.length = n0) (hz0 : ∀ x ∈ z0, (Lit.int .i64 x).wf = true) (v1 : Value) (n1 : Nat) (z1 : List Int) (h1 : Kit.Sl w 1 v1 n1 (z1.map (Value.int .i64))) (l1 : z1.length = n1) (hz1 : ∀ x ∈ z1, (Lit.int .i64 x).wf = true) (s2 : ByteArray) (hs2 : s2.size ≤ 9223372036854775807) (a3 : Int) (ha3 : (Lit.int .i64 a3).wf = true) (a4 : Int) (ha4 : (Lit.int .i64 a4).wf = true) (a5 : Int) (ha5 : (Lit.int .i64 a5).wf = true) :
    Calls Try.prog 3 #[v0, v1, .string s2, .int .i64 a3, .int .i64 a4, .int .i64 a5] w fun e w' => e = .returned (.bool true) ∧ Below w.heap.size w w' :=
  FPure.below (tells_w z0 (wfs hz0) (by have := sl_bd h0; omega) z1 (wfs hz1) (by have := sl_bd h1; omega) s2 hs2 a3 (wf64 ha3) a4 (wf64 ha4) a5 (wf64 ha5)) (vs := [v0, v1, .string s2, .int .i64 a3, .int .i64 a4, .int .i64 a5]) ⟨sl_ar h0 l0, sl_ar h1 l1, rfl, rfl, rfl, rfl, trivial⟩
theorem wBack {w : World} (v0 : Value) (n0 : Nat) (z0 : List Int) (h0 : Kit.Sl w 1 v0 n0 (z0.map (Value.int .i64))) (l0 : z0.length = n0) (hz0 : ∀ x ∈ z0, (Lit.int .i64 x).wf = true) (v1 : Value) (n1 : Nat) (z1 : List Int) (h1 : Kit.Sl w 1 v1 n1 (z1.map (Value.int .i64))) (l1 : z1.length = n1) (hz1 : ∀ x ∈ z1, (Lit.int .i64 x).wf = true) (v2 : Value) (n2 : Nat) (z2 : List Int) (h2 : Kit.Sl w 1 v2 n2 (z2.map (Value.int .i64))) (l2 : z2.length = n2) (hz2 : ∀ x ∈ z2, (Lit.int .i64 x).wf = true) (a3 : Int) (ha3 : (Lit.int .i64 a3).wf = true) :
    Calls Try.prog 4 #[v0, v1, v2, .int .i64 a3] w fun e w' => e = .returned (.bool true) ∧ Below w.heap.size w w' :=
  FPure.below (back_w z0 (wfs hz0) (by have := sl_bd h0; omega) z1 (wfs hz1) (by have := sl_bd h1; omega) z2 (wfs hz2) (by have := sl_bd h2; omega) a3 (wf64 ha3)) (vs := [v0, v1, v2, .int .i64 a3]) ⟨sl_ar h0 l0, sl_ar h1 l1, sl_ar h2 l2, rfl, trivial⟩
theorem wLong {w : World} (v0 : Value) (n0 : Nat) (z0 : List Int) (h0 : Kit.Sl w 1 v0 n0 (z0.map (Value.int .i64))) (l0 : z0.length = n0) (hz0 : ∀ x ∈ z0, (Lit.int .i64 x).wf = true) :
    Calls Try.prog 5 #[v0] w fun e w' => e = .returned (.bool true) ∧ Below w.heap.size w w' :=
  FPure.below (long_w z0 (wfs hz0) (by have := sl_bd h0; omega)) (vs := [v0]) ⟨sl_ar h0 l0, trivial⟩
theorem wParts {w : World} (s0 : ByteArray) (hs0 : s0.size ≤ 9223372036854775807) (a1 : Int) (ha1 : (Lit.int .i64 a1).wf = true) (a2 : Int) (ha2 : (Lit.int .i64 a2).wf = true) :
    Calls Try.prog 6 #[.string s0, .int .i64 a1, .int .i64 a2] w fun e w' => e = .returned (.bool true) ∧ Below w.heap.size w w' :=
  FPure.below (parts_w s0 hs0 a1 (wf64 ha1) a2 (wf64 ha2)) (vs := [.string s0, .int .i64 a1, .int .i64 a2]) ⟨rfl, rfl, rfl, trivial⟩
theorem wTurned {w : World} (v0 : Value) (n0 : Nat) (z0 : List Int) (h0 : Kit.Sl w 1 v0 n0 (z0.map (Value.int .i64))) (l0 : z0.length = n0) (hz0 : ∀ x ∈ z0, (Lit.int .i64 x).wf = true) :
    Calls Try.prog 7 #[v0] w fun e w' => e = .returned (.bool true) ∧ Below w.heap.size w w' :=
  FPure.below (turned_w z0 (wfs hz0) (by have := sl_bd h0; omega)) (vs := [v0]) ⟨sl_ar h0 l0, trivial⟩
theorem wForms {w : World} (v0 : Value) (n0 : Nat) (z0 : List Int) (h0 : Kit.Sl w 1 v0 n0 (z0.map (Value.int .i64))) (l0 : z0.length = n0) (hz0 : ∀ x ∈ z0, (Lit.int .i64 x).wf = true) (s1 : ByteArray) (hs1 : s1.size ≤ 9223372036854775807) (a2 : Int) (ha2 : (Lit.int .i64 a2).wf = true) (a3 : Int) (ha3 : (Lit.int .i64 a3).wf = true) :
    Calls Try.prog 8 #[v0, .string s1, .int .i64 a2, .int .i64 a3] w fun e w' => e = .returned (.bool true) ∧ Below w.heap.size w w' :=
  FPure.below (forms_w z0 (wfs hz0) (by have := sl_bd h0; omega) s1 hs1 a2 (wf64 ha2) a3 (wf64 ha3)) (vs := [v0, .string s1, .int .i64 a2, .int .i64 a3]) ⟨sl_ar h0 l0, rfl, rfl, rfl, trivial⟩
end Dv
end Go.Proofs.Ytbfigolloaeknaa
