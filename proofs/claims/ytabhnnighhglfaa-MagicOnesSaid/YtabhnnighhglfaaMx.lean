/-
  The laws' walks of pressmarklaw02, as their frames ask for them.
-/
import Derived.Test.YtabhnnighhglfaaAw
import Derived.Test.YtabhnnighhglfaaMd
import Derived.Test.YtabhnnighhglfaaMe
import Derived.Test.YtabhnnighhglfaaMf
import Derived.Test.YtabhnnighhglfaaMg
import Derived.Test.YtabhnnighhglfaaMh
namespace Go.Proofs.Ytabhnnighhglfaa
open Go.RowKit Go.ChangeAt
namespace Mx
open Ab Aw Md Me Mf Mg Mh
theorem wfu64 {a : Int} (h : (Lit.int .u64 a).wf = true) : 0 ≤ a ∧ a < 18446744073709551616 := by
  simp only [Lit.wf, IntKind.min, IntKind.max, IntKind.bits, IntKind.signed, Bool.and_eq_true] at h
  simp at h
  omega
theorem tells {w : World} (s0 : ByteArray) (hs0 : s0.size ≤ 9223372036854775807) (a1 : Int) (ha1 : (Lit.int .u64 a1).wf = true) (a2 : Int) (ha2 : (Lit.int .i64 a2).wf = true) (a3 : Int) (ha3 : (Lit.int .i64 a3).wf = true) (a4 : Int) (ha4 : (Lit.int .i64 a4).wf = true) :
    Calls Try.prog 3 #[.string s0, .int .u64 a1, .int .i64 a2, .int .i64 a3, .int .i64 a4] w fun e w' => e = .returned (.bool true) ∧ Below w.heap.size w w' :=
  FPure.below (Md.tells_law s0 hs0 a1 (wfu64 ha1) a2 (wf64 ha2) a3 (wf64 ha3) a4 (wf64 ha4)) (vs := [.string s0, .int .u64 a1, .int .i64 a2, .int .i64 a3, .int .i64 a4]) ⟨rfl, rfl, rfl, rfl, rfl, trivial⟩
theorem places {w : World} (s0 : ByteArray) (hs0 : s0.size ≤ 9223372036854775807) (a1 : Int) (ha1 : (Lit.int .u64 a1).wf = true) (a2 : Int) (ha2 : (Lit.int .i64 a2).wf = true) :
    Calls Try.prog 4 #[.string s0, .int .u64 a1, .int .i64 a2] w fun e w' => e = .returned (.bool true) ∧ Below w.heap.size w w' :=
  FPure.below (Me.places_law s0 hs0 a1 (wfu64 ha1) a2 (wf64 ha2)) (vs := [.string s0, .int .u64 a1, .int .i64 a2]) ⟨rfl, rfl, rfl, trivial⟩
theorem moved {w : World} (v0 : Value) (n0 : Nat) (z0 : List Int) (h0 : Kit.Sl w 1 v0 n0 (z0.map (Value.int .i64))) (l0 : z0.length = n0) (hz0 : ∀ x ∈ z0, (Lit.int .i64 x).wf = true) (v1 : Value) (n1 : Nat) (z1 : List Int) (h1 : Kit.Sl w 1 v1 n1 (z1.map (Value.int .i64))) (l1 : z1.length = n1) (hz1 : ∀ x ∈ z1, (Lit.int .i64 x).wf = true) (a2 : Int) (ha2 : (Lit.int .u64 a2).wf = true) (a3 : Int) (ha3 : (Lit.int .i64 a3).wf = true) :
    Calls Try.prog 5 #[v0, v1, .int .u64 a2, .int .i64 a3] w fun e w' => e = .returned (.bool true) ∧ Below w.heap.size w w' :=
  FPure.below (Mh.moved_law z0 (wfs hz0) (by have := sl_bd h0; omega) z1 (wfs hz1) (by have := sl_bd h1; omega) a2 (wfu64 ha2) a3 (wf64 ha3)) (vs := [v0, v1, .int .u64 a2, .int .i64 a3]) ⟨sl_ar h0 l0, sl_ar h1 l1, rfl, rfl, trivial⟩
theorem first {w : World} (s0 : ByteArray) (hs0 : s0.size ≤ 9223372036854775807) (a1 : Int) (ha1 : (Lit.int .u64 a1).wf = true) (a2 : Int) (ha2 : (Lit.int .i64 a2).wf = true) (a3 : Int) (ha3 : (Lit.int .i64 a3).wf = true) :
    Calls Try.prog 6 #[.string s0, .int .u64 a1, .int .i64 a2, .int .i64 a3] w fun e w' => e = .returned (.bool true) ∧ Below w.heap.size w w' :=
  FPure.below (Mf.first_law s0 hs0 a1 (wfu64 ha1) a2 (wf64 ha2) a3 (wf64 ha3)) (vs := [.string s0, .int .u64 a1, .int .i64 a2, .int .i64 a3]) ⟨rfl, rfl, rfl, rfl, trivial⟩
theorem ones {w : World} (s0 : ByteArray) (hs0 : s0.size ≤ 9223372036854775807) (a1 : Int) (ha1 : (Lit.int .i64 a1).wf = true) :
    Calls Try.prog 7 #[.string s0, .int .i64 a1] w fun e w' => e = .returned (.bool true) ∧ Below w.heap.size w w' :=
  FPure.below (Mg.ones_law s0 hs0 a1 (wf64 ha1)) (vs := [.string s0, .int .i64 a1]) ⟨rfl, rfl, trivial⟩
end Mx
end Go.Proofs.Ytabhnnighhglfaa
