/-
  The laws' walks of pressmarklaw04, as their frames ask for them.
-/
import Derived.Test.YtmilegikgbmjpaaAw
import Derived.Test.YtmilegikgbmjpaaOr
import Derived.Test.YtmilegikgbmjpaaRe
import Derived.Test.YtmilegikgbmjpaaRf
import Derived.Test.YtmilegikgbmjpaaRg
import Derived.Test.YtmilegikgbmjpaaRh
import Derived.Test.YtmilegikgbmjpaaRj
namespace Go.Proofs.Ytmilegikgbmjpaa
open Go.RowKit Go.ChangeAt
namespace Rx
open Ab Aw Re Rf Rg Rh Rj
theorem byteIs {a : Int} (h : (Lit.int .u8 a).wf = true) : Value.int .u8 a = .int .u8 (((UInt8.ofNat a.toNat).toNat : Nat) : Int) := by
  have h1 : 0 ≤ a ∧ a < 256 := by
    simp only [Lit.wf, IntKind.min, IntKind.max, IntKind.bits, IntKind.signed, Bool.and_eq_true] at h
    simp at h
    omega
  rw [UInt8.toNat_ofNat', Nat.mod_eq_of_lt (show a.toNat < 2 ^ 8 by omega), Int.toNat_of_nonneg h1.1]
theorem wfp {l : List (Int × Int)} (h : ∀ z ∈ l, (Lit.int .i64 z.1).wf = true ∧ (Lit.int .i64 z.2).wf = true) : in2 l := fun p hp => ⟨wf64 (h p hp).1, wf64 (h p hp).2⟩
theorem tells {w : World} (s0 : ByteArray) (hs0 : s0.size ≤ 9223372036854775807) (v1 : Value) (n1 : Nat) (z1 : List (Int × Int)) (h1 : Kit.Sl w 2 v1 n1 (prs z1)) (l1 : z1.length = n1) (hz1 : ∀ x ∈ z1, (Lit.int .i64 x.1).wf = true ∧ (Lit.int .i64 x.2).wf = true) (a2 : Int) (ha2 : (Lit.int .i64 a2).wf = true) (a3 : Int) (ha3 : (Lit.int .i64 a3).wf = true) :
    Calls Try.prog 3 #[.string s0, v1, .int .i64 a2, .int .i64 a3] w fun e w' => e = .returned (.bool true) ∧ Below w.heap.size w w' :=
  FPure.below (tells_law s0 hs0 z1 (wfp hz1) (by have := sl_bd h1; omega) a2 (wf64 ha2) a3 (wf64 ha3)) (vs := [.string s0, v1, .int .i64 a2, .int .i64 a3]) ⟨rfl, Kit.sl_ar2 h1 l1, rfl, rfl, trivial⟩
theorem back {w : World} (v0 : Value) (n0 : Nat) (z0 : List (Int × Int)) (h0 : Kit.Sl w 2 v0 n0 (prs z0)) (l0 : z0.length = n0) (hz0 : ∀ x ∈ z0, (Lit.int .i64 x.1).wf = true ∧ (Lit.int .i64 x.2).wf = true) (s1 : ByteArray) (hs1 : s1.size ≤ 9223372036854775807) (a2 : Int) (ha2 : (Lit.int .i64 a2).wf = true) :
    Calls Try.prog 4 #[v0, .string s1, .int .i64 a2] w fun e w' => e = .returned (.bool true) ∧ Below w.heap.size w w' :=
  FPure.below (back_law z0 (wfp hz0) (by have := sl_bd h0; omega) s1 hs1 a2 (wf64 ha2)) (vs := [v0, .string s1, .int .i64 a2]) ⟨Kit.sl_ar2 h0 l0, rfl, rfl, trivial⟩
theorem long {w : World} (v0 : Value) (n0 : Nat) (z0 : List (Int × Int)) (h0 : Kit.Sl w 2 v0 n0 (prs z0)) (l0 : z0.length = n0) (hz0 : ∀ x ∈ z0, (Lit.int .i64 x.1).wf = true ∧ (Lit.int .i64 x.2).wf = true) (s1 : ByteArray) (hs1 : s1.size ≤ 9223372036854775807) :
    Calls Try.prog 5 #[v0, .string s1] w fun e w' => e = .returned (.bool true) ∧ Below w.heap.size w w' :=
  FPure.below (long_law z0 (wfp hz0) (by have := sl_bd h0; omega) s1 hs1) (vs := [v0, .string s1]) ⟨Kit.sl_ar2 h0 l0, rfl, trivial⟩
theorem cut {w : World} (v0 : Value) (n0 : Nat) (z0 : List (Int × Int)) (h0 : Kit.Sl w 2 v0 n0 (prs z0)) (l0 : z0.length = n0) (hz0 : ∀ x ∈ z0, (Lit.int .i64 x.1).wf = true ∧ (Lit.int .i64 x.2).wf = true) (a1 : Int) (ha1 : (Lit.int .i64 a1).wf = true) :
    Calls Try.prog 6 #[v0, .int .i64 a1] w fun e w' => e = .returned (.bool true) ∧ Below w.heap.size w w' :=
  FPure.below (cut_law z0 (wfp hz0) (by have := sl_bd h0; omega) a1 (wf64 ha1)) (vs := [v0, .int .i64 a1]) ⟨Kit.sl_ar2 h0 l0, rfl, trivial⟩
theorem parts {w : World} (v0 : Value) (n0 : Nat) (z0 : List (Int × Int)) (h0 : Kit.Sl w 2 v0 n0 (prs z0)) (l0 : z0.length = n0) (hz0 : ∀ x ∈ z0, (Lit.int .i64 x.1).wf = true ∧ (Lit.int .i64 x.2).wf = true) (v1 : Value) (n1 : Nat) (z1 : List (Int × Int)) (h1 : Kit.Sl w 2 v1 n1 (prs z1)) (l1 : z1.length = n1) (hz1 : ∀ x ∈ z1, (Lit.int .i64 x.1).wf = true ∧ (Lit.int .i64 x.2).wf = true) :
    Calls Try.prog 7 #[v0, v1] w fun e w' => e = .returned (.bool true) ∧ Below w.heap.size w w' :=
  FPure.below (parts_law z0 (wfp hz0) (by have := sl_bd h0; omega) z1 (wfp hz1) (by have := sl_bd h1; omega)) (vs := [v0, v1]) ⟨Kit.sl_ar2 h0 l0, Kit.sl_ar2 h1 l1, trivial⟩
theorem sum {w : World} (v0 : Value) (n0 : Nat) (z0 : List (Int × Int)) (h0 : Kit.Sl w 2 v0 n0 (prs z0)) (l0 : z0.length = n0) (hz0 : ∀ x ∈ z0, (Lit.int .i64 x.1).wf = true ∧ (Lit.int .i64 x.2).wf = true) (v1 : Value) (n1 : Nat) (z1 : List (Int × Int)) (h1 : Kit.Sl w 2 v1 n1 (prs z1)) (l1 : z1.length = n1) (hz1 : ∀ x ∈ z1, (Lit.int .i64 x.1).wf = true ∧ (Lit.int .i64 x.2).wf = true) (a2 : Int) (ha2 : (Lit.int .i64 a2).wf = true) :
    Calls Try.prog 8 #[v0, v1, .int .i64 a2] w fun e w' => e = .returned (.bool true) ∧ Below w.heap.size w w' :=
  FPure.below (sum_law z0 (wfp hz0) (by have := sl_bd h0; omega) z1 (wfp hz1) (by have := sl_bd h1; omega) a2 (wf64 ha2)) (vs := [v0, v1, .int .i64 a2]) ⟨Kit.sl_ar2 h0 l0, Kit.sl_ar2 h1 l1, rfl, trivial⟩
theorem one {w : World} (a0 : Int) (ha0 : (Lit.int .u8 a0).wf = true) (a1 : Int) (ha1 : (Lit.int .i64 a1).wf = true) :
    Calls Try.prog 9 #[.int .u8 a0, .int .i64 a1] w fun e w' => e = .returned (.bool true) ∧ Below w.heap.size w w' :=
  FPure.below (one_law (UInt8.ofNat a0.toNat) a1 (wf64 ha1)) (vs := [.int .u8 a0, .int .i64 a1]) ⟨byteIs ha0, rfl, trivial⟩
end Rx
end Go.Proofs.Ytmilegikgbmjpaa
