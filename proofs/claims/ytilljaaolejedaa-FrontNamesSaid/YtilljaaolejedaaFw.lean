/-
  STAGE 5: the laws' walks, as their frames ask for them.
-/
import Derived.Test.YtilljaaolejedaaAw
import Derived.Test.YtilljaaolejedaaFf
import Derived.Test.YtilljaaolejedaaFg
import Derived.Test.YtilljaaolejedaaFh
import Derived.Test.YtilljaaolejedaaFi
import Derived.Test.YtilljaaolejedaaFj
namespace Go.Proofs.Ytilljaaolejedaa
open Go.RowKit Go.ChangeAt
namespace Fw
open Ab Aw Ff Fg Fh Fi Fj
theorem tells {w : World} (s : ByteArray) (hs : s.size ≤ 9223372036854775807) (s1 : ByteArray) (hs1 : s1.size ≤ 9223372036854775807) (v : Value) (n : Nat) (z : List Int) (h : Kit.Sl w 1 v n (z.map (Value.int .i64))) (l : z.length = n) (hz : ∀ x ∈ z, (Lit.int .i64 x).wf = true) (v1 : Value) (n1 : Nat) (z1 : List Int) (h1 : Kit.Sl w 1 v1 n1 (z1.map (Value.int .i64))) (l1 : z1.length = n1) (hz1 : ∀ x ∈ z1, (Lit.int .i64 x).wf = true) :
    Calls Try.prog 3 #[.string s, .string s1, v, v1] w fun e w' => e = .returned (.bool true) ∧ Below w.heap.size w w' :=
  FPure.below (tells_law s hs s1 hs1 z (wfs hz) (by have := sl_bd h; omega) z1 (wfs hz1) (by have := sl_bd h1; omega)) (vs := [.string s, .string s1, v, v1]) ⟨rfl, rfl, sl_ar h l, sl_ar h1 l1, trivial⟩
theorem back {w : World} (s : ByteArray) (hs : s.size ≤ 9223372036854775807) (v : Value) (n : Nat) (z : List Int) (h : Kit.Sl w 1 v n (z.map (Value.int .i64))) (l : z.length = n) (hz : ∀ x ∈ z, (Lit.int .i64 x).wf = true) :
    Calls Try.prog 4 #[.string s, v] w fun e w' => e = .returned (.bool true) ∧ Below w.heap.size w w' :=
  FPure.below (back_law s hs z (wfs hz) (by have := sl_bd h; omega)) (vs := [.string s, v]) ⟨rfl, sl_ar h l, trivial⟩
theorem parts {w : World} (s : ByteArray) (hs : s.size ≤ 9223372036854775807) (v : Value) (n : Nat) (z : List Int) (h : Kit.Sl w 1 v n (z.map (Value.int .i64))) (l : z.length = n) (hz : ∀ x ∈ z, (Lit.int .i64 x).wf = true) (a : Int) (ha : (Lit.int .i64 a).wf = true) :
    Calls Try.prog 5 #[.string s, v, .int .i64 a] w fun e w' => e = .returned (.bool true) ∧ Below w.heap.size w w' :=
  FPure.below (parts_law s hs z (wfs hz) (by have := sl_bd h; omega) a (wf64 ha)) (vs := [.string s, v, .int .i64 a]) ⟨rfl, sl_ar h l, rfl, trivial⟩
theorem again {w : World} (s : ByteArray) (hs : s.size ≤ 9223372036854775807) (v : Value) (n : Nat) (z : List Int) (h : Kit.Sl w 1 v n (z.map (Value.int .i64))) (l : z.length = n) (hz : ∀ x ∈ z, (Lit.int .i64 x).wf = true) :
    Calls Try.prog 6 #[.string s, v] w fun e w' => e = .returned (.bool true) ∧ Below w.heap.size w w' :=
  FPure.below (again_law s hs z (wfs hz) (by have := sl_bd h; omega)) (vs := [.string s, v]) ⟨rfl, sl_ar h l, trivial⟩
theorem self {w : World} (s : ByteArray) (hs : s.size ≤ 9223372036854775807) :
    Calls Try.prog 7 #[.string s] w fun e w' => e = .returned (.bool true) ∧ Below w.heap.size w w' :=
  FPure.below (self_law s hs) (vs := [.string s]) ⟨rfl, trivial⟩
theorem byte_of {a : Int} (h : (Lit.int .u8 a).wf = true) : ∃ y : UInt8, a = (y.toNat : Int) := by
  simp only [Lit.wf, IntKind.min, IntKind.max, IntKind.bits, IntKind.signed, Bool.and_eq_true] at h
  simp at h
  refine ⟨UInt8.ofNat a.toNat, ?_⟩
  rw [UInt8.toNat_ofNat']; omega
theorem names {w : World} (s : ByteArray) (hs : s.size ≤ 9223372036854775807) (v : Value) (n : Nat) (z : List Int) (h : Kit.Sl w 1 v n (z.map (Value.int .i64))) (l : z.length = n) (hz : ∀ x ∈ z, (Lit.int .i64 x).wf = true) (a : Int) (ha : (Lit.int .u8 a).wf = true) :
    Calls Try.prog 8 #[.string s, v, .int .u8 a] w fun e w' => e = .returned (.bool true) ∧ Below w.heap.size w w' := by
  obtain ⟨y, rfl⟩ := byte_of ha
  exact FPure.below (names_law s hs z (wfs hz) (by have := sl_bd h; omega) y) (vs := [.string s, v, .int .u8 (y.toNat : Int)]) ⟨rfl, sl_ar h l, rfl, trivial⟩
end Fw
end Go.Proofs.Ytilljaaolejedaa
