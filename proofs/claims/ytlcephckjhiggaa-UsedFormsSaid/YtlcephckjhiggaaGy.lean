/-
  The laws' walks of pressmarklaw07, as their frames ask for them.
-/
import Derived.Test.YtlcephckjhiggaaAw
import Derived.Test.YtlcephckjhiggaaHa
import Derived.Test.YtlcephckjhiggaaHb
import Derived.Test.YtlcephckjhiggaaHc
import Derived.Test.YtlcephckjhiggaaHd
namespace Go.Proofs.Ytlcephckjhiggaa
open Go.RowKit Go.ChangeAt
namespace Gy
open Ab Aw Ha Hb Hc Hd
theorem byteIs {a : Int} (h : (Lit.int .u8 a).wf = true) : Value.int .u8 a = .int .u8 (((UInt8.ofNat a.toNat).toNat : Nat) : Int) := by
  have h1 : 0 ≤ a ∧ a < 256 := by
    simp only [Lit.wf, IntKind.min, IntKind.max, IntKind.bits, IntKind.signed, Bool.and_eq_true] at h
    simp at h
    omega
  rw [UInt8.toNat_ofNat', Nat.mod_eq_of_lt (show a.toNat < 2 ^ 8 by omega), Int.toNat_of_nonneg h1.1]
theorem back {w : World} (s0 : ByteArray) (hs0 : s0.size ≤ 9223372036854775807) (v1 : Value) (n1 : Nat) (z1 : List Int) (h1 : Kit.Sl w 1 v1 n1 (z1.map (Value.int .i64))) (l1 : z1.length = n1) (hz1 : ∀ x ∈ z1, (Lit.int .i64 x).wf = true) (v2 : Value) (n2 : Nat) (z2 : List Int) (h2 : Kit.Sl w 1 v2 n2 (z2.map (Value.int .i64))) (l2 : z2.length = n2) (hz2 : ∀ x ∈ z2, (Lit.int .i64 x).wf = true) (a3 : Int) (ha3 : (Lit.int .i64 a3).wf = true) :
    Calls Try.prog 4 #[.string s0, v1, v2, .int .i64 a3] w fun e w' => e = .returned (.bool true) ∧ Below w.heap.size w w' :=
  FPure.below (Ha.back_law s0 hs0 z1 (wfs hz1) (by have := sl_bd h1; omega) z2 (wfs hz2) (by have := sl_bd h2; omega) a3 (wf64 ha3)) (vs := [.string s0, v1, v2, .int .i64 a3]) ⟨rfl, sl_ar h1 l1, sl_ar h2 l2, rfl, trivial⟩
theorem alphabet {w : World} (s0 : ByteArray) (hs0 : s0.size ≤ 9223372036854775807) (s1 : ByteArray) (hs1 : s1.size ≤ 9223372036854775807) :
    Calls Try.prog 5 #[.string s0, .string s1] w fun e w' => e = .returned (.bool true) ∧ Below w.heap.size w w' :=
  FPure.below (Hb.alph_law s0 hs0 s1 hs1) (vs := [.string s0, .string s1]) ⟨rfl, rfl, trivial⟩
theorem long {w : World} (s0 : ByteArray) (hs0 : s0.size ≤ 9223372036854775807) (a1 : Int) (ha1 : (Lit.int .u8 a1).wf = true) :
    Calls Try.prog 6 #[.string s0, .int .u8 a1] w fun e w' => e = .returned (.bool true) ∧ Below w.heap.size w w' :=
  FPure.below (Hc.long_law s0 hs0 (UInt8.ofNat a1.toNat)) (vs := [.string s0, .int .u8 a1]) ⟨rfl, byteIs ha1, trivial⟩
theorem forms {w : World} (s0 : ByteArray) (hs0 : s0.size ≤ 9223372036854775807) (s1 : ByteArray) (hs1 : s1.size ≤ 9223372036854775807) (a2 : Int) (ha2 : (Lit.int .i64 a2).wf = true) (a3 : Int) (ha3 : (Lit.int .i64 a3).wf = true) :
    Calls Try.prog 7 #[.string s0, .string s1, .int .i64 a2, .int .i64 a3] w fun e w' => e = .returned (.bool true) ∧ Below w.heap.size w w' :=
  FPure.below (Hd.forms_law s0 hs0 s1 hs1 a2 (wf64 ha2) a3 (wf64 ha3)) (vs := [.string s0, .string s1, .int .i64 a2, .int .i64 a3]) ⟨rfl, rfl, rfl, rfl, trivial⟩
end Gy
end Go.Proofs.Ytlcephckjhiggaa
