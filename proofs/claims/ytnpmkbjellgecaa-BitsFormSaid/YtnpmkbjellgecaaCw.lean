/-
  STAGE 1: two laws' walks, as their frames ask for them.
-/
import Derived.Test.YtnpmkbjellgecaaAw
import Derived.Test.YtnpmkbjellgecaaOb
import Derived.Test.YtnpmkbjellgecaaCc
namespace Go.Proofs.Ytnpmkbjellgecaa
open Go.RowKit Go.ChangeAt
namespace Cw
open Ab Aw Cb Cc
theorem wfu {l : List Int} (h : ∀ z ∈ l, (Lit.int .u64 z).wf = true) : InU l := fun z hz => by
  have h := h z hz
  simp only [Lit.wf, IntKind.min, IntKind.max, IntKind.bits, IntKind.signed, Bool.and_eq_true] at h
  simp at h
  omega
theorem sl_aru {w : World} {n : Nat} {v : Value} {z : List Int} (h : Kit.Sl w 1 v n (z.map (Value.int .u64))) (hl : z.length = n) : SlP (Kw.plain w) 1 z.length (z.map (Value.int .u64)) v := by
  subst hl; exact SlP.of_kit h
theorem many {w : World} (v : Value) (n : Nat) (z : List Int) (h : Kit.Sl w 1 v n (z.map (Value.int .u64))) (l : z.length = n) (hz : ∀ x ∈ z, (Lit.int .u64 x).wf = true) (v1 : Value) (n1 : Nat) (z1 : List Int) (h1 : Kit.Sl w 1 v1 n1 (z1.map (Value.int .i64))) (l1 : z1.length = n1) (hz1 : ∀ x ∈ z1, (Lit.int .i64 x).wf = true) :
    Calls Try.prog 6 #[v, v1] w fun e w' => e = .returned (.bool true) ∧ Below w.heap.size w w' :=
  FPure.below (many_law z (wfu hz) (by have := sl_bd h; omega) z1 (wfs hz1) (by have := sl_bd h1; omega)) (vs := [v, v1]) ⟨sl_aru h l, sl_ar h1 l1, trivial⟩
theorem form {w : World} (s : ByteArray) (m : Int) (hs : s.size ≤ maxLen) (hm : (Lit.int .i64 m).wf = true) (v1 : Value) (n1 : Nat) (z1 : List Int) (h1 : Kit.Sl w 1 v1 n1 (z1.map (Value.int .i64))) (l1 : z1.length = n1) (hz1 : ∀ x ∈ z1, (Lit.int .i64 x).wf = true) (a : Int) (ha : (Lit.int .i64 a).wf = true) :
    Calls Try.prog 7 #[.agg #[.string s, .int .i64 m], v1, .int .i64 a] w fun e w' => e = .returned (.bool true) ∧ Below w.heap.size w w' :=
  FPure.below (form_law s (by simp only [maxLen] at hs; omega) m (wf64 hm) z1 (wfs hz1) (by have := sl_bd h1; omega) a (wf64 ha)) (vs := [.agg #[.string s, .int .i64 m], v1, .int .i64 a]) ⟨⟨[_, _], rfl, rfl, rfl, trivial⟩, sl_ar h1 l1, rfl, trivial⟩
end Cw
end Go.Proofs.Ytnpmkbjellgecaa
