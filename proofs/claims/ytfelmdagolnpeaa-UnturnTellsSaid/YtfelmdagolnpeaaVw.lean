/-
  STAGE 14: the laws' walks, as their frames ask for them.
-/
import Derived.Test.YtfelmdagolnpeaaAw
import Derived.Test.YtfelmdagolnpeaaVi
namespace Go.Proofs.Ytfelmdagolnpeaa
open Go.RowKit Go.ChangeAt
namespace Vw
open Ab Aw Vh Vi
theorem vector {w : World} (s : ByteArray) (hs : s.size ≤ 9223372036854775807) (v : Value) (n : Nat) (z : List Int) (h : Kit.Sl w 1 v n (z.map (Value.int .i64))) (l : z.length = n) (hz : ∀ x ∈ z, (Lit.int .i64 x).wf = true) :
    Calls Try.prog 6 #[.string s, v] w fun e w' => e = .returned (.bool true) ∧ Below w.heap.size w w' :=
  FPure.below (vector_law s hs z (wfs hz) (by have := sl_bd h; omega)) (vs := [.string s, v]) ⟨rfl, sl_ar h l, trivial⟩
theorem next {w : World} (s : ByteArray) (hs : s.size ≤ 9223372036854775807) (v : Value) (n : Nat) (z : List Int) (h : Kit.Sl w 1 v n (z.map (Value.int .i64))) (l : z.length = n) (hz : ∀ x ∈ z, (Lit.int .i64 x).wf = true) (a : Int) (ha : (Lit.int .i64 a).wf = true) :
    Calls Try.prog 7 #[.string s, v, .int .i64 a] w fun e w' => e = .returned (.bool true) ∧ Below w.heap.size w w' :=
  FPure.below (next_law s hs z (wfs hz) (by have := sl_bd h; omega) a (wf64 ha)) (vs := [.string s, v, .int .i64 a]) ⟨rfl, sl_ar h l, rfl, trivial⟩
theorem tells {w : World} (s : ByteArray) (hs : s.size ≤ 9223372036854775807) (v : Value) (n : Nat) (z : List Int) (h : Kit.Sl w 1 v n (z.map (Value.int .i64))) (l : z.length = n) (hz : ∀ x ∈ z, (Lit.int .i64 x).wf = true) (a : Int) (ha : (Lit.int .i64 a).wf = true) :
    Calls Try.prog 3 #[.string s, v, .int .i64 a] w fun e w' => e = .returned (.bool true) ∧ Below w.heap.size w w' :=
  FPure.below (tells_law s hs z (wfs hz) (by have := sl_bd h; omega) a (wf64 ha)) (vs := [.string s, v, .int .i64 a]) ⟨rfl, sl_ar h l, rfl, trivial⟩
end Vw
end Go.Proofs.Ytfelmdagolnpeaa
