/-
  STAGE 6: the laws' walks, as their frames ask for them.
-/
import Derived.Test.YtimpmdcebapfiaaAw
import Derived.Test.YtimpmdcebapfiaaZh
namespace Go.Proofs.Ytimpmdcebapfiaa
open Go.RowKit Go.ChangeAt
namespace Zw
open Ab Aw Zh
theorem short {w : World} (a : Int) (ha : (Lit.int .i64 a).wf = true) (b : Int) (hb : (Lit.int .i64 b).wf = true) :
    Calls Try.prog 7 #[.int .i64 a, .int .i64 b] w fun e w' => e = .returned (.bool true) ∧ Below w.heap.size w w' :=
  FPure.below (short_s a b (wf64 ha) (wf64 hb)) (vs := [.int .i64 a, .int .i64 b]) ⟨rfl, rfl, trivial⟩
theorem most {w : World} (v : Value) (n : Nat) (z : List Int) (s : Kit.Sl w 1 v n (z.map (Value.int .i64))) (l : z.length = n) (hz : ∀ x ∈ z, (Lit.int .i64 x).wf = true) (a : Int) (ha : (Lit.int .i64 a).wf = true) (b : Int) (hb : (Lit.int .i64 b).wf = true) :
    Calls Try.prog 8 #[v, .int .i64 a, .int .i64 b] w fun e w' => e = .returned (.bool true) ∧ Below w.heap.size w w' :=
  FPure.below (most_s z (wfs hz) (by have := sl_bd s; omega) a b (wf64 ha) (wf64 hb)) (vs := [v, .int .i64 a, .int .i64 b]) ⟨sl_ar s l, rfl, rfl, trivial⟩
end Zw
end Go.Proofs.Ytimpmdcebapfiaa
