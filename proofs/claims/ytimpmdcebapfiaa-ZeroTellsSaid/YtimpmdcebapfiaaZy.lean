/-
  STAGE 6: the last law's walk, as its frame asks for it.
-/
import Derived.Test.YtimpmdcebapfiaaAw
import Derived.Test.YtimpmdcebapfiaaZj
namespace Go.Proofs.Ytimpmdcebapfiaa
open Go.RowKit Go.ChangeAt
namespace Zy
open Ab Aw Zj
theorem tells {w : World} (a : Int) (ha : (Lit.int .i64 a).wf = true) (v : Value) (n : Nat) (z : List Int) (s : Kit.Sl w 1 v n (z.map (Value.int .i64))) (l : z.length = n) (hz : ∀ x ∈ z, (Lit.int .i64 x).wf = true) (v' : Value) (n' : Nat) (z' : List Int) (s' : Kit.Sl w 1 v' n' (z'.map (Value.int .i64))) (l' : z'.length = n') (hz' : ∀ x ∈ z', (Lit.int .i64 x).wf = true) (b : Int) (hb : (Lit.int .i64 b).wf = true) :
    Calls Try.prog 3 #[.int .i64 a, v, v', .int .i64 b] w fun e w' => e = .returned (.bool true) ∧ Below w.heap.size w w' :=
  FPure.below (tells_law a (wf64 ha) z (wfs hz) (by have := sl_bd s; omega) z' (wfs hz') (by have := sl_bd s'; omega) b (wf64 hb)) (vs := [.int .i64 a, v, v', .int .i64 b]) ⟨rfl, sl_ar s l, sl_ar s' l', rfl, trivial⟩
end Zy
end Go.Proofs.Ytimpmdcebapfiaa
