/-
  STAGE 6: more of the laws' walks, as their frames ask for them.
-/
import Derived.Test.YtimpmdcebapfiaaAw
import Derived.Test.YtimpmdcebapfiaaZi
namespace Go.Proofs.Ytimpmdcebapfiaa
open Go.RowKit Go.ChangeAt
namespace Zx
open Ab Aw Zi
theorem digits {w : World} (a : Int) (ha : (Lit.int .i64 a).wf = true) (v : Value) (n : Nat) (z : List Int) (s : Kit.Sl w 1 v n (z.map (Value.int .i64))) (l : z.length = n) (hz : ∀ x ∈ z, (Lit.int .i64 x).wf = true) :
    Calls Try.prog 5 #[.int .i64 a, v] w fun e w' => e = .returned (.bool true) ∧ Below w.heap.size w w' :=
  FPure.below (digits_law a (wf64 ha) z (wfs hz) (by have := sl_bd s; omega)) (vs := [.int .i64 a, v]) ⟨rfl, sl_ar s l, trivial⟩
theorem parts {w : World} (v : Value) (n : Nat) (z : List Int) (s : Kit.Sl w 1 v n (z.map (Value.int .i64))) (l : z.length = n) (hz : ∀ x ∈ z, (Lit.int .i64 x).wf = true) (v' : Value) (n' : Nat) (z' : List Int) (s' : Kit.Sl w 1 v' n' (z'.map (Value.int .i64))) (l' : z'.length = n') (hz' : ∀ x ∈ z', (Lit.int .i64 x).wf = true) :
    Calls Try.prog 6 #[v, v'] w fun e w' => e = .returned (.bool true) ∧ Below w.heap.size w w' :=
  FPure.below (parts_law z (wfs hz) (by have := sl_bd s; omega) z' (wfs hz') (by have := sl_bd s'; omega)) (vs := [v, v']) ⟨sl_ar s l, sl_ar s' l', trivial⟩
theorem back {w : World} (v : Value) (n : Nat) (z : List Int) (s : Kit.Sl w 1 v n (z.map (Value.int .i64))) (l : z.length = n) (hz : ∀ x ∈ z, (Lit.int .i64 x).wf = true) (a : Int) (ha : (Lit.int .i64 a).wf = true) :
    Calls Try.prog 4 #[v, .int .i64 a] w fun e w' => e = .returned (.bool true) ∧ Below w.heap.size w w' :=
  FPure.below (back_law z (wfs hz) (by have := sl_bd s; omega) a (wf64 ha)) (vs := [v, .int .i64 a]) ⟨sl_ar s l, rfl, trivial⟩
end Zx
end Go.Proofs.Ytimpmdcebapfiaa
