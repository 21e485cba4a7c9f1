/-
  MATHEMATICS of stage 6: small things.
-/
import Derived.Test.YtimpmdcebapfiaaZn
namespace Go.Proofs.Ytimpmdcebapfiaa
open Go.RowKit
namespace Zo
open Ab Zm Zn
theorem out_at {l : List Int} {most : Int} (h : outV l most = false) {k : Nat} (hk : k < l.length) : 0 ≤ l.getD k 0 ∧ l.getD k 0 ≤ most := by
  have h1 : outP most (l.getD k 0) = false := by
    cases hb : outP most (l.getD k 0) with
    | false => rfl
    | true => rw [outV, any_stop _ l k 0 hk hb] at h; cases h
  simp only [outP, Bool.or_eq_false_iff, decide_eq_false_iff_not] at h1
  omega
end Zo
end Go.Proofs.Ytimpmdcebapfiaa
