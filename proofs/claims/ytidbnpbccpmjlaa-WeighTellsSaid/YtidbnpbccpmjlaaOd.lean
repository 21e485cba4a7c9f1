/-
  WALKS of stage 8: Check; the symbol that has so many ahead.
-/
import Derived.Test.YtidbnpbccpmjlaaRows
import Derived.Test.YtidbnpbccpmjlaaOa
import Derived.Test.YtidbnpbccpmjlaaOb
import Derived.Test.YtidbnpbccpmjlaaOc
namespace Go.Proofs.Ytidbnpbccpmjlaa
open Go.RowKit
namespace Od
open Ab Oa Ob Oc

theorem sndV_len (l : List Int) : (sndV l).1.length = 21 := by
  unfold sndV
  split
  · rfl
  · split
    · rfl
    · exact cntV_len l

def nthV (l : List Int) (n : Int) (a : Nat) : Nat := if a < (olL l n).length then (olL l n).getD a 0 else 0
def resS (l : List Int) (n : Int) (a k : Nat) : Int := if a < k then (((olL l n).getD a 0 : Nat) : Int) else 0
theorem res_0 {l : List Int} {n : Int} {a k : Nat} (h : k ≤ a) : resS l n a k = 0 := by rw [resS, if_neg (by omega)]
theorem res_1 {l : List Int} {n : Int} {a k : Nat} (h : k = a) : resS l n a (k + 1) = (((olL l n).getD k 0 : Nat) : Int) := by subst h; rw [resS, if_pos (by omega)]
def goN (a k : Nat) : Bool := !decide (k = a)
theorem goN_all {a n : Nat} (h : ∀ j, j < n → goN a j = true) : n ≤ a := Classical.byContradiction fun hn => by
  have := h a (by omega)
  simp [goN] at this
theorem goN_f {a k : Nat} (h : goN a k = false) : k = a := by simpa [goN] using h
end Od
end Go.Proofs.Ytidbnpbccpmjlaa
