/-
  WALKS of stage 8: symbols of one length.
-/
import Derived.Test.YtidbnpbccpmjlaaRows
import Derived.Test.YtidbnpbccpmjlaaMgb
namespace Go.Proofs.Ytidbnpbccpmjlaa
open Go.RowKit
namespace Oa
open Ab

def olA (l : List Int) (n : Int) (i : Nat) : List Nat := (List.range i).filter fun j => decide (l.getD j 0 = n)
def olL (l : List Int) (n : Int) : List Nat := olA l n l.length
theorem olA_y {l : List Int} {n : Int} {i : Nat} (h : l.getD i 0 = n) : olA l n (i + 1) = olA l n i ++ [i] := by
  rw [olA, List.range_succ, List.filter_append, olA]
  simp only [List.filter_cons, List.filter_nil]
  rw [if_pos (by simpa using h)]
theorem olA_n {l : List Int} {n : Int} {i : Nat} (h : ¬ l.getD i 0 = n) : olA l n (i + 1) = olA l n i := by
  rw [olA, List.range_succ, List.filter_append, olA]
  simp only [List.filter_cons, List.filter_nil]
  rw [if_neg (by simpa using h), List.append_nil]
theorem olA_pre (l : List Int) (n : Int) (i : Nat) : ∀ k, ∃ r, olA l n (i + k) = olA l n i ++ r
  | 0 => ⟨[], by simp⟩
  | k + 1 => by
    obtain ⟨r, hr⟩ := olA_pre l n i k
    rw [← Nat.add_assoc]
    by_cases h : l.getD (i + k) 0 = n
    · exact ⟨r ++ [i + k], by rw [olA_y h, hr, List.append_assoc]⟩
    · exact ⟨r, by rw [olA_n h, hr]⟩
theorem olL_at {l : List Int} {n : Int} {i : Nat} (hi : i < l.length) (h : l.getD i 0 = n) : (olA l n i).length < (olL l n).length ∧ i = (olL l n).getD (olA l n i).length 0 := by
  obtain ⟨r, hr⟩ := olA_pre l n (i + 1) (l.length - (i + 1))
  rw [show i + 1 + (l.length - (i + 1)) = l.length by omega, olA_y h, List.append_assoc] at hr
  constructor
  · rw [olL, hr]; simp
  · rw [olL, hr, List.getD_eq_getElem?_getD, List.getElem?_append_right (Nat.le_refl _), Nat.sub_self]; rfl
theorem olA_le (l : List Int) (n : Int) (i : Nat) : (olA l n i).length ≤ i := by
  have := List.length_filter_le (fun j => decide (l.getD j 0 = n)) (List.range i)
  rw [List.length_range] at this
  exact this
end Oa
end Go.Proofs.Ytidbnpbccpmjlaa
