/-
  MATHEMATICS of stage 6: digits.
-/
import Derived.Test.YtimpmdcebapfiaaAb9
namespace Go.Proofs.Ytimpmdcebapfiaa
open Go.RowKit
namespace Zm
open Ab
def digs (n : Nat) : List Int := if h : n = 0 then [] else (((n - 1) % 2 : Nat) : Int) :: digs ((n - 1) / 2)
  termination_by n
  decreasing_by omega
theorem digs_zero : digs 0 = [] := by rw [digs]; simp
theorem digs_succ (n : Nat) (h : 0 < n) : digs n = (((n - 1) % 2 : Nat) : Int) :: digs ((n - 1) / 2) := by rw [digs]; simp [Nat.ne_of_gt h]
theorem digs_pos (n : Nat) (h : 0 < n) : 1 ≤ (digs n).length := by rw [digs_succ n h]; simp
theorem digs_step (v : Int) (h : 0 < v) : digs v.toNat = (v - 1) % 2 :: digs ((v - 1) / 2).toNat := by
  rw [digs_succ v.toNat (by omega)]
  congr 1
  · omega
  · congr 1; omega
theorem digs_end (v : Int) (h : ¬ 0 < v) : digs v.toNat = [] := by rw [show v.toNat = 0 by omega, digs_zero]
theorem digs_le : ∀ (k n : Nat), n < 2 ^ k → (digs n).length ≤ k
  | 0, n, h => by
    have : n = 0 := by omega
    subst this; simp [digs_zero]
  | k + 1, n, h => by
    by_cases hn : n = 0
    · subst hn; simp [digs_zero]
    · rw [digs_succ n (by omega)]
      have h2 : n < 2 * 2 ^ k := by rw [Nat.pow_succ] at h; omega
      have := digs_le k ((n - 1) / 2) (by omega)
      simp; omega
theorem digs_len (n : Int) (h : n ≤ 4611686018427387904) : (digs n.toNat).length ≤ 63 := digs_le 63 n.toNat (by omega)
theorem take_eq_snoc (l m : List Int) (k : Nat) (h1 : k < l.length) (h2 : k < m.length) (h : l.take k = m.take k) (he : l.getD k 0 = m.getD k 0) : l.take (k + 1) = m.take (k + 1) := by
  rw [take_snoc l k 0 h1, take_snoc m k 0 h2, h, he]
theorem eq_of_takes (l m : List Int) (k : Nat) (h1 : l.length = m.length) (h : l.take k = m.take k) (hk : l.length ≤ k) : l = m := by
  rwa [take_all l k hk, take_all m k (by omega)] at h
theorem ne_of_at (l m : List Int) (k : Nat) (h : l.getD k 0 ≠ m.getD k 0) : l ≠ m := fun e => h (by rw [e])
def outP (most : Int) (x : Int) : Bool := decide (x < 0) || decide (most < x)
def outV (l : List Int) (most : Int) : Bool := l.any (outP most)
theorem outP_t {most x : Int} (h : x < 0 ∨ most < x) : outP most x = true := by simp only [outP, Bool.or_eq_true, decide_eq_true_eq]; exact h
theorem outP_f {most x : Int} (h : ¬ (x < 0 ∨ most < x)) : outP most x = false := by simp only [outP, Bool.or_eq_false_iff, decide_eq_false_iff_not]; omega
end Zm
end Go.Proofs.Ytimpmdcebapfiaa
