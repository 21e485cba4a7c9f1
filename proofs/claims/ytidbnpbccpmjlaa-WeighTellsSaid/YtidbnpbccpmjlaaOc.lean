/-
  WALKS of stage 8: what is wrong with lengths; the symbol that has so many ahead.
-/
import Derived.Test.YtidbnpbccpmjlaaRows
import Derived.Test.YtidbnpbccpmjlaaOb
namespace Go.Proofs.Ytidbnpbccpmjlaa
open Go.RowKit
namespace Oc
open Ab Ob

def krS (t : List Int) : Nat → Int
  | 0 => 0
  | n + 1 => krS t n + t.getD n 0 * 2 ^ (20 - n)
def sndV (l : List Int) : List Int × Int := if (cntV l).2 = false then (List.replicate 21 0, 1) else if 1048576 < krS (cntV l).1 21 then (List.replicate 21 0, 6) else ((cntV l).1, 0)
theorem tA_bd (l : List Int) (i v : Nat) (hl : l.length ≤ 258) : 0 ≤ (tA l i).getD v 0 ∧ (tA l i).getD v 0 ≤ 258 := by
  by_cases hv : v < 21
  · rw [tA_get l i v hv]
    have hc := List.countP_le_length (p := fun x => decide (x = (v : Int))) (l := l.take i)
    rw [List.length_take] at hc
    omega
  · rw [List.getD_eq_getElem?_getD, List.getElem?_eq_none (by rw [tA_len]; omega)]; exact ⟨by decide, by decide⟩
theorem cntV_bd {l : List Int} (h : (cntV l).2 = true) : (cntV l).1 = tA l l.length ∧ l.length ≤ 258 ∧ 2 ≤ l.length ∧ ∀ x ∈ l, good x := by
  unfold cntV at h ⊢
  split at h
  · cases h
  · rename_i h1
    split at h
    · rename_i h2
      rw [if_neg h1, if_pos h2]; exact ⟨rfl, by omega, by omega, h2⟩
    · cases h
theorem cntV_len (l : List Int) : (cntV l).1.length = 21 := by
  unfold cntV
  split
  · simp
  · split
    · exact tA_len _ _
    · exact tA_len _ _
theorem pow_le (n : Nat) : (1 : Int) ≤ 2 ^ (20 - n) ∧ (2 : Int) ^ (20 - n) ≤ 1048576 := by
  have h1 : (2 : Nat) ^ (20 - n) ≤ 2 ^ 20 := Nat.pow_le_pow_right (by omega) (by omega)
  have h2 : 0 < (2 : Nat) ^ (20 - n) := Nat.two_pow_pos _
  have h3 : ((2 ^ (20 - n) : Nat) : Int) = 2 ^ (20 - n) := by simp
  rw [← h3]
  exact ⟨by omega, by omega⟩
theorem term_bd {a : Int} (h : 0 ≤ a ∧ a ≤ 258) (n : Nat) : 0 ≤ a * 2 ^ (20 - n) ∧ a * 2 ^ (20 - n) ≤ 270532608 := by
  have hp := pow_le n
  constructor
  · exact Int.mul_nonneg h.1 (by omega)
  · calc a * 2 ^ (20 - n) ≤ 258 * 1048576 := Int.mul_le_mul h.2 hp.2 (by omega) (by omega)
      _ = 270532608 := by decide
theorem krS_bd {t : List Int} (h : ∀ v, 0 ≤ t.getD v 0 ∧ t.getD v 0 ≤ 258) : ∀ n, 0 ≤ krS t n ∧ krS t n ≤ 270532608 * n
  | 0 => by simp [krS]
  | n + 1 => by
    have := krS_bd h n
    have := term_bd (h n) n
    rw [krS]; omega
theorem kr_s {t : List Int} {n : Nat} (h : ∀ v, 0 ≤ t.getD v 0 ∧ t.getD v 0 ≤ 258) (hn : n < 21) : IntKind.u64.wrap (krS t n + t.getD n 0 * 2 ^ (20 - (n : Int)).toNat) = krS t (n + 1) := by
  have h1 := krS_bd h n
  have h2 := term_bd (h n) n
  rw [show (20 - (n : Int)).toNat = 20 - n by omega, IntKind.wrap_u64, Int.emod_eq_of_lt (by omega) (by omega), krS]
end Oc
end Go.Proofs.Ytidbnpbccpmjlaa
