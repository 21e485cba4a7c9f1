/-
  MATHEMATICS of stage 14: places by counting.
-/
import Derived.Test.YtfelmdagolnpeaaAbo
namespace Go.Proofs.Ytfelmdagolnpeaa
open Go.RowKit
namespace Vm
open Ab
def byteA (s : ByteArray) (k : Nat) : Nat := (bat s (k : Int)).toNat
theorem byteA_lt (s : ByteArray) (k : Nat) : byteA s k < 256 := (bat s (k : Int)).toNat_lt
/-- how often each byte came -/
def cntL (s : ByteArray) : Nat → List Int
  | 0 => List.replicate 256 0
  | k + 1 => (cntL s k).set (byteA s k) ((cntL s k).getD (byteA s k) 0 + 1)
  termination_by k => k
theorem cntL_len (s : ByteArray) (k : Nat) : (cntL s k).length = 256 := by
  induction k with
  | zero => rw [cntL, List.length_replicate]
  | succ k ih => rw [cntL, List.length_set, ih]
theorem getD_set (l : List Int) (i j : Nat) (v : Int) : (l.set i v).getD j 0 = if i = j ∧ i < l.length then v else l.getD j 0 := by
  rw [List.getD_eq_getElem?_getD, List.getElem?_set, List.getD_eq_getElem?_getD]
  by_cases h : i = j
  · subst h
    by_cases h2 : i < l.length
    · simp [h2]
    · simp [h2]
  · simp [h]
theorem cntL_bd (s : ByteArray) (k : Nat) : ∀ j, 0 ≤ (cntL s k).getD j 0 ∧ (cntL s k).getD j 0 ≤ k := by
  induction k with
  | zero =>
    intro j
    rw [cntL]; simp only [List.getD_eq_getElem?_getD, List.getElem?_replicate]
    split <;> simp
  | succ k ih =>
    intro j
    rw [cntL, getD_set]
    have h1 := ih j; have h2 := ih (byteA s k)
    split <;> omega
/-- where each byte's first place is, as far as b -/
def nxtL (c : List Int) : Nat → List Int
  | 0 => List.replicate 256 0
  | 1 => List.replicate 256 0
  | b + 2 => (nxtL c (b + 1)).set (b + 1) ((nxtL c (b + 1)).getD b 0 + c.getD b 0)
  termination_by b => b
theorem nxtL_len (c : List Int) : ∀ b, (nxtL c b).length = 256
  | 0 => by rw [nxtL, List.length_replicate]
  | 1 => by rw [nxtL, List.length_replicate]
  | b + 2 => by rw [nxtL, List.length_set, nxtL_len c (b + 1)]
theorem nxtL_bd (c : List Int) (m : Int) (hc : ∀ j, 0 ≤ c.getD j 0 ∧ c.getD j 0 ≤ m) (hm : 0 ≤ m) : ∀ b j, 0 ≤ (nxtL c b).getD j 0 ∧ (nxtL c b).getD j 0 ≤ m * b
  | 0, j => by
    rw [nxtL]; simp only [List.getD_eq_getElem?_getD, List.getElem?_replicate]
    split <;> simp
  | 1, j => by
    rw [nxtL]; simp only [List.getD_eq_getElem?_getD, List.getElem?_replicate]
    split <;> simp <;> omega
  | b + 2, j => by
    rw [nxtL, getD_set]
    have h1 := nxtL_bd c m hc hm (b + 1) j; have h2 := nxtL_bd c m hc hm (b + 1) b; have h3 := hc b
    have e : m * ((b + 2 : Nat) : Int) = m * ((b + 1 : Nat) : Int) + m := by
      rw [show ((b + 2 : Nat) : Int) = ((b + 1 : Nat) : Int) + 1 by omega, Int.mul_add, Int.mul_one]
    split <;> omega
theorem nxt_step (c : List Int) (b : Nat) (h : 1 ≤ b) : (nxtL c b).set (b : Int).toNat ((nxtL c b).getD ((b : Int) - 1).toNat 0 + c.getD ((b : Int) - 1).toNat 0) = nxtL c (b + 1) := by
  obtain ⟨d, rfl⟩ : ∃ d, b = d + 1 := ⟨b - 1, by omega⟩
  rw [nxtL, show (((d + 1 : Nat) : Int) - 1).toNat = d by omega, Int.toNat_natCast]
def fillP (s : ByteArray) : Nat → List Int × List Int
  | 0 => (List.replicate s.size 0, nxtL (cntL s s.size) 256)
  | k + 1 => ((fillP s k).1.set ((fillP s k).2.getD (byteA s k) 0).toNat k, (fillP s k).2.set (byteA s k) ((fillP s k).2.getD (byteA s k) 0 + 1))
  termination_by k => k
theorem nxt_one (c : List Int) : nxtL c 1 = List.replicate 256 0 := by rw [nxtL]
theorem cnt_zero (s : ByteArray) : cntL s 0 = List.replicate 256 0 := by rw [cntL]
theorem fill_0 (s : ByteArray) : fillP s 0 = (List.replicate s.size 0, nxtL (cntL s s.size) 256) := by rw [fillP]
theorem fill_2 (s : ByteArray) {b : Nat} (h : b = 256) : nxtL (cntL s s.size) b = (fillP s 0).2 := by rw [fill_0, h]
theorem fill_1 (s : ByteArray) : List.replicate (s.size : Int).toNat (0 : Int) = (fillP s 0).1 := by rw [fill_0]; rfl
theorem cnt_step (s : ByteArray) (k : Nat) : (cntL s k).set (bat s (k : Int)).toNat ((cntL s k).getD (bat s (k : Int)).toNat 0 + 1) = cntL s (k + 1) := by rw [cntL]; rfl
theorem fill_s1 (s : ByteArray) (k : Nat) : (fillP s k).1.set ((fillP s k).2.getD (bat s (k : Int)).toNat 0).toNat (k : Int) = (fillP s (k + 1)).1 := by rw [fillP]; rfl
theorem fill_s2 (s : ByteArray) (k : Nat) : (fillP s k).2.set (bat s (k : Int)).toNat ((fillP s k).2.getD (bat s (k : Int)).toNat 0 + 1) = (fillP s (k + 1)).2 := by rw [fillP]; rfl
/-- the sum of the first ones -/
def sumL (c : List Int) : Nat → Int
  | 0 => 0
  | b + 1 => sumL c b + c.getD b 0
theorem cntL_succ (s : ByteArray) (k j : Nat) : (cntL s (k + 1)).getD j 0 = if byteA s k = j then (cntL s k).getD j 0 + 1 else (cntL s k).getD j 0 := by
  rw [cntL, getD_set]
  have h1 := cntL_len s k; have h2 := byteA_lt s k
  by_cases e : byteA s k = j
  · rw [if_pos ⟨e, by omega⟩, if_pos e, e]
  · rw [if_neg (fun x => e x.1), if_neg e]
theorem cntL_mono (s : ByteArray) (j : Nat) : ∀ d k, (cntL s k).getD j 0 ≤ (cntL s (k + d)).getD j 0
  | 0, k => Int.le_refl _
  | d + 1, k => by
    have h1 := cntL_mono s j d k; have h2 := cntL_succ s (k + d) j
    rw [show k + (d + 1) = k + d + 1 by omega, h2]
    split <;> omega
theorem rep_zero (n j : Nat) : (List.replicate n (0 : Int)).getD j 0 = 0 := by
  simp only [List.getD_eq_getElem?_getD, List.getElem?_replicate]
  split <;> simp
theorem nxtL_sum (c : List Int) : ∀ b, b ≤ 256 → ∀ j, j < b → (nxtL c b).getD j 0 = sumL c j
  | 0, _, j, h => by omega
  | 1, _, j, h => by
    have : j = 0 := by omega
    subst this
    rw [nxtL, rep_zero]; rfl
  | b + 2, hb, j, h => by
    have ih := nxtL_sum c (b + 1) (by omega)
    have hl := nxtL_len c (b + 1)
    rw [nxtL, getD_set]
    by_cases e : b + 1 = j
    · rw [if_pos ⟨e, by omega⟩, ← e, sumL, ih b (by omega)]
    · rw [if_neg (fun x => e x.1), ih j (by omega)]
theorem fill_len2 (s : ByteArray) : ∀ k, (fillP s k).2.length = 256
  | 0 => by rw [fillP]; exact nxtL_len _ _
  | k + 1 => by rw [fillP]; show (List.set _ _ _).length = 256; rw [List.length_set]; exact fill_len2 s k
theorem fill_len1 (s : ByteArray) : ∀ k, (fillP s k).1.length = s.size
  | 0 => by rw [fillP]; simp
  | k + 1 => by rw [fillP]; show (List.set _ _ _).length = _; rw [List.length_set]; exact fill_len1 s k
theorem fill_next (s : ByteArray) : ∀ k j, j < 256 → (fillP s k).2.getD j 0 = sumL (cntL s s.size) j + (cntL s k).getD j 0
  | 0, j, h => by
    rw [fillP, cntL, rep_zero]
    show (nxtL _ _).getD j 0 = _
    rw [nxtL_sum _ 256 (by omega) j h]; omega
  | k + 1, j, h => by
    rw [fillP]
    show (List.set _ _ _).getD j 0 = _
    have hl := fill_len2 s k
    rw [getD_set, cntL_succ, fill_next s k j h]
    by_cases e : byteA s k = j
    · rw [if_pos ⟨e, by omega⟩, if_pos e, e, fill_next s k j h]; omega
    · rw [if_neg (fun x => e x.1), if_neg e]
theorem sum_set (l : List Int) (i : Nat) (v : Int) (hi : i < l.length) : ∀ b, sumL (l.set i v) b = sumL l b + if i < b then v - l.getD i 0 else 0
  | 0 => by simp [sumL]
  | b + 1 => by
    have ih := sum_set l i v hi b
    have hg := getD_set l i b v
    rw [sumL, sumL, ih, hg]
    by_cases e : i = b
    · have e1 : i = b ∧ i < l.length := ⟨e, hi⟩
      rw [if_pos e1, e]
      split <;> split <;> omega
    · have e2 : ¬ (i = b ∧ i < l.length) := fun x => e x.1
      rw [if_neg e2]
      split <;> split <;> omega
theorem sum_rep (n : Nat) : ∀ b, sumL (List.replicate n 0) b = 0
  | 0 => rfl
  | b + 1 => by rw [sumL, sum_rep n b, rep_zero]; rfl
theorem sum_cnt (s : ByteArray) : ∀ k, sumL (cntL s k) 256 = k
  | 0 => by rw [cntL, sum_rep]; rfl
  | k + 1 => by
    rw [cntL, sum_set _ _ _ (by rw [cntL_len]; exact byteA_lt s k), if_pos (byteA_lt s k), sum_cnt s k]; omega
theorem sum_mono (c : List Int) (h : ∀ j, 0 ≤ c.getD j 0) : ∀ d b, sumL c b ≤ sumL c (b + d)
  | 0, b => Int.le_refl _
  | d + 1, b => by
    have h1 := sum_mono c h d b; have h2 := h (b + d)
    rw [show b + (d + 1) = b + d + 1 by omega, sumL]; omega
theorem sum_nn (c : List Int) (h : ∀ j, 0 ≤ c.getD j 0) (b : Nat) : 0 ≤ sumL c b := by have := sum_mono c h b 0; rw [Nat.zero_add] at this; exact this
/-- each byte's place is one of the text's -/
theorem fill_in (s : ByteArray) (k : Nat) (hk : k < s.size) : 0 ≤ (fillP s k).2.getD (byteA s k) 0 ∧ (fillP s k).2.getD (byteA s k) 0 < s.size := by
  have hb := byteA_lt s k
  have hnn : ∀ j, 0 ≤ (cntL s s.size).getD j 0 := fun j => (cntL_bd s s.size j).1
  have h1 := cntL_succ s k (byteA s k)
  rw [if_pos rfl] at h1
  have h2 := cntL_mono s (byteA s k) (s.size - (k + 1)) (k + 1)
  rw [show k + 1 + (s.size - (k + 1)) = s.size by omega] at h2
  have h3 := sum_mono _ hnn (256 - (byteA s k + 1)) (byteA s k + 1)
  rw [show byteA s k + 1 + (256 - (byteA s k + 1)) = 256 by omega, sum_cnt, sumL] at h3
  have h4 := (cntL_bd s k (byteA s k)).1
  have h5 := sum_nn _ hnn (byteA s k)
  rw [fill_next s k _ hb]
  omega
def vecL (s : ByteArray) : List Int := (fillP s s.size).1
end Vm
end Go.Proofs.Ytfelmdagolnpeaa
