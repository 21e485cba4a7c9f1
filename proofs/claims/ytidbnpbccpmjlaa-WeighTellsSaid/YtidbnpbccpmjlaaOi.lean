/-
  WALKS of stage 8: the reference: what is wrong with lengths.
-/
import Derived.Test.YtidbnpbccpmjlaaRows
import Derived.Test.YtidbnpbccpmjlaaOa
import Derived.Test.YtidbnpbccpmjlaaOb
import Derived.Test.YtidbnpbccpmjlaaOc
import Derived.Test.YtidbnpbccpmjlaaOd
import Derived.Test.YtidbnpbccpmjlaaOf
namespace Go.Proofs.Ytidbnpbccpmjlaa
open Go.RowKit
namespace Oi
open Ab Oa Ob Oc Od Of

theorem tA_inc {l : List Int} {i : Nat} (hi : i < l.length) (v : Nat) : (tA l (i + 1)).getD v 0 = (tA l i).getD v 0 + if v < 21 ∧ l.getD i 0 = (v : Int) then 1 else 0 := by
  by_cases hv : v < 21
  · have e3 : l.take (i + 1) = l.take i ++ [l.getD i 0] := by rw [List.take_succ_eq_append_getElem hi, List.getD_eq_getElem?_getD, List.getElem?_eq_getElem hi]; rfl
    rw [tA_get l (i + 1) v hv, tA_get l i v hv, e3, List.countP_append]
    by_cases e : l.getD i 0 = (v : Int)
    · rw [if_pos ⟨hv, e⟩, List.countP_cons, List.countP_nil, if_pos (decide_eq_true e)]; omega
    · rw [if_neg (fun h => e h.2), List.countP_cons, List.countP_nil, if_neg (fun h => e (of_decide_eq_true h))]; omega
  · rw [if_neg (fun h => hv h.1), List.getD_eq_getElem?_getD, List.getD_eq_getElem?_getD, List.getElem?_eq_none (by rw [tA_len]; omega), List.getElem?_eq_none (by rw [tA_len]; omega)]; rfl
theorem krS_inc {l : List Int} {i : Nat} (hi : i < l.length) (hg : good (l.getD i 0)) : ∀ n, n ≤ 21 → krS (tA l (i + 1)) n = krS (tA l i) n + if l.getD i 0 < (n : Int) then 2 ^ (20 - (l.getD i 0).toNat) else 0
  | 0, _ => by
    unfold good at hg
    rw [if_neg (by omega)]; rfl
  | n + 1, hn => by
    have ih := krS_inc hi hg n (by omega)
    unfold good at hg
    rw [krS, krS, ih, tA_inc hi]
    by_cases e : l.getD i 0 = (n : Int)
    · rw [if_neg (show ¬ l.getD i 0 < (n : Int) by omega), if_pos ⟨by omega, e⟩, if_pos (by omega), Int.add_mul, e, Int.toNat_natCast]; omega
    · have hne : ¬ (n < 21 ∧ l.getD i 0 = (n : Int)) := fun h => e h.2
      rw [if_neg hne, Int.add_zero]
      by_cases h : l.getD i 0 < (n : Int)
      · rw [if_pos h, if_pos (by omega)]; omega
      · rw [if_neg h, if_neg (by omega), Int.add_zero, Int.add_zero]
theorem krS_0 (l : List Int) : krS (tA l 0) 21 = 0 := by rw [tA_0]; rfl
theorem krS_1 {l : List Int} {i : Nat} (hi : i < l.length) (hg : good (l.getD i 0)) : krS (tA l i) 21 + 2 ^ (20 - (l.getD i 0).toNat) = krS (tA l (i + 1)) 21 := by
  unfold good at hg
  rw [krS_inc hi hg 21 (by omega), if_pos (by omega)]

theorem snd_len {l : List Int} (h : l.length < 2 ∨ 258 < l.length) : (sndV l).2 = 1 := by rw [sndV, cnt_len h, if_pos rfl]
theorem snd_bad {l : List Int} {i : Nat} (hl : ¬ (l.length < 2 ∨ 258 < l.length)) (hi : i < l.length) (h : ∀ j, j < i → good (l.getD j 0)) (hb : ¬ good (l.getD i 0)) : (sndV l).2 = 1 := by rw [sndV, cnt_bad hl hi h hb, if_pos rfl]
theorem snd_over {l : List Int} (hl : ¬ (l.length < 2 ∨ 258 < l.length)) (h : ∀ j, j < l.length → good (l.getD j 0)) : (sndV l).2 = if 1048576 < krS (tA l l.length) 21 then 6 else 0 := by
  rw [sndV, cnt_ok hl rfl h, if_neg (by simp)]
  simp only
  split <;> rfl
theorem pow_1 {x : Int} (h : good x) : (1 : Int) * 2 ^ (20 - x).toNat = 2 ^ (20 - x.toNat) ∧ 0 ≤ (2 : Int) ^ (20 - x.toNat) ∧ (2 : Int) ^ (20 - x.toNat) ≤ 1048576 := by
  unfold good at h
  have := pow_le x.toNat
  rw [show (20 - x).toNat = 20 - x.toNat by omega, Int.one_mul]
  exact ⟨rfl, by omega, this.2⟩
theorem krT_bd {l : List Int} (h : ∀ j, j < l.length → good (l.getD j 0)) : ∀ i, i ≤ l.length → 0 ≤ krS (tA l i) 21 ∧ krS (tA l i) 21 ≤ 1048576 * i
  | 0, _ => by rw [krS_0]; simp
  | i + 1, hi => by
    have ih := krT_bd h i (by omega)
    have := pow_1 (h i (by omega))
    rw [← krS_1 (by omega) (h i (by omega))]; omega
end Oi
end Go.Proofs.Ytidbnpbccpmjlaa
