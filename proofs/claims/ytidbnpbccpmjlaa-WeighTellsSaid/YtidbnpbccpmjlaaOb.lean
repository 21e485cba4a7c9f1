/-
  WALKS of stage 8: how many words have each length.
-/
import Derived.Test.YtidbnpbccpmjlaaRows
import Derived.Test.YtidbnpbccpmjlaaOa
namespace Go.Proofs.Ytidbnpbccpmjlaa
open Go.RowKit
namespace Ob
open Ab Oa

def good (x : Int) : Prop := 1 ≤ x ∧ x ≤ 20
instance (x : Int) : Decidable (good x) := by unfold good; infer_instance
/-- how many of the first i are so long, for each length -/
def tA (l : List Int) (i : Nat) : List Int := (List.range 21).map fun v : Nat => (((l.take i).countP fun x => decide (x = (v : Int)) : Nat) : Int)
theorem tA_len (l : List Int) (i : Nat) : (tA l i).length = 21 := by simp [tA]
theorem tA_0 (l : List Int) : tA l 0 = List.replicate 21 0 := rfl
theorem tA_get (l : List Int) (i v : Nat) (h : v < 21) : (tA l i).getD v 0 = (((l.take i).countP fun x => decide (x = (v : Int)) : Nat) : Int) := by
  rw [tA, List.getD_eq_getElem?_getD, List.getElem?_map, List.getElem?_range h]; rfl
theorem tA_s {l : List Int} {i : Nat} (hi : i < l.length) (hl : l.length ≤ 258) (hg : good (l.getD i 0)) : (tA l i).set (l.getD i 0).toNat (IntKind.u64.wrap ((tA l i).getD (l.getD i 0).toNat 0 + 1)) = tA l (i + 1) := by
  unfold good at hg
  have hlt : (l.getD i 0).toNat < 21 := by omega
  have hc := List.countP_le_length (p := fun x => decide (x = (((l.getD i 0).toNat : Nat) : Int))) (l := l.take i)
  rw [List.length_take] at hc
  rw [tA_get l i _ hlt, IntKind.wrap_u64, Int.emod_eq_of_lt (by omega) (by omega)]
  apply List.ext_getElem?
  intro v
  rw [List.getElem?_set]
  by_cases hv : v < 21
  · have e1 : (tA l (i + 1))[v]? = some ((((l.take (i + 1)).countP fun x => decide (x = (v : Int)) : Nat) : Int)) := by rw [tA, List.getElem?_map, List.getElem?_range hv]; rfl
    have e2 : (tA l i)[v]? = some ((((l.take i).countP fun x => decide (x = (v : Int)) : Nat) : Int)) := by rw [tA, List.getElem?_map, List.getElem?_range hv]; rfl
    have e3 : l.take (i + 1) = l.take i ++ [l.getD i 0] := by rw [List.take_succ_eq_append_getElem hi, List.getD_eq_getElem?_getD, List.getElem?_eq_getElem hi]; rfl
    rw [e1, e2, e3, List.countP_append, tA_len]
    by_cases e : (l.getD i 0).toNat = v
    · subst e
      rw [if_pos rfl, if_pos hlt]
      have : (l.getD i 0) = (((l.getD i 0).toNat : Nat) : Int) := by omega
      rw [List.countP_cons, List.countP_nil, if_pos (decide_eq_true this)]
      exact congrArg some (by omega)
    · rw [if_neg e]
      have : ¬ (l.getD i 0 = (v : Int)) := by omega
      rw [List.countP_cons, List.countP_nil, if_neg (fun h => this (of_decide_eq_true h))]
      rfl
  · rw [if_neg (by omega), List.getElem?_eq_none (by rw [tA_len]; omega), List.getElem?_eq_none (by rw [tA_len]; omega)]

def cntV (l : List Int) : List Int × Bool := if l.length < 2 ∨ 258 < l.length then (List.replicate 21 0, false) else if ∀ x ∈ l, good x then (tA l l.length, true) else (tA l (l.takeWhile fun x => decide (good x)).length, false)
theorem tw_len {l : List Int} {i : Nat} (hi : i < l.length) (h : ∀ j, j < i → good (l.getD j 0)) (hb : ¬ good (l.getD i 0)) : (l.takeWhile fun x => decide (good x)).length = i := by
  induction l generalizing i with
  | nil => simp at hi
  | cons x l ih =>
    cases i with
    | zero =>
      have hx : ¬ good x := hb
      rw [List.takeWhile_cons, if_neg (by simpa using hx)]; rfl
    | succ i =>
      have hx : good x := h 0 (by omega)
      rw [List.takeWhile_cons, if_pos (by simpa using hx), List.length_cons, ih (by simpa using hi) (fun j hj => by simpa using h (j + 1) (by omega)) (by simpa using hb)]
theorem cnt_bad {l : List Int} {i : Nat} (hl : ¬ (l.length < 2 ∨ 258 < l.length)) (hi : i < l.length) (h : ∀ j, j < i → good (l.getD j 0)) (hb : ¬ good (l.getD i 0)) : cntV l = (tA l i, false) := by
  have : ¬ ∀ x ∈ l, good x := fun h2 => hb (h2 _ (by rw [List.getD_eq_getElem?_getD, List.getElem?_eq_getElem hi]; exact List.getElem_mem hi))
  rw [cntV, if_neg hl, if_neg this, tw_len hi h hb]
theorem cnt_ok {l : List Int} {i : Nat} (hl : ¬ (l.length < 2 ∨ 258 < l.length)) (hi : i = l.length) (h : ∀ j, j < i → good (l.getD j 0)) : cntV l = (tA l i, true) := by
  subst hi
  have : ∀ x ∈ l, good x := fun x hx => by
    obtain ⟨j, hj, rfl⟩ := List.mem_iff_getElem.1 hx
    have := h j hj
    rwa [List.getD_eq_getElem?_getD, List.getElem?_eq_getElem hj] at this
  rw [cntV, if_neg hl, if_pos this]
theorem cnt_len {l : List Int} (h : l.length < 2 ∨ 258 < l.length) : cntV l = (List.replicate 21 0, false) := by rw [cntV, if_pos h]
end Ob
end Go.Proofs.Ytidbnpbccpmjlaa
