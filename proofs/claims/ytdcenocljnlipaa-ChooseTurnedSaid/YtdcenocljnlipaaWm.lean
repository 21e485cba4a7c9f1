/-
  MATHS of stage 10: the heap.
-/
import Derived.Test.YtdcenocljnlipaaRows
import Derived.Test.YtdcenocljnlipaaMgc
import Derived.Test.YtdcenocljnlipaaWa
import Derived.Test.YtdcenocljnlipaaWb
namespace Go.Proofs.Ytdcenocljnlipaa
open Go.RowKit
namespace Wm
open Ab Wa Wb

theorem ahd_iff (a b : Tr) : ahd a b = true ↔ a.1 < b.1 ∨ (a.1 = b.1 ∧ a.2 < b.2) := by
  unfold ahd
  rw [Bool.or_eq_true, Bool.and_eq_true, decide_eq_true_eq, decide_eq_true_eq, decide_eq_true_eq]
def le (a b : Tr) : Prop := a.1 < b.1 ∨ (a.1 = b.1 ∧ a.2 ≤ b.2)
theorem le_refl (a : Tr) : le a a := .inr ⟨rfl, Int.le_refl _⟩
theorem le_trans {a b c : Tr} (h : le a b) (h2 : le b c) : le a c := by unfold le at *; omega
theorem le_anti {a b : Tr} (h : le a b) (h2 : le b a) : a = b := by
  unfold le at *
  exact Prod.ext (by omega) (by omega)
theorem ahd_y {a b : Tr} (h : ahd a b = true) : le a b := by
  have := (ahd_iff a b).1 h
  unfold le; omega
theorem ahd_n {a b : Tr} (h : ¬ ahd a b = true) : le b a := by
  rw [ahd_iff] at h
  unfold le; omega
abbrev gt (l : List Tr) (i : Nat) : Tr := l.getD i (0, 0)
theorem gd_set {l : List Tr} {i k : Nat} {x : Tr} (hi : i < l.length) : (l.set i x).getD k (0, 0) = if k = i then x else l.getD k (0, 0) := by
  rw [List.getD_eq_getElem?_getD, List.getElem?_set]
  by_cases e : i = k
  · subst e; rw [if_pos rfl, if_pos hi, if_pos rfl]; rfl
  · rw [if_neg e, if_neg (Ne.symm e), ← List.getD_eq_getElem?_getD]
theorem gt_swp {l : List Tr} {i j : Nat} (hi : i < l.length) (hj : j < l.length) (k : Nat) : gt (swp l i j) k = if k = j then gt l i else if k = i then gt l j else gt l k := by
  unfold swp
  show ((l.set i (l.getD j (0, 0))).set j (l.getD i (0, 0))).getD k (0, 0) = _
  rw [gd_set (by rw [List.length_set]; exact hj), gd_set hi]
theorem swp_perm {l : List Tr} {i j : Nat} (hi : i < l.length) (hj : j < l.length) : (swp l i j).Perm l := by
  unfold swp
  rw [List.getD_eq_getElem?_getD, List.getD_eq_getElem?_getD, List.getElem?_eq_getElem hi, List.getElem?_eq_getElem hj]
  exact List.set_set_perm hi hj
def Heap (l : List Tr) : Prop := ∀ i, 0 < i → i < l.length → le (gt l ((i - 1) / 2)) (gt l i)
/-- a heap, but for what stands at one place: it may have to go up -/
def HpU (l : List Tr) (a : Nat) : Prop := (∀ i, 0 < i → i < l.length → i ≠ a → le (gt l ((i - 1) / 2)) (gt l i)) ∧ ∀ i, 0 < i → i < l.length → (i - 1) / 2 = a → 0 < a → le (gt l ((a - 1) / 2)) (gt l i)
/-- a heap, but for what stands at one place: it may have to go down -/
def HpD (l : List Tr) (a : Nat) : Prop := (∀ i, 0 < i → i < l.length → (i - 1) / 2 ≠ a → le (gt l ((i - 1) / 2)) (gt l i)) ∧ ∀ i, 0 < i → i < l.length → (i - 1) / 2 = a → 0 < a → le (gt l ((a - 1) / 2)) (gt l i)
theorem up_step {l : List Tr} {a : Nat} (h0 : 0 < a) (ha : a < l.length) (hh : HpU l a) (hx : ahd (gt l a) (gt l ((a - 1) / 2)) = true) : HpU (swp l a ((a - 1) / 2)) ((a - 1) / 2) := by
  obtain ⟨h1, h2⟩ := hh
  have hp : (a - 1) / 2 < a := by omega
  have hg := gt_swp (l := l) (i := a) (j := (a - 1) / 2) ha (by omega)
  have hax := ahd_y hx
  refine ⟨fun i hi hl hn => ?_, fun i hi hl hpi hp0 => ?_⟩
  · rw [swp_len] at hl
    rw [hg, hg i]
    by_cases e1 : i = a
    · subst e1
      rw [if_pos rfl, if_neg (by omega), if_pos rfl]; exact hax
    · rw [if_neg hn, if_neg e1]
      by_cases e2 : (i - 1) / 2 = a
      · rw [if_neg (by omega), if_pos e2]; exact h2 i hi hl e2 h0
      · by_cases e3 : (i - 1) / 2 = (a - 1) / 2
        · rw [if_pos e3]
          have := h1 i hi hl e1
          rw [e3] at this
          exact le_trans hax this
        · rw [if_neg e3, if_neg e2]; exact h1 i hi hl e1
  · rw [swp_len] at hl
    rw [hg, hg i, if_neg (by omega), if_neg (by omega)]
    have hpp := h1 ((a - 1) / 2) hp0 (by omega) (by omega)
    by_cases e1 : i = a
    · subst e1
      rw [if_neg (by omega), if_pos rfl]; exact hpp
    · rw [if_neg (by omega), if_neg e1]
      have := h1 i hi hl e1
      rw [hpi] at this
      exact le_trans hpp this
theorem up_heap : ∀ (a : Nat) (l : List Tr), a < l.length → HpU l a → Heap (upL l a) ∧ (upL l a).Perm l := by
  intro a
  induction a using Nat.strongRecOn with
  | ind a ih =>
    intro l ha hh
    by_cases c : 0 < a ∧ ahd (gt l a) (gt l ((a - 1) / 2)) = true
    · rw [up_y c.1 c.2]
      have := ih ((a - 1) / 2) (by omega) (swp l a ((a - 1) / 2)) (by rw [swp_len]; omega) (up_step c.1 ha hh c.2)
      exact ⟨this.1, this.2.trans (swp_perm ha (by omega))⟩
    · rw [up_n c]
      refine ⟨fun i hi hl => ?_, List.Perm.refl _⟩
      by_cases e : i = a
      · subst e
        exact ahd_n (fun h => c ⟨hi, h⟩)
      · exact hh.1 i hi hl e
theorem gt_app {l : List Tr} {x : Tr} {k : Nat} (h : k < l.length) : gt (l ++ [x]) k = gt l k := by
  show (l ++ [x]).getD k (0, 0) = l.getD k (0, 0)
  rw [List.getD_eq_getElem?_getD, List.getD_eq_getElem?_getD, List.getElem?_append_left h]
theorem put_heap {l : List Tr} (h : Heap l) (x : Tr) : Heap (upL (l ++ [x]) l.length) ∧ (upL (l ++ [x]) l.length).Perm (l ++ [x]) := by
  refine up_heap _ _ (by simp) ⟨fun i hi hl hn => ?_, fun i hi hl hp h0 => ?_⟩
  · rw [List.length_append, List.length_singleton] at hl
    rw [gt_app (by omega), gt_app (by omega)]
    exact h i hi (by omega)
  · rw [List.length_append, List.length_singleton] at hl
    omega
theorem bst_le {l : List Tr} {a : Nat} (_ha : a < l.length) : le (gt l (bst l a)) (gt l a) ∧ (∀ i, 0 < i → i < l.length → (i - 1) / 2 = a → le (gt l (bst l a)) (gt l i)) := by
  have key : ∀ t, le (gt l (bs l a t)) (gt l a) ∧ ∀ i, 2 * a + 1 ≤ i → i < 2 * a + 1 + t → le (gt l (bs l a t)) (gt l i) := by
    intro t
    induction t with
    | zero => exact ⟨le_refl _, fun i h1 h2 => by omega⟩
    | succ t ih =>
      by_cases c : ahd (l.getD (2 * a + 1 + t) (0, 0)) (l.getD (bs l a t) (0, 0)) = true
      · rw [bs_y c]
        have hc := ahd_y c
        refine ⟨le_trans hc ih.1, fun i h1 h2 => ?_⟩
        by_cases e : i = 2 * a + 1 + t
        · rw [e]; exact le_refl _
        · exact le_trans hc (ih.2 i h1 (by omega))
      · rw [bs_n c]
        refine ⟨ih.1, fun i h1 h2 => ?_⟩
        by_cases e : i = 2 * a + 1 + t
        · rw [e]; exact ahd_n c
        · exact ih.2 i h1 (by omega)
  have := key (min 2 (l.length - (2 * a + 1)))
  exact ⟨this.1, fun i h0 hl hp => this.2 i (by omega) (by omega)⟩
theorem bst_par {l : List Tr} {a : Nat} (h : ¬ bst l a = a) : 0 < bst l a ∧ (bst l a - 1) / 2 = a ∧ bst l a < l.length ∧ a < bst l a := by
  have h1 := bs_in l a (min 2 (l.length - (2 * a + 1)))
  have h2 := bst_in l a
  unfold bst at *; omega
theorem dn_step {l : List Tr} {a : Nat} (ha : a < l.length) (hh : HpD l a) (hn : ¬ bst l a = a) : HpD (swp l a (bst l a)) (bst l a) := by
  obtain ⟨h1, h2⟩ := hh
  obtain ⟨b0, b1, b2, b3⟩ := bst_par hn
  obtain ⟨l1, l2⟩ := bst_le ha
  generalize bst l a = b at *
  have hg := gt_swp (l := l) (i := a) (j := b) ha b2
  refine ⟨fun i hi hl hpn => ?_, fun i hi hl hpi _ => ?_⟩
  · rw [swp_len] at hl
    rw [hg, hg i, if_neg hpn]
    by_cases e1 : i = b
    · subst e1
      rw [if_pos b1, if_pos rfl]; exact l1
    · rw [if_neg e1]
      by_cases e2 : i = a
      · subst e2
        rw [if_pos rfl, if_neg (by omega)]
        exact h2 b b0 b2 b1 hi
      · rw [if_neg e2]
        by_cases e3 : (i - 1) / 2 = a
        · rw [if_pos e3]; exact l2 i hi hl e3
        · rw [if_neg e3]; exact h1 i hi hl e3
  · rw [swp_len] at hl
    rw [hg, hg i, b1, if_neg (by omega), if_pos rfl, if_neg (by omega), if_neg (by omega)]
    have := h1 i hi hl (by omega)
    rwa [hpi] at this
theorem dn_heap : ∀ (n : Nat) (l : List Tr) (a : Nat), l.length - a = n → a < l.length → HpD l a → Heap (dnL l a) ∧ (dnL l a).Perm l := by
  intro n
  induction n using Nat.strongRecOn with
  | ind n ih =>
    intro l a hn ha hh
    by_cases c : bst l a = a
    · rw [dn_n c]
      refine ⟨fun i hi hl => ?_, List.Perm.refl _⟩
      by_cases e : (i - 1) / 2 = a
      · have := (bst_le ha).2 i hi hl e
        rw [c] at this
        rw [e]; exact this
      · exact hh.1 i hi hl e
    · obtain ⟨b0, b1, b2, b3⟩ := bst_par c
      rw [dn_y c]
      have := ih (l.length - bst l a) (by omega) (swp l a (bst l a)) (bst l a) (by rw [swp_len]) (by rw [swp_len]; exact b2) (dn_step ha hh c)
      exact ⟨this.1, this.2.trans (swp_perm ha b2)⟩
theorem root_le {l : List Tr} (h : Heap l) : ∀ i, i < l.length → le (gt l 0) (gt l i) := by
  intro i
  induction i using Nat.strongRecOn with
  | ind i ih =>
    intro hi
    by_cases e : i = 0
    · rw [e]; exact le_refl _
    · exact le_trans (ih ((i - 1) / 2) (by omega) (by omega)) (h i (by omega) hi)
theorem gt_cut {l : List Tr} {k : Nat} (h0 : 0 < k) (h : k < l.length - 1) : gt (cut0 l) k = gt l k := by
  have hg := gt_swp (l := l) (i := 0) (j := l.length - 1) (by omega) (by omega) k
  rw [if_neg (by omega), if_neg (by omega)] at hg
  rw [← hg]
  show ((swp l 0 (l.length - 1)).take (l.length - 1)).getD k (0, 0) = (swp l 0 (l.length - 1)).getD k (0, 0)
  rw [List.getD_eq_getElem?_getD, List.getD_eq_getElem?_getD, List.getElem?_take, if_pos h]
theorem cut_perm {l : List Tr} (h : 0 < l.length) : (gt l 0 :: cut0 l).Perm l := by
  have hs := swp_perm (l := l) (i := 0) (j := l.length - 1) h (by omega)
  have hg := gt_swp (l := l) (i := 0) (j := l.length - 1) h (by omega) (l.length - 1)
  rw [if_pos rfl] at hg
  have e : swp l 0 (l.length - 1) = cut0 l ++ [gt l 0] := by
    have hl := swp_len l 0 (l.length - 1)
    have := List.take_succ_eq_append_getElem (l := swp l 0 (l.length - 1)) (i := l.length - 1) (by omega)
    rw [show l.length - 1 + 1 = l.length by omega, List.take_of_length_le (by omega)] at this
    rw [← hg]
    show _ = (swp l 0 (l.length - 1)).take (l.length - 1) ++ [(swp l 0 (l.length - 1)).getD (l.length - 1) (0, 0)]
    rw [List.getD_eq_getElem?_getD, List.getElem?_eq_getElem (by omega)]
    exact this
  rw [e] at hs
  exact (List.perm_append_comm.trans (by simp)).symm.symm.symm.trans hs |> fun x => x
/-- what take leaves -/
def rest (l : List Tr) : List Tr := dnL (cut0 l) 0
theorem take_heap {l : List Tr} (h : Heap l) (h0 : 0 < l.length) : Heap (rest l) ∧ (gt l 0 :: rest l).Perm l := by
  by_cases c : l.length = 1
  · have hl := cut0_len l
    have e : cut0 l = [] := List.eq_nil_of_length_eq_zero (by omega)
    have hr : rest l = [] := by
      unfold rest
      rw [e, dn_n (by have := bst_in ([] : List Tr) 0; simp at this ⊢; omega)]
    rw [hr]
    refine ⟨fun i hi hl => by simp at hl, ?_⟩
    have := cut_perm h0
    rwa [e] at this
  · have hl := cut0_len l
    have hd := dn_heap _ (cut0 l) 0 rfl (by omega) ⟨fun i hi hl2 hp => by
      rw [gt_cut (by omega) (by omega), gt_cut (by omega) (by omega)]
      exact h i hi (by omega), fun i hi hl2 hp h3 => by omega⟩
    exact ⟨hd.1, (List.Perm.cons _ hd.2).trans (cut_perm h0)⟩
end Wm
end Go.Proofs.Ytdcenocljnlipaa
