/-
  MATHS of stage 8: words, their order, and what is taken.
-/
import Derived.Test.YtdcenocljnlipaaOh
namespace Go.Proofs.Ytdcenocljnlipaa
open Go.RowKit
namespace Om
open Ab Oa Ob Oc Od Oe Of Og Oh Bb Bm Bt
def ln (l : List Int) (s : Nat) : Nat := (l.getD s 0).toNat
def aN (l : List Int) : Nat → Nat
  | 0 => 0
  | n + 1 => 2 * aN l n + (olL l ((n : Int) + 1)).length
theorem aN_w (l : List Int) : ∀ n, (wdS l n).2 = (aN l n : Int)
  | 0 => rfl
  | n + 1 => by rw [wd_2, aN_w l n, aN]; omega
def rk (l : List Int) (s : Nat) : Nat := (olA l (l.getD s 0) s).length
def wN (l : List Int) (s : Nat) : Nat := 2 * aN l (ln l s - 1) + rk l s
def OkL (l : List Int) : Prop := (sndV l).2 = 0
theorem OkL.good {l : List Int} (h : OkL l) {s : Nat} (hs : s < l.length) : 1 ≤ ln l s ∧ ln l s ≤ 20 ∧ l.getD s 0 = (ln l s : Int) := by
  obtain ⟨_, h2⟩ := snd_ok h
  obtain ⟨_, _, _, h3⟩ := cntV_bd h2
  have := h3 _ (getD_mem' hs)
  unfold Ob.good at this
  unfold ln
  omega
theorem OkL.len {l : List Int} (h : OkL l) : 2 ≤ l.length ∧ l.length ≤ 258 := by
  have := snd_bd h
  omega
/-- ranks -/
theorem olA_cnt (l : List Int) (n : Int) : ∀ i, i ≤ l.length → (olA l n i).length = (l.take i).countP fun x => decide (x = n)
  | 0, _ => by simp [olA]
  | i + 1, hi => by
    have ih := olA_cnt l n i (by omega)
    have e3 : l.take (i + 1) = l.take i ++ [l.getD i 0] := by rw [List.take_succ_eq_append_getElem (by omega), List.getD_eq_getElem?_getD, List.getElem?_eq_getElem (by omega)]; rfl
    rw [e3, List.countP_append, List.countP_cons, List.countP_nil, ← ih]
    by_cases h : l.getD i 0 = n
    · rw [olA_y h, if_pos (decide_eq_true h), List.length_append]; rfl
    · rw [olA_n h, if_neg (fun h2 => h (of_decide_eq_true h2))]; rfl
theorem olL_cnt (l : List Int) (n : Int) : (olL l n).length = l.countP fun x => decide (x = n) := by
  rw [olL, olA_cnt l n _ (Nat.le_refl _), List.take_length]
theorem olA_mono (l : List Int) (n : Int) {i j : Nat} (h : i ≤ j) : (olA l n i).length ≤ (olA l n j).length := by
  obtain ⟨r, hr⟩ := olA_pre l n i (j - i)
  rw [show i + (j - i) = j by omega] at hr
  rw [hr, List.length_append]; omega
theorem rk_lt {l : List Int} {s : Nat} (hs : s < l.length) : rk l s < (olL l (l.getD s 0)).length := (olL_at hs rfl).1
theorem rk_at {l : List Int} {s : Nat} (hs : s < l.length) : (olL l (l.getD s 0)).getD (rk l s) 0 = s := (olL_at hs rfl).2.symm
theorem rk_mono {l : List Int} {s t : Nat} (h : s < t) (e : l.getD s 0 = l.getD t 0) : rk l s < rk l t := by
  have h1 := olA_mono l (l.getD t 0) (show s + 1 ≤ t by omega)
  rw [olA_y e, List.length_append, List.length_singleton] at h1
  unfold rk
  rw [e]; omega
/-- the r-th of a length has rank r -/
theorem ol_rk {l : List Int} {n : Int} {r : Nat} (h : r < (olL l n).length) : (olL l n).getD r 0 < l.length ∧ l.getD ((olL l n).getD r 0) 0 = n ∧ rk l ((olL l n).getD r 0) = r := by
  have h1 := ol_lt h
  have hm : (olL l n).getD r 0 ∈ olL l n := by
    rw [List.getD_eq_getElem?_getD, List.getElem?_eq_getElem h]; exact List.getElem_mem h
  have h2 : l.getD ((olL l n).getD r 0) 0 = n := of_decide_eq_true (List.mem_filter.1 hm).2
  refine ⟨h1, h2, ?_⟩
  have h3 := rk_at h1
  have h4 := rk_lt h1
  rw [h2] at h3 h4
  have nd : (olL l n).Nodup := List.nodup_range.filter _
  generalize rk l ((olL l n).getD r 0) = q at h3 h4
  rw [List.getD_eq_getElem?_getD, List.getD_eq_getElem?_getD, List.getElem?_eq_getElem h4, List.getElem?_eq_getElem h] at h3
  simp only [Option.getD_some] at h3
  rcases Nat.lt_trichotomy q r with h5 | h5 | h5
  · exact absurd h3 (List.pairwise_iff_getElem.1 nd q r h4 h h5)
  · exact h5
  · exact absurd h3.symm (List.pairwise_iff_getElem.1 nd r q h h4 h5)
/-- what stands in the words -/
theorem setS_at (l : List Int) (n x : Int) (w : List (Int × Int)) (j : Nat) (hj : j < w.length) : ∀ i, (setS w n x (olA l n i)).getD j (0, 0) = if j < i ∧ l.getD j 0 = n then (n, x + (olA l n j).length) else w.getD j (0, 0)
  | 0 => by rw [if_neg (by omega)]; rfl
  | i + 1 => by
    have ih := setS_at l n x w j hj i
    by_cases h : l.getD i 0 = n
    · rw [olA_y h, setS_app, List.getD_eq_getElem?_getD, List.getElem?_set]
      by_cases e : i = j
      · subst e
        rw [if_pos rfl, setS_len, if_pos hj, if_pos ⟨by omega, h⟩]; rfl
      · rw [if_neg e, ← List.getD_eq_getElem?_getD, ih]
        by_cases h2 : j < i ∧ l.getD j 0 = n
        · rw [if_pos h2, if_pos ⟨by omega, h2.2⟩]
        · rw [if_neg h2, if_neg (fun h3 => h2 ⟨by omega, h3.2⟩)]
    · rw [olA_n h, ih]
      by_cases h2 : j < i ∧ l.getD j 0 = n
      · rw [if_pos h2, if_pos ⟨by omega, h2.2⟩]
      · rw [if_neg h2, if_neg (fun h3 => h2 ⟨by
          have : j ≠ i := fun e => h (e ▸ h3.2)
          omega, h3.2⟩)]
theorem wdS_at {l : List Int} (h : OkL l) {s : Nat} (hs : s < l.length) : ∀ n, (wdS l n).1.getD s (0, 0) = if ln l s ≤ n then ((ln l s : Int), (wN l s : Int)) else (0, 0)
  | 0 => by
    have := h.good hs
    rw [if_neg (by omega), wdS, List.getD_eq_getElem?_getD, List.getElem?_replicate]
    split <;> rfl
  | n + 1 => by
    have ih := wdS_at h hs n
    obtain ⟨h1, h2, h3⟩ := h.good hs
    have e : (wdS l (n + 1)).1 = setS (wdS l n).1 ((n : Int) + 1) (2 * (wdS l n).2) (olA l ((n : Int) + 1) l.length) := rfl
    rw [e, setS_at _ _ _ _ _ (by rw [wdS_len]; exact hs), ih, aN_w]
    by_cases e2 : l.getD s 0 = (n : Int) + 1
    · have e3 : ln l s = n + 1 := by omega
      have e4 : ((olA l ((n : Int) + 1) s).length) = rk l s := by rw [rk, e2]
      rw [if_pos ⟨hs, e2⟩, if_pos (by omega), wN, e3, e4, show n + 1 - 1 = n by omega]
      congr 1 <;> omega
    · rw [if_neg (fun h => e2 h.2)]
      by_cases h4 : ln l s ≤ n
      · rw [if_pos h4, if_pos (by omega)]
      · rw [if_neg h4, if_neg (by omega)]
theorem wdV_at {l : List Int} (h : OkL l) {s : Nat} (hs : s < l.length) : (wdV l).getD s (0, 0) = ((ln l s : Int), (wN l s : Int)) := by
  have := h.good hs
  rw [wdV, if_pos (show (sndV l).2 = 0 from h), wdS_at h hs, if_pos this.2.1]
theorem wdV_len {l : List Int} (h : OkL l) : (wdV l).length = l.length := by rw [wdV, if_pos (show (sndV l).2 = 0 from h), wdS_len]
/-- Kraft -/
theorem cnt_ol {l : List Int} (h : OkL l) {v : Nat} (hv : v < 21) : (cntV l).1.getD v 0 = ((olL l (v : Int)).length : Int) := by
  obtain ⟨_, h2⟩ := snd_ok h
  obtain ⟨h3, _⟩ := cntV_bd h2
  rw [h3, tA_get _ _ _ hv, List.take_length, olL_cnt]
theorem fi_aN {l : List Int} (h : OkL l) : ∀ k, k ≤ 20 → fiS (cntV l).1 k = (aN l k : Int)
  | 0, _ => rfl
  | k + 1, hk => by
    rw [fiS, fi_aN h k (by omega), cnt_ol h (by omega), aN]
    rw [show ((k + 1 : Nat) : Int) = (k : Int) + 1 by omega]; omega
theorem ol_0 {l : List Int} (h : OkL l) : olL l 0 = [] := by
  match e : olL l 0 with
  | [] => rfl
  | a :: t =>
    have h1 : 0 < (olL l 0).length := by rw [e]; simp
    have h2 := ol_rk h1
    have := h.good h2.1
    omega
theorem kr_aN {l : List Int} (h : OkL l) : ∀ n, n ≤ 20 → krS (cntV l).1 (n + 1) = ((aN l n * 2 ^ (20 - n) : Nat) : Int)
  | 0, _ => by
    rw [krS, krS, cnt_ol h (by omega)]
    have := ol_0 h
    rw [show ((0 : Nat) : Int) = 0 by rfl, this, aN]; rfl
  | n + 1, hn => by
    rw [krS, kr_aN h n (by omega), cnt_ol h (by omega), aN, show 20 - n = 20 - (n + 1) + 1 by omega, Nat.pow_succ]
    rw [show ((n + 1 : Nat) : Int) = (n : Int) + 1 by omega, Nat.add_mul]
    have : ((2 ^ (20 - (n + 1)) : Nat) : Int) = 2 ^ (20 - (n + 1)) := by simp
    rw [← this, ← Int.natCast_mul, ← Int.natCast_add]
    congr 1
    rw [Nat.mul_comm 2 (aN l n), Nat.mul_assoc, Nat.mul_comm 2]
theorem aN_kraft {l : List Int} (h : OkL l) : aN l 20 ≤ 1048576 := by
  obtain ⟨_, h2⟩ := snd_ok h
  have h1 := kr_aN h 20 (Nat.le_refl _)
  have h3 : ¬ 1048576 < krS (cntV l).1 21 := by
    intro h4
    unfold OkL sndV at h
    rw [if_neg (by simp [h2]), if_pos h4] at h
    simp at h
  rw [h1] at h3
  simp at h3
  omega
theorem aN_mono (l : List Int) (n : Nat) : ∀ m, aN l n * 2 ^ m ≤ aN l (n + m)
  | 0 => by simp
  | m + 1 => by
    have := aN_mono l n m
    rw [← Nat.add_assoc, aN, Nat.pow_succ, ← Nat.mul_assoc]; omega
theorem aN_le {l : List Int} (h : OkL l) {n : Nat} (hn : n ≤ 20) : aN l n ≤ 2 ^ n := by
  have h1 := aN_mono l n (20 - n)
  have h2 := aN_kraft h
  rw [show n + (20 - n) = 20 by omega] at h1
  have h3 : (2 : Nat) ^ n * 2 ^ (20 - n) = 1048576 := by rw [← Nat.pow_add, show n + (20 - n) = 20 by omega]
  exact Nat.le_of_mul_le_mul_right (by rw [h3]; omega) (Nat.two_pow_pos (20 - n))
theorem wN_lt {l : List Int} (h : OkL l) {s : Nat} (hs : s < l.length) : wN l s < aN l (ln l s) := by
  obtain ⟨h1, _, h3⟩ := h.good hs
  have h4 := rk_lt hs
  obtain ⟨q, hq⟩ : ∃ q, ln l s = q + 1 := ⟨ln l s - 1, by omega⟩
  rw [hq, aN, wN, hq, show q + 1 - 1 = q by omega]
  rw [h3, show ((ln l s : Nat) : Int) = (q : Int) + 1 by omega] at h4
  omega
theorem wN_pow {l : List Int} (h : OkL l) {s : Nat} (hs : s < l.length) : wN l s < 2 ^ ln l s := Nat.lt_of_lt_of_le (wN_lt h hs) (aN_le h (h.good hs).2.1)
def before (l : List Int) (t s : Nat) : Prop := ln l t < ln l s ∨ ln l t = ln l s ∧ t < s
theorem sep {l : List Int} (h : OkL l) {i k : Nat} (hi : i < l.length) (hk : k < l.length) (hb : before l i k) : (wN l i + 1) * 2 ^ (ln l k - ln l i) ≤ wN l k := by
  obtain ⟨hi1, _, hi3⟩ := h.good hi
  obtain ⟨hk1, _, hk3⟩ := h.good hk
  rcases hb with hb | ⟨e, hb⟩
  · have h1 := wN_lt h hi
    have h2 := aN_mono l (ln l i) (ln l k - 1 - ln l i)
    rw [show ln l i + (ln l k - 1 - ln l i) = ln l k - 1 by omega] at h2
    have h3 : (wN l i + 1) * 2 ^ (ln l k - 1 - ln l i) ≤ aN l (ln l i) * 2 ^ (ln l k - 1 - ln l i) := Nat.mul_le_mul_right _ h1
    rw [show ln l k - ln l i = (ln l k - 1 - ln l i) + 1 by omega, Nat.pow_succ, ← Nat.mul_assoc]
    unfold wN at h3 ⊢
    omega
  · have := rk_mono (l := l) hb (by omega)
    rw [e, Nat.sub_self, Nat.pow_zero, Nat.mul_one, wN, wN, e]; omega
/-- what is taken -/
def vN (s : ByteArray) (a : Int) (n : Nat) : Nat := val (bitsAt s.data.toList a.toNat n)
theorem vN_0 (s : ByteArray) (a : Int) : vN s a 0 = 0 := rfl
theorem vN_s (s : ByteArray) (a : Int) (n : Nat) : 2 * vN s a n ≤ vN s a (n + 1) ∧ vN s a (n + 1) ≤ 2 * vN s a n + 1 := by
  unfold vN bitsAt
  rw [List.range_succ, List.map_append, val_append]
  simp only [List.map_cons, List.map_nil, List.length_singleton, Nat.pow_one]
  have hb : ∀ b : Bool, val [b] ≤ 1 := by decide
  have := hb (bit s.data.toList (a.toNat + n))
  omega
def Mt (l : List Int) (s : ByteArray) (a : Int) (i : Nat) : Prop := a + (ln l i : Int) ≤ 8 * s.size ∧ vN s a (ln l i) = wN l i
instance (l : List Int) (s : ByteArray) (a : Int) (i : Nat) : Decidable (Mt l s a i) := by unfold Mt; infer_instance
theorem down {l : List Int} {s : ByteArray} {a : Int} {i : Nat} (h1 : 1 ≤ ln l i) (h : vN s a (ln l i) = wN l i) : ∀ d, d + 1 ≤ ln l i → aN l (ln l i - 1 - d) ≤ vN s a (ln l i - 1 - d)
  | 0, hd => by
    have := (vN_s s a (ln l i - 1)).2
    rw [show ln l i - 1 + 1 = ln l i by omega, h, wN] at this
    rw [Nat.sub_zero]; omega
  | d + 1, hd => by
    have ih := down h1 h d (by omega)
    have := (vN_s s a (ln l i - 1 - (d + 1))).2
    rw [show ln l i - 1 - d = (ln l i - 1 - (d + 1)) + 1 by omega] at ih
    rw [aN] at ih
    omega
theorem nth_at {l : List Int} {n : Int} {r : Nat} (h : r < (olL l n).length) : nthV l n r = (olL l n).getD r 0 := by rw [nthV, if_pos h]
theorem tk_match {l : List Int} (h : OkL l) {s : ByteArray} {a : Int} (ha : 0 ≤ a) {i : Nat} (hi : i < l.length) (hm : Mt l s a i) : ∀ m k, k + 1 ≤ ln l i → ln l i ≤ k + m → tkR l s a m k = ((i : Int), a + (ln l i : Int), 0)
  | 0, k, h1, h2 => by omega
  | m + 1, k, h1, h2 => by
    obtain ⟨hg1, hg2, hg3⟩ := h.good hi
    have e1 : getV s a ((k : Int) + 1) = ((vN s a (k + 1) : Int), 0) := by
      have := gv_in (s := s) (a := a) (m := k + 1) ha (by omega) (by have := hm.1; omega)
      rw [show ((k : Int) + 1) = ((k + 1 : Nat) : Int) by omega, this]; rfl
    have e2 := fi_aN h k (by omega)
    have e3 := cnt_ol h (v := k + 1) (by omega)
    have e4 : aN l (k + 1) = 2 * aN l k + (olL l ((k : Int) + 1)).length := rfl
    rw [show ((k + 1 : Nat) : Int) = (k : Int) + 1 by omega] at e3
    rw [tkR, e1, if_neg (by simp), e2, e3]
    simp only
    by_cases e : k + 1 = ln l i
    · have hw := wN_lt h hi
      have hv : vN s a (k + 1) = wN l i := by rw [e]; exact hm.2
      have e5 : wN l i = 2 * aN l k + rk l i := by rw [wN, ← e]; rfl
      have e6 : (l.getD i 0) = (k : Int) + 1 := by omega
      have h7 := rk_lt hi
      have h8 := rk_at hi
      rw [e6] at h7 h8
      rw [if_pos (by rw [hv]; omega), hv, e5, show (((2 * aN l k + rk l i : Nat) : Int) - 2 * (aN l k : Int)).toNat = rk l i by omega, nth_at h7, h8]
      congr 2; omega
    · have hd := down hg1 hm.2 (ln l i - 1 - (k + 1)) (by omega)
      rw [show ln l i - 1 - (ln l i - 1 - (k + 1)) = k + 1 by omega] at hd
      rw [if_neg (by omega)]
      exact tk_match h ha hi hm m (k + 1) (by omega) (by omega)
theorem tk_all {l : List Int} (h : OkL l) {s : ByteArray} {a : Int} (ha : 0 ≤ a) : ∀ m k, k + m ≤ 20 → aN l k ≤ vN s a k → a + (k : Int) ≤ 8 * s.size ∨ k = 0 → 
    (∃ i, i < l.length ∧ Mt l s a i ∧ tkR l s a m k = ((i : Int), a + (ln l i : Int), 0)) ∨ (tkR l s a m k = (0, 0, 2) ∧ 8 * s.size < a + ((k + m : Nat) : Int)) ∨ (tkR l s a m k = (0, 0, 3) ∧ (a + ((k + m : Nat) : Int) ≤ 8 * s.size ∨ k + m = 0))
  | 0, k, hk, hv, hb => by
    right; right
    exact ⟨rfl, by rcases hb with hb | hb; (· left; exact hb); (· right; omega)⟩
  | m + 1, k, hk, hv, hb => by
    by_cases hin : a + ((k + 1 : Nat) : Int) ≤ 8 * s.size
    · have e1 : getV s a ((k : Int) + 1) = ((vN s a (k + 1) : Int), 0) := by
        have := gv_in (s := s) (a := a) (m := k + 1) ha (by omega) hin
        rw [show ((k : Int) + 1) = ((k + 1 : Nat) : Int) by omega, this]; rfl
      have e2 := fi_aN h k (by omega)
      have e3 := cnt_ol h (v := k + 1) (by omega)
      have e4 : aN l (k + 1) = 2 * aN l k + (olL l ((k : Int) + 1)).length := rfl
      have e5 := (vN_s s a k).1
      rw [show ((k + 1 : Nat) : Int) = (k : Int) + 1 by omega] at e3
      rw [tkR, e1, if_neg (by simp), e2, e3]
      simp only
      by_cases hlt : vN s a (k + 1) < aN l (k + 1)
      · left
        have h7 : vN s a (k + 1) - 2 * aN l k < (olL l ((k : Int) + 1)).length := by omega
        obtain ⟨h8, h9, h10⟩ := ol_rk h7
        have hln : ln l ((olL l ((k : Int) + 1)).getD (vN s a (k + 1) - 2 * aN l k) 0) = k + 1 := by unfold ln; rw [h9]; omega
        refine ⟨_, h8, ⟨by rw [hln]; exact hin, ?_⟩, ?_⟩
        · rw [wN, hln, h10, show k + 1 - 1 = k by omega]; omega
        · rw [if_pos (by omega), show ((vN s a (k + 1) : Int) - 2 * (aN l k : Int)).toNat = vN s a (k + 1) - 2 * aN l k by omega, nth_at h7, hln]
          rfl
      · rw [if_neg (by omega)]
        have := tk_all h ha m (k + 1) (by omega) (by omega) (Or.inl hin)
        rw [show k + 1 + m = k + (m + 1) by omega] at this
        exact this
    · right; left
      have e1 : getV s a ((k : Int) + 1) = (0, 2) := by
        rw [show ((k : Int) + 1) = ((k + 1 : Nat) : Int) by omega]
        exact gv_out ha (by omega) hin
      rw [tkR, e1, if_pos (by simp)]
      exact ⟨rfl, by omega⟩
theorem mx_ge {l : List Int} (h : OkL l) {i : Nat} (hi : i < l.length) : (ln l i : Int) ≤ mxL l := by
  have := mxA_ge l l.length i hi hi
  have := (h.good hi).2.2
  unfold mxL; omega
theorem mx_20 {l : List Int} (h : OkL l) : 1 ≤ mxL l ∧ mxL l ≤ 20 := by
  obtain ⟨_, h2⟩ := snd_ok h
  obtain ⟨_, _, h4, h3⟩ := cntV_bd h2
  have := mx_ge h (i := 0) (by omega)
  have := (h.good (s := 0) (by omega)).1
  exact ⟨by omega, mx_le h3 (by omega)⟩
theorem take_y {l : List Int} (h : OkL l) {s : ByteArray} {a : Int} (ha : 0 ≤ a) {i : Nat} (hi : i < l.length) (hm : Mt l s a i) : takV l s a = ((i : Int), a + (ln l i : Int), 0) := by
  have h1 := mx_ge h hi
  have h2 := h.good hi
  rw [tak_3 h (by omega)]
  exact tk_match h ha hi hm _ 0 (by omega) (by omega)
theorem Mt_one {l : List Int} (h : OkL l) {s : ByteArray} {a : Int} (ha : 0 ≤ a) {i j : Nat} (hi : i < l.length) (hj : j < l.length) (h1 : Mt l s a i) (h2 : Mt l s a j) : i = j := by
  have e1 := take_y h ha hi h1
  have e2 := take_y h ha hj h2
  rw [e1] at e2
  have := congrArg Prod.fst e2
  simp at this
  omega
theorem take_n {l : List Int} (h : OkL l) {s : ByteArray} {a : Int} (ha : 0 ≤ a) (hm : ∀ i, i < l.length → ¬ Mt l s a i) : takV l s a = (0, 0, if a + mxL l ≤ 8 * s.size then 3 else 2) := by
  obtain ⟨h1, h2⟩ := mx_20 h
  rw [tak_3 h (by omega)]
  rcases tk_all h (s := s) ha ((mxL l).toNat - 0) 0 (by omega) (Nat.zero_le _) (Or.inr rfl) with ⟨i, hi, h3, _⟩ | ⟨h3, h4⟩ | ⟨h3, h4⟩
  · exact absurd h3 (hm i hi)
  · rw [h3, if_neg (by omega)]
  · rw [h3, if_pos (by omega)]
theorem take_f {l : List Int} (h : OkL l) {s : ByteArray} {a : Int} (ha : 0 ≤ a) : (∃ i, i < l.length ∧ Mt l s a i ∧ takV l s a = ((i : Int), a + (ln l i : Int), 0)) ∨ ((∀ i, i < l.length → ¬ Mt l s a i) ∧ takV l s a = (0, 0, if a + mxL l ≤ 8 * s.size then 3 else 2)) := by
  by_cases hx : ∃ i, i < l.length ∧ Mt l s a i
  · obtain ⟨i, hi, hm⟩ := hx
    exact Or.inl ⟨i, hi, hm, take_y h ha hi hm⟩
  · have : ∀ i, i < l.length → ¬ Mt l s a i := fun i hi hm => hx ⟨i, hi, hm⟩
    exact Or.inr ⟨this, take_n h ha this⟩
end Om
end Go.Proofs.Ytdcenocljnlipaa
