/-
  MATHS of stage 4: what laws ask of pieces.
-/
import Derived.Test.YtmilegikgbmjpaaRm
namespace Go.Proofs.Ytmilegikgbmjpaa
namespace Rl
def lenL (l : List UInt8) : Nat := sumP (pcs l)
theorem packL_len (l : List UInt8) : (packL l).length = lenL l := pack_len _
theorem lenL_nil : lenL [] = 0 := rfl
theorem sumP_cons (p : UInt8 × Nat) (ps : List (UInt8 × Nat)) : sumP (p :: ps) = pkd p.2 + sumP ps := by rw [sumP, List.map_cons, List.sum_cons]; rfl
theorem sumP_app (a b : List (UInt8 × Nat)) : sumP (a ++ b) = sumP a + sumP b := by rw [sumP, List.map_append, List.sum_append]; rfl
theorem lenL_cons {l : List UInt8} (h : l ≠ []) : lenL l = pkd (rn l) + lenL (l.drop (rn l)) := by rw [lenL, pcs_cons h, sumP_cons]; rfl
theorem packL_nil : packL [] = [] := rfl
theorem packL_cons {l : List UInt8} (h : l ≠ []) : packL l = encP (l.getD 0 0, rn l) ++ packL (l.drop (rn l)) := by rw [packL, pcs_cons h, List.flatMap_cons]; rfl
theorem runC_take (b : UInt8) : ∀ (m : Nat) (l : List UInt8) (j : Nat), runC b m (l.take j) = min j (runC b m l)
  | 0, l, j => by simp [runC]
  | m + 1, [], j => by simp [runC]
  | m + 1, c :: l, 0 => by simp [runC]
  | m + 1, c :: l, j + 1 => by
    have := runC_take b m l j
    simp only [List.take_succ_cons, runC]
    split <;> omega
theorem rn_take (l : List UInt8) (j : Nat) : rn (l.take j) = min j (rn l) := by
  cases l with
  | nil => simp [rn]
  | cons b l =>
    cases j with
    | zero => simp [rn]
    | succ j =>
      have := runC_take b 254 l j
      simp only [List.take_succ_cons, rn]; omega
theorem pkd_0 : pkd 0 = 0 := rfl
theorem lenL_take (l : List UInt8) (j : Nat) : lenL (l.take j) = if j ≤ rn l then pkd j else pkd (rn l) + lenL ((l.drop (rn l)).take (j - rn l)) := by
  by_cases e : l = []
  · subst e
    split
    · rename_i h
      have : j = 0 := by simpa [rn] using h
      subst this; rfl
    · simp [lenL_nil, rn, pkd_0]
  · have hp := rn_pos e
    by_cases h0 : j = 0
    · subst h0; rw [if_pos (by omega), List.take_zero]; rfl
    · have hne : l.take j ≠ [] := fun h => by
        have := congrArg List.length h
        rw [List.length_take, List.length_nil] at this; omega
      rw [lenL_cons hne, rn_take]
      split
      · rename_i h
        rw [Nat.min_eq_left h, List.drop_eq_nil_of_le (by rw [List.length_take]; omega), lenL_nil]; rfl
      · rename_i h
        rw [Nat.min_eq_right (by omega), List.drop_take]
theorem pkd_mono {i j : Nat} (h : i ≤ j) : pkd i ≤ pkd j := by unfold pkd; split <;> split <;> omega
theorem len_mono (l : List UInt8) : ∀ (i j : Nat), i ≤ j → lenL (l.take i) ≤ lenL (l.take j) := by
  induction l using byPcs with
  | h0 => intro i j _; simp
  | h1 l h ih =>
    intro i j hij
    rw [lenL_take l i, lenL_take l j]
    split
    · rename_i h1
      have := pkd_mono h1
      have := pkd_mono hij
      split <;> omega
    · rw [if_neg (by omega)]
      have := ih (i - rn l) (j - rn l) (by omega)
      omega
theorem len_take_le (l : List UInt8) (i : Nat) : lenL (l.take i) ≤ lenL l := by
  by_cases h : i ≤ l.length
  · have := len_mono l i l.length h
    rwa [List.take_length] at this
  · rw [List.take_of_length_le (by omega)]; exact Nat.le_refl _
theorem cut_neg {l : List UInt8} {r : Int} (h : r < 0) : cutF (pcs l) r = 0 := by
  by_cases e : l = []
  · subst e; rfl
  · rw [pcs_cons e, cutF, if_pos (by omega)]; omega
theorem cut_spec (l : List UInt8) : ∀ r : Int, 0 ≤ r → ∃ k : Nat, cutF (pcs l) r = (k : Int) ∧ k ≤ l.length ∧ (lenL (l.take k) : Int) ≤ r ∧ (k < l.length → r < (lenL (l.take (k + 1)) : Int)) := by
  induction l using byPcs with
  | h0 => intro r hr; exact ⟨0, rfl, Nat.le_refl _, by simpa [lenL_nil] using hr, fun h => by simp at h⟩
  | h1 l h ih =>
    intro r hr
    have hp := rn_pos h
    rw [pcs_cons h, cutF]
    simp only
    have hpk : pkd (rn l) = if rn l < 4 then rn l else 5 := rfl
    split
    · rename_i hb
      refine ⟨(min r (min (rn l : Int) 3)).toNat, by omega, by omega, ?_, fun _ => ?_⟩
      · rw [lenL_take, if_pos (by omega)]; unfold pkd; split <;> omega
      · rw [lenL_take, if_pos (by split at hpk <;> omega)]; unfold pkd; split at hpk <;> split <;> omega
    · rename_i hb
      obtain ⟨k, h1, h2, h3, h4⟩ := ih (r - pkd (rn l)) (by omega)
      rw [List.length_drop] at h2 h4
      refine ⟨rn l + k, by rw [h1]; omega, by omega, ?_, fun hk => ?_⟩
      · rw [lenL_take]
        split
        · have := pkd_mono (show rn l + k ≤ rn l by omega); omega
        · rw [Nat.add_sub_cancel_left]; omega
      · rw [lenL_take, if_neg (by omega), show rn l + k + 1 - rn l = k + 1 by omega]
        have := h4 (by omega)
        omega
theorem cut_uniq {l : List UInt8} {r : Int} (hr : 0 ≤ r) {k : Nat} (h1 : k ≤ l.length) (h2 : (lenL (l.take k) : Int) ≤ r) (h3 : k < l.length → r < (lenL (l.take (k + 1)) : Int)) : cutF (pcs l) r = (k : Int) := by
  obtain ⟨j, e, j1, j2, j3⟩ := cut_spec l r hr
  rw [e]
  rcases Nat.lt_trichotomy j k with h | h | h
  · have := len_mono l (j + 1) k (by omega)
    have := j3 (by omega)
    omega
  · rw [h]
  · have := len_mono l (k + 1) j (by omega)
    have := h3 (by omega)
    omega
/-- counts undone -/
def okS (row : Nat) (last : UInt8) (l : List UInt8) : Prop := row < 4 ∧ (row = 0 ∨ l = [] ∨ l.getD 0 0 ≠ last)
theorem rep_on (b : UInt8) (m : List UInt8) : ∀ (i j : Nat), 1 ≤ j → j + i ≤ 4 → repS j b (List.replicate i b ++ m) = List.replicate i (b, 1) ++ repS (j + i) b m ∧ stR j b (List.replicate i b ++ m) = stR (j + i) b m
  | 0, j, _, _ => by simp
  | i + 1, j, h1, h2 => by
    obtain ⟨h3, h4⟩ := rep_on b m i (j + 1) (by omega) (by omega)
    have e1 : ∀ X, repS j b (b :: X) = (b, 1) :: repS (j + 1) b X := fun X => by rw [repS, if_neg (by omega), if_pos ⟨by omega, rfl⟩]
    have e2 : ∀ X, stR j b (b :: X) = stR (j + 1) b X := fun X => by rw [stR, if_neg (by omega), if_pos ⟨by omega, rfl⟩]
    rw [List.replicate_succ, List.cons_append, e1, e2, h3, h4, show j + 1 + i = j + (i + 1) by omega, List.replicate_succ]
    exact ⟨rfl, rfl⟩
theorem rep_first {b : UInt8} {m : List UInt8} {row : Nat} {last : UInt8} {n : Nat} (h : row < 4) (hb : row = 0 ∨ b ≠ last) (h1 : 1 ≤ n) (h4 : n ≤ 4) : repS row last (List.replicate n b ++ m) = List.replicate n (b, 1) ++ repS n b m ∧ stR row last (List.replicate n b ++ m) = stR n b m := by
  obtain ⟨n, rfl⟩ : ∃ k, n = k + 1 := ⟨n - 1, by omega⟩
  obtain ⟨h3, h5⟩ := rep_on b m n 1 (by omega) (by omega)
  have hn : ¬ (0 < row ∧ b = last) := fun ⟨h6, h7⟩ => by rcases hb with hb | hb; (· omega); (· exact hb h7)
  have e1 : ∀ X, repS row last (b :: X) = (b, 1) :: repS 1 b X := fun X => by rw [repS, if_neg (by omega), if_neg hn]
  have e2 : ∀ X, stR row last (b :: X) = stR 1 b X := fun X => by rw [stR, if_neg (by omega), if_neg hn]
  rw [List.replicate_succ, List.cons_append, e1, e2, h3, h5, show 1 + n = n + 1 by omega, List.replicate_succ]
  exact ⟨rfl, rfl⟩
theorem expI_app (a b : List (UInt8 × Int)) : expI (a ++ b) = expI a ++ expI b := by unfold expI; rw [List.flatMap_append]
theorem expI_ones (b : UInt8) : ∀ n, expI (List.replicate n (b, 1)) = List.replicate n b
  | 0 => rfl
  | n + 1 => by
    have := expI_ones b n
    unfold expI at this ⊢
    rw [List.replicate_succ, List.flatMap_cons, this, List.replicate_succ]; rfl
theorem u8_toNat {n : Int} (h : 0 ≤ n ∧ n < 256) : ((u8 n).toNat : Int) = n := by
  unfold u8
  rw [UInt8.toNat_ofNat', Nat.mod_eq_of_lt (by omega)]; omega
theorem rn_stop {l : List UInt8} (h : l ≠ []) (hn : rn l < 255) : l.drop (rn l) = [] ∨ (l.drop (rn l)).getD 0 0 ≠ l.getD 0 0 := by
  have hp := rn_pos h
  by_cases e : rn l = l.length
  · exact .inl (List.drop_eq_nil_of_le (by omega))
  · right
    intro h2
    have := (rn_step (l := l) (m := rn l) hp.1 (Nat.le_refl _)).1 ⟨hn, by omega, by
      rw [← h2]; simp [List.getD_eq_getElem?_getD, List.getElem?_drop]⟩
    omega
theorem unp (l : List UInt8) : ∀ (row : Nat) (last : UInt8), okS row last l → expI (repS row last (packL l)) = l ∧ (stR row last (packL l)).1 ≠ 4 := by
  induction l using byPcs with
  | h0 =>
    intro row last ⟨h1, _⟩
    rw [packL_nil, repS, if_neg (by omega)]
    exact ⟨rfl, by show row ≠ 4; omega⟩
  | h1 l h ih =>
    intro row last ⟨h1, h2⟩
    have hp := rn_pos h
    have hb : row = 0 ∨ l.getD 0 0 ≠ last := by
      rcases h2 with h2 | h2 | h2
      · exact .inl h2
      · exact absurd h2 h
      · exact .inr h2
    have htk := take_rn l
    rw [packL_cons h, encP]
    simp only
    by_cases h4 : 4 ≤ rn l
    · rw [if_pos h4, Nat.min_eq_right h4, List.append_assoc]
      obtain ⟨h5, h6⟩ := rep_first (m := [u8 ((rn l : Int) - 4)] ++ packL (l.drop (rn l))) h1 hb (n := 4) (by omega) (by omega)
      obtain ⟨h7, h8⟩ := ih 0 (l.getD 0 0) ⟨by omega, .inl rfl⟩
      rw [h5, h6, List.singleton_append, repS, stR, if_pos rfl, if_pos rfl, expI_app, expI_ones]
      refine ⟨?_, h8⟩
      rw [expI, List.flatMap_cons, ← expI, h7, u8_toNat (by omega)]
      simp only
      rw [← List.append_assoc, List.replicate_append_replicate, show 4 + ((rn l : Int) - 4).toNat = rn l by omega, ← htk, List.take_append_drop]
    · rw [if_neg h4, Nat.min_eq_left (by omega), List.append_nil]
      obtain ⟨h5, h6⟩ := rep_first (m := packL (l.drop (rn l))) h1 hb (n := rn l) (by omega) (by omega)
      obtain ⟨h7, h8⟩ := ih (rn l) (l.getD 0 0) ⟨by omega, .inr (rn_stop h (by omega))⟩
      rw [h5, h6, expI_app, expI_ones, h7, ← htk, List.take_append_drop]
      exact ⟨rfl, h8⟩
theorem unpack_pack (l : List UInt8) : expI (reps (packL l)) = l ∧ ¬ lack (packL l) := by
  obtain ⟨h1, h2⟩ := unp l 0 0 ⟨by omega, .inl rfl⟩
  refine ⟨h1, fun h => h2 ?_⟩
  unfold lack stA at h
  rwa [List.take_length] at h
theorem pack_inj {a b : List UInt8} (h : packL a = packL b) : a = b := by
  rw [← (unpack_pack a).1, h, (unpack_pack b).1]
theorem sumI_len (l : List UInt8) (hn : ¬ lack l) : sumI (reps l) = ((expI (reps l)).length : Int) := by
  have key : ∀ r : List (UInt8 × Int), (∀ p ∈ r, 0 ≤ p.2) → sumI r = ((expI r).length : Int) := by
    intro r
    induction r with
    | nil => intro _; rfl
    | cons p r ih =>
      intro h
      have h1 := ih (fun q hq => h q (by simp [hq]))
      have h2 := h p (by simp)
      unfold sumI expI at h1 ⊢
      rw [List.map_cons, List.sum_cons, List.flatMap_cons, List.length_append, List.length_replicate, h1]; omega
  refine key _ fun p hp => ?_
  obtain ⟨i, hi, rfl⟩ := List.mem_iff_getElem.1 hp
  have hr := reps_len l
  rw [if_neg (show ¬ (stA l l.length).1 = 4 from hn)] at hr
  have := (reps_ge (l := l) (i := i) (by omega)).1
  rwa [List.getD_eq_getElem?_getD, List.getElem?_eq_getElem hi] at this
/-- how long what is told is -/
theorem exp_hi (l : List UInt8) : ∀ (row : Nat) (last : UInt8), row ≤ 4 → 5 * (expI (repS row last l)).length ≤ 259 * l.length + 254 * row := by
  induction l with
  | nil => intro row last _; rw [repS]; split <;> simp [expI, lackI]
  | cons c l ih =>
    intro row last h
    rw [repS]
    have hc := c.toNat_lt
    have ex : ∀ (p : UInt8 × Int) r, (expI (p :: r)).length = p.2.toNat + (expI r).length := fun p r => by unfold expI; rw [List.flatMap_cons, List.length_append, List.length_replicate]
    split
    · have := ih 0 last (by omega)
      rw [ex, List.length_cons]; simp only; omega
    · split
      · have := ih (row + 1) last (by omega)
        rw [ex, List.length_cons]; simp only; omega
      · have := ih 1 c (by omega)
        rw [ex, List.length_cons]; simp only; omega
theorem exp_lo (l : List UInt8) : ∀ (row : Nat) (last : UInt8), row ≤ 4 → 4 * l.length ≤ 5 * (expI (repS row last l)).length + row := by
  induction l with
  | nil => intro row last _; simp
  | cons c l ih =>
    intro row last h
    rw [repS]
    have ex : ∀ (p : UInt8 × Int) r, (expI (p :: r)).length = p.2.toNat + (expI r).length := fun p r => by unfold expI; rw [List.flatMap_cons, List.length_append, List.length_replicate]
    split
    · have := ih 0 last (by omega)
      rw [ex, List.length_cons]; simp only; omega
    · split
      · have := ih (row + 1) last (by omega)
        rw [ex, List.length_cons]; simp only; omega
      · have := ih 1 c (by omega)
        rw [ex, List.length_cons]; simp only; omega
theorem len_hi (l : List UInt8) : 4 * lenL l ≤ 5 * l.length ∧ 5 * l.length ≤ 255 * lenL l := by
  induction l using byPcs with
  | h0 => simp [lenL_nil]
  | h1 l h ih =>
    have hp := rn_pos h
    rw [lenL_cons h]
    rw [List.length_drop] at ih
    have hpk : pkd (rn l) = if rn l < 4 then rn l else 5 := rfl
    split at hpk <;> omega
/-- a run's length, from what it is -/
theorem rn_uniq {l : List UInt8} {m : Nat} (h0 : l ≠ []) (h1 : 1 ≤ m) (h2 : m ≤ 255) (h3 : m ≤ l.length) (h4 : ∀ i, i < m → l.getD i 0 = l.getD 0 0) (h5 : m = 255 ∨ m = l.length ∨ l.getD m 0 ≠ l.getD 0 0) : rn l = m := by
  have hp := rn_pos h0
  rcases Nat.lt_trichotomy m (rn l) with h | h | h
  · have := (rn_step (l := l) (m := m) h1 (by omega)).2 h
    rcases h5 with h5 | h5 | h5
    · omega
    · omega
    · exact absurd this.2.2 h5
  · exact h.symm
  · have := (rn_step (l := l) (m := rn l) hp.1 (Nat.le_refl _)).1 ⟨by omega, by omega, h4 _ h⟩
    omega
theorem getD_app_l {a b : List UInt8} {i : Nat} (h : i < a.length) : (a ++ b).getD i 0 = a.getD i 0 := by
  rw [List.getD_eq_getElem?_getD, List.getD_eq_getElem?_getD, List.getElem?_append_left h]
theorem getD_app_r {a b : List UInt8} {i : Nat} (h : a.length ≤ i) : (a ++ b).getD i 0 = b.getD (i - a.length) 0 := by
  rw [List.getD_eq_getElem?_getD, List.getD_eq_getElem?_getD, List.getElem?_append_right h]
theorem getD_drop' {a : List UInt8} {i j : Nat} : (a.drop i).getD j 0 = a.getD (i + j) 0 := by
  simp [List.getD_eq_getElem?_getD, List.getElem?_drop]
theorem ne_nil_of {l : List UInt8} (h : 0 < l.length) : l ≠ [] := fun e => by subst e; simp at h
theorem len_of_ne {l : List UInt8} (h : l ≠ []) : 0 < l.length := List.length_pos_iff.2 h
theorem rn_app {a b : List UInt8} (h : a ≠ []) (hj : rn a < a.length ∨ rn a = 255 ∨ b = [] ∨ a.getD (a.length - 1) 0 ≠ b.getD 0 0) : rn (a ++ b) = rn a := by
  have hp := rn_pos h
  have h0 := len_of_ne h
  refine rn_uniq (by simp [h]) hp.1 hp.2.2 (by rw [List.length_append]; omega) (fun i hi => ?_) ?_
  · rw [getD_app_l (by omega), getD_app_l h0, rn_at hi]
  · by_cases e5 : rn a = 255
    · exact .inl e5
    · by_cases e : rn a = a.length
      · rcases hj with hj | hj | hj | hj
        · omega
        · exact absurd hj e5
        · subst hj; rw [List.append_nil]; exact .inr (.inl e)
        · right; right
          rw [e, getD_app_r (Nat.le_refl _), getD_app_l h0, Nat.sub_self]
          rw [rn_at (show a.length - 1 < rn a by omega)] at hj
          exact fun h => hj h.symm
      · right; right
        rw [getD_app_l (by omega), getD_app_l h0]
        rcases rn_stop h (by omega) with h6 | h6
        · have := congrArg List.length h6
          rw [List.length_drop] at this; simp at this; omega
        · rwa [getD_drop', Nat.add_zero] at h6
theorem pcs_app (a b : List UInt8) : (a = [] ∨ b = [] ∨ a.getD (a.length - 1) 0 ≠ b.getD 0 0) → pcs (a ++ b) = pcs a ++ pcs b := by
  induction a using byPcs with
  | h0 => intro _; rfl
  | h1 a h ih =>
    intro hj
    have hp := rn_pos h
    have hr : rn (a ++ b) = rn a := rn_app h (by
      rcases hj with hj | hj | hj
      · exact absurd hj h
      · exact .inr (.inr (.inl hj))
      · exact .inr (.inr (.inr hj)))
    rw [pcs_cons (by simp [h]), pcs_cons h, hr, getD_app_l (len_of_ne h), List.drop_append_of_le_length (by omega), List.cons_append, ih]
    by_cases e : a.drop (rn a) = []
    · exact .inl e
    · rcases hj with hj | hj | hj
      · exact absurd hj h
      · exact .inr (.inl hj)
      · right; right
        have hl := len_of_ne e
        rw [List.length_drop] at hl
        rw [getD_drop', List.length_drop, show rn a + (a.length - rn a - 1) = a.length - 1 by omega]
        exact hj
theorem packL_app {a b : List UInt8} (h : a = [] ∨ b = [] ∨ a.getD (a.length - 1) 0 ≠ b.getD 0 0) : packL (a ++ b) = packL a ++ packL b := by
  unfold packL; rw [pcs_app a b h, List.flatMap_append]
theorem lenL_app {a b : List UInt8} (h : a = [] ∨ b = [] ∨ a.getD (a.length - 1) 0 ≠ b.getD 0 0) : lenL (a ++ b) = lenL a + lenL b := by
  unfold lenL; rw [pcs_app a b h, sumP_app]
/-- a run of any length -/
def fR (m : Nat) : Nat := 5 * (m / 255) + if m % 255 < 4 then m % 255 else 5
theorem rep_get {c : UInt8} {m i : Nat} {l : List UInt8} (h : i < m) : (List.replicate m c ++ l).getD i 0 = c := by
  rw [getD_app_l (by simpa using h), List.getD_eq_getElem?_getD, List.getElem?_replicate, if_pos h]; rfl
theorem rn_rep {c : UInt8} {m : Nat} {l : List UInt8} (h : 1 ≤ m) (hl : l = [] ∨ l.getD 0 0 ≠ c) : rn (List.replicate m c ++ l) = min m 255 := by
  refine rn_uniq (by intro e; have := congrArg List.length e; simp at this; omega) (by omega) (by omega) (by simp; omega) (fun i hi => by rw [rep_get (by omega), rep_get (by omega)]) ?_
  by_cases h2 : 255 ≤ m
  · left; omega
  · right
    rw [Nat.min_eq_left (by omega)]
    rcases hl with hl | hl
    · left; subst hl; simp
    · right
      rw [getD_app_r (by simp), rep_get (by omega)]
      simpa using hl
theorem lenL_rep (c : UInt8) (l : List UInt8) (hl : l = [] ∨ l.getD 0 0 ≠ c) : ∀ m, lenL (List.replicate m c ++ l) = fR m + lenL l := by
  intro m
  induction m using Nat.strongRecOn with
  | _ m ih =>
    by_cases h0 : m = 0
    · subst h0; simp [fR]
    · rw [lenL_cons (by intro e; have := congrArg List.length e; simp at this; omega), rn_rep (by omega) hl]
      by_cases h2 : 255 ≤ m
      · rw [Nat.min_eq_right h2, List.drop_append_of_le_length (by simpa using h2), List.drop_replicate, ih (m - 255) (by omega), show pkd 255 = 5 from rfl]
        unfold fR
        split <;> split <;> omega
      · rw [Nat.min_eq_left (by omega), List.drop_append_of_le_length (by simp), List.drop_replicate, Nat.sub_self, List.replicate_zero, List.nil_append]
        unfold fR pkd
        split <;> split <;> omega
theorem split_run (c : UInt8) : ∀ l : List UInt8, ∃ m r, l = List.replicate m c ++ r ∧ (r = [] ∨ r.getD 0 0 ≠ c)
  | [] => ⟨0, [], rfl, .inl rfl⟩
  | b :: l => by
    by_cases e : b = c
    · obtain ⟨m, r, h1, h2⟩ := split_run c l
      exact ⟨m + 1, r, by rw [List.replicate_succ, List.cons_append, ← h1, e], h2⟩
    · exact ⟨0, b :: l, rfl, .inr (by simpa using e)⟩
theorem len_cat (a b : List UInt8) : lenL (a ++ b) ≤ lenL a + lenL b + 1 ∧ lenL b ≤ lenL (a ++ b) := by
  induction a using byPcs with
  | h0 => rw [List.nil_append, lenL_nil]; omega
  | h1 a h ih =>
    have hp := rn_pos h
    by_cases e : rn a < a.length ∨ rn a = 255
    · have hr : rn (a ++ b) = rn a := rn_app h (by rcases e with e | e; (· exact .inl e); (· exact .inr (.inl e)))
      rw [lenL_cons (show a ++ b ≠ [] by simp [h]), hr, List.drop_append_of_le_length (by omega), lenL_cons h]
      omega
    · have he : rn a = a.length := by omega
      have ha : a = List.replicate a.length (a.getD 0 0) := by
        have := take_rn a
        rwa [he, List.take_length] at this
      obtain ⟨m, r, h1, h2⟩ := split_run (a.getD 0 0) b
      have e1 : lenL a = fR a.length := by
        have := lenL_rep (a.getD 0 0) [] (.inl rfl) a.length
        rwa [List.append_nil, ← ha, lenL_nil] at this
      have e2 : lenL b = fR m + lenL r := by rw [h1]; exact lenL_rep _ _ h2 m
      have e3 : lenL (a ++ b) = fR (a.length + m) + lenL r := by
        have e4 : a ++ (List.replicate m (a.getD 0 0) ++ r) = List.replicate (a.length + m) (a.getD 0 0) ++ r := by
          rw [← List.append_assoc, ← List.replicate_append_replicate]
          exact congrArg (fun z => z ++ List.replicate m (a.getD 0 0) ++ r) ha
        rw [h1, e4]
        exact lenL_rep _ _ h2 _
      rw [e1, e2, e3]
      have hlt : a.length < 255 := by omega
      unfold fR
      split <;> split <;> split <;> omega
theorem len_one (c : UInt8) (k : Nat) : lenL (List.replicate k c) = fR k := by
  have := lenL_rep c [] (.inl rfl) k
  rwa [List.append_nil, lenL_nil] at this
end Rl
end Go.Proofs.Ytmilegikgbmjpaa
