/-
  MATHS of stage 4: pieces of a text, and what a packed text tells.
-/
import Derived.Test.YtmilegikgbmjpaaAbz
namespace Go.Proofs.Ytmilegikgbmjpaa
namespace Rl
/-- how many of a row's beginning are one byte, at most so many -/
def runC (b : UInt8) : Nat → List UInt8 → Nat
  | 0, _ => 0
  | _ + 1, [] => 0
  | m + 1, c :: l => if c = b then runC b m l + 1 else 0
def rn : List UInt8 → Nat
  | [] => 0
  | b :: l => runC b 254 l + 1
theorem runC_le (b : UInt8) : ∀ (m : Nat) (l : List UInt8), runC b m l ≤ m ∧ runC b m l ≤ l.length
  | 0, _ => by simp [runC]
  | m + 1, [] => by simp [runC]
  | m + 1, c :: l => by
    have := runC_le b m l
    rw [runC]; split <;> simp <;> omega
theorem runC_at (b : UInt8) : ∀ (m : Nat) (l : List UInt8) (k : Nat), k < runC b m l → l.getD k 0 = b
  | 0, _, k, h => by simp [runC] at h
  | m + 1, [], k, h => by simp [runC] at h
  | m + 1, c :: l, k, h => by
    rw [runC] at h
    split at h
    · rename_i e
      cases k with
      | zero => simpa using e
      | succ k => simpa using runC_at b m l k (by omega)
    · omega
theorem runC_end (b : UInt8) : ∀ (m : Nat) (l : List UInt8), runC b m l < m → runC b m l < l.length → l.getD (runC b m l) 0 ≠ b
  | 0, _, h, _ => by omega
  | m + 1, [], _, h => by simp at h
  | m + 1, c :: l, h, h2 => by
    by_cases e : c = b
    · rw [runC, if_pos e] at h h2 ⊢
      simpa using runC_end b m l (by omega) (by simpa using h2)
    · rw [runC, if_neg e]; simpa using e
theorem rn_pos {l : List UInt8} (h : l ≠ []) : 1 ≤ rn l ∧ rn l ≤ l.length ∧ rn l ≤ 255 := by
  cases l with
  | nil => exact absurd rfl h
  | cons b l =>
    have := runC_le b 254 l
    simp only [rn, List.length_cons]; omega
theorem rn_at {l : List UInt8} {m : Nat} (h : m < rn l) : l.getD m 0 = l.getD 0 0 := by
  cases l with
  | nil => rfl
  | cons b l =>
    cases m with
    | zero => rfl
    | succ m =>
      have := runC_at b 254 l m (by simp only [rn] at h; omega)
      simpa using this
theorem rn_step {l : List UInt8} {m : Nat} (h1 : 1 ≤ m) (h2 : m ≤ rn l) : (m < 255 ∧ m < l.length ∧ l.getD m 0 = l.getD 0 0) ↔ m < rn l := by
  constructor
  · intro ⟨h3, h4, h5⟩
    apply Classical.byContradiction
    intro h6
    have e : m = rn l := by omega
    cases l with
    | nil => simp at h4
    | cons b l =>
      obtain ⟨m, rfl⟩ : ∃ k, m = k + 1 := ⟨m - 1, by omega⟩
      simp only [rn] at e
      have e2 : m = runC b 254 l := by omega
      have h5 : l.getD m 0 = b := by simpa using h5
      have h4 : m < l.length := by simpa using h4
      subst e2
      exact runC_end b 254 l (by omega) h4 h5
  · intro h3
    have hl : l ≠ [] := fun e => by subst e; simp [rn] at h3
    have := rn_pos hl
    exact ⟨by omega, by omega, rn_at h3⟩
def pcsF : Nat → List UInt8 → List (UInt8 × Nat)
  | 0, _ => []
  | _ + 1, [] => []
  | f + 1, b :: l => (b, rn (b :: l)) :: pcsF f ((b :: l).drop (rn (b :: l)))
def pcs (l : List UInt8) : List (UInt8 × Nat) := pcsF l.length l
theorem pcsF_eq : ∀ (f g : Nat) (l : List UInt8), l.length ≤ f → l.length ≤ g → pcsF f l = pcsF g l
  | 0, 0, _, _, _ => rfl
  | 0, g + 1, l, h, _ => by
    have : l = [] := List.length_eq_zero_iff.1 (by omega)
    subst this; rfl
  | f + 1, 0, l, _, h => by
    have : l = [] := List.length_eq_zero_iff.1 (by omega)
    subst this; rfl
  | f + 1, g + 1, [], _, _ => rfl
  | f + 1, g + 1, b :: l, h1, h2 => by
    have := rn_pos (l := b :: l) (by simp)
    rw [pcsF, pcsF, pcsF_eq f g _ (by rw [List.length_drop]; omega) (by rw [List.length_drop]; omega)]
theorem pcs_nil : pcs [] = [] := rfl
theorem pcs_cons {l : List UInt8} (h : l ≠ []) : pcs l = (l.getD 0 0, rn l) :: pcs (l.drop (rn l)) := by
  cases l with
  | nil => exact absurd rfl h
  | cons b l =>
    have := rn_pos (l := b :: l) (by simp)
    rw [pcs, List.length_cons, pcsF, pcs, pcsF_eq l.length _ _ (by rw [List.length_drop, List.length_cons]; simp at this; omega) (Nat.le_refl _)]
    rfl
/-- induction over the pieces -/
theorem byPcs {M : List UInt8 → Prop} (h0 : M []) (h1 : ∀ l, l ≠ [] → M (l.drop (rn l)) → M l) (l : List UInt8) : M l := by
  suffices H : ∀ n (l : List UInt8), l.length ≤ n → M l from H l.length l (Nat.le_refl _)
  intro n
  induction n with
  | zero =>
    intro l hl
    have : l = [] := List.length_eq_zero_iff.1 (by omega)
    subst this; exact h0
  | succ n ih =>
    intro l hl
    by_cases e : l = []
    · subst e; exact h0
    · have := rn_pos e
      exact h1 l e (ih _ (by rw [List.length_drop]; omega))
theorem take_rn (l : List UInt8) : l.take (rn l) = List.replicate (rn l) (l.getD 0 0) := by
  by_cases e : l = []
  · subst e; rfl
  · have hp := rn_pos e
    apply List.ext_getElem
    · rw [List.length_take, List.length_replicate]; omega
    · intro i h1 h2
      rw [List.length_replicate] at h2
      have := rn_at h2
      rw [List.getElem_take, List.getElem_replicate, ← this, List.getD_eq_getElem?_getD, List.getElem?_eq_getElem (by omega)]; rfl
theorem pcs_len (l : List UInt8) : (pcs l).length ≤ l.length := by
  induction l using byPcs with
  | h0 => simp [pcs_nil]
  | h1 l h ih =>
    have := rn_pos h
    rw [pcs_cons h, List.length_cons]
    rw [List.length_drop] at ih; omega
theorem pcs_at {l : List UInt8} {a k : Nat} (ha : a < l.length) (h : pcs (l.drop a) = (pcs l).drop k) : k < (pcs l).length ∧ (pcs l).getD k (0, 0) = (l.getD a 0, rn (l.drop a)) ∧ pcs (l.drop (a + rn (l.drop a))) = (pcs l).drop (k + 1) := by
  have hne : l.drop a ≠ [] := fun e => by
    have := congrArg List.length e
    rw [List.length_drop] at this; simp at this; omega
  have h0 : (l.drop a).getD 0 0 = l.getD a 0 := by simp [List.getD_eq_getElem?_getD, List.getElem?_drop]
  rw [pcs_cons hne, h0, List.drop_drop] at h
  have hk : k < (pcs l).length := by
    have := congrArg List.length h
    rw [List.length_drop] at this; simp at this; omega
  refine ⟨hk, ?_, ?_⟩
  · have := congrArg (fun m : List (UInt8 × Nat) => m[0]?) h
    simp only [List.getElem?_cons_zero, List.getElem?_drop, Nat.add_zero] at this
    rw [List.getD_eq_getElem?_getD, ← this]; rfl
  · have := congrArg (fun m : List (UInt8 × Nat) => m.drop 1) h
    simp only [List.drop_succ_cons, List.drop_zero, List.drop_drop] at this
    exact this
theorem pcs_end {l : List UInt8} {a k : Nat} (ha : l.length ≤ a) (h : pcs (l.drop a) = (pcs l).drop k) : (pcs l).length ≤ k := by
  rw [List.drop_eq_nil_of_le ha, pcs_nil] at h
  exact List.drop_eq_nil_iff.1 h.symm
theorem pcs_rn {l : List UInt8} : ∀ p ∈ pcs l, 1 ≤ p.2 ∧ p.2 ≤ 255 := by
  induction l using byPcs with
  | h0 => intro p hp; cases hp
  | h1 l h ih =>
    intro p hp
    rw [pcs_cons h] at hp
    rcases List.mem_cons.1 hp with rfl | hp
    · have := rn_pos h; exact ⟨this.1, this.2.2⟩
    · exact ih p hp
theorem pcs_getD {l : List UInt8} {k : Nat} (hk : k < (pcs l).length) : 1 ≤ ((pcs l).getD k (0, 0)).2 ∧ ((pcs l).getD k (0, 0)).2 ≤ 255 := by
  refine pcs_rn (l := l) _ ?_
  rw [List.getD_eq_getElem?_getD, List.getElem?_eq_getElem hk]
  exact List.getElem_mem hk
/-- the bytes of pieces -/
def ext (ps : List (UInt8 × Nat)) : List UInt8 := ps.flatMap fun p => List.replicate p.2 p.1
theorem ext_pcs (l : List UInt8) : ext (pcs l) = l := by
  induction l using byPcs with
  | h0 => rfl
  | h1 l h ih =>
    rw [pcs_cons h, ext, List.flatMap_cons, ← ext, ih]
    show List.replicate (rn l) (l.getD 0 0) ++ _ = l
    rw [← take_rn, List.take_append_drop]
/-- a piece, packed -/
def u8 (n : Int) : UInt8 := UInt8.ofNat n.toNat
def encP (p : UInt8 × Nat) : List UInt8 := List.replicate (min p.2 4) p.1 ++ if 4 ≤ p.2 then [u8 ((p.2 : Int) - 4)] else []
def packL (l : List UInt8) : List UInt8 := (pcs l).flatMap encP
def pkd (n : Nat) : Nat := if n < 4 then n else 5
theorem enc_len (p : UInt8 × Nat) : (encP p).length = pkd p.2 := by
  unfold encP pkd
  split <;> split <;> simp <;> omega
def sumP (ps : List (UInt8 × Nat)) : Nat := (ps.map fun p => pkd p.2).sum
theorem pack_len (ps : List (UInt8 × Nat)) : (ps.flatMap encP).length = sumP ps := by
  induction ps with
  | nil => rfl
  | cons p ps ih => rw [List.flatMap_cons, List.length_append, ih, enc_len, sumP, sumP, List.map_cons, List.sum_cons]
theorem take_succ_map {α β : Type} (_f : α → β) (l : List α) (d : α) {k : Nat} (h : k < l.length) : l.take (k + 1) = l.take k ++ [l.getD k d] := by
  rw [List.take_succ_eq_append_getElem h, List.getD_eq_getElem?_getD, List.getElem?_eq_getElem h]; rfl
theorem flat_succ {α β : Type} (f : α → List β) (l : List α) (d : α) {k : Nat} (h : k < l.length) : (l.take (k + 1)).flatMap f = (l.take k).flatMap f ++ f (l.getD k d) := by
  rw [take_succ_map f l d h, List.flatMap_append]; simp
theorem sumP_succ (l : List (UInt8 × Nat)) {k : Nat} (h : k < l.length) : sumP (l.take (k + 1)) = sumP (l.take k) + pkd (l.getD k (0, 0)).2 := by
  rw [take_succ_map id l (0, 0) h, sumP, List.map_append, List.sum_append]; simp [sumP]
theorem sumP_le (l : List (UInt8 × Nat)) : sumP l ≤ 5 * l.length := by
  induction l with
  | nil => simp [sumP]
  | cons p l ih =>
    rw [sumP, List.map_cons, List.sum_cons, ← sumP, List.length_cons]
    have : pkd p.2 ≤ 5 := by unfold pkd; split <;> omega
    omega
/-- how much has room -/
def cutF : List (UInt8 × Nat) → Int → Int
  | [], _ => 0
  | p :: ps, r => if (pkd p.2 : Int) > r then max 0 (min r (min (p.2 : Int) 3)) else (p.2 : Int) + cutF ps (r - pkd p.2)
/-- room, cut, and what was answered -/
def cutS (ps : List (UInt8 × Nat)) (r : Int) : Nat → Int × Int × Int
  | 0 => (r, 0, 0)
  | k + 1 => if (pkd (ps.getD k (0, 0)).2 : Int) > (cutS ps r k).1 then ((cutS ps r k).1, (cutS ps r k).2.1, (cutS ps r k).2.1 + max 0 (min (cutS ps r k).1 (min ((ps.getD k (0, 0)).2 : Int) 3)))
    else ((cutS ps r k).1 - pkd (ps.getD k (0, 0)).2, (cutS ps r k).2.1 + ((ps.getD k (0, 0)).2 : Int), 0)
def goC (ps : List (UInt8 × Nat)) (r : Int) (k : Nat) : Bool := !decide ((pkd (ps.getD k (0, 0)).2 : Int) > (cutS ps r k).1)
theorem cutS_y {ps : List (UInt8 × Nat)} {r : Int} {k : Nat} (h : goC ps r k = true) : cutS ps r (k + 1) = ((cutS ps r k).1 - pkd (ps.getD k (0, 0)).2, (cutS ps r k).2.1 + ((ps.getD k (0, 0)).2 : Int), 0) := by
  rw [cutS, if_neg (by simpa [goC] using h)]
theorem cutS_n {ps : List (UInt8 × Nat)} {r : Int} {k : Nat} (h : goC ps r k = false) : cutS ps r (k + 1) = ((cutS ps r k).1, (cutS ps r k).2.1, (cutS ps r k).2.1 + max 0 (min (cutS ps r k).1 (min ((ps.getD k (0, 0)).2 : Int) 3))) := by
  rw [cutS, if_pos (by simpa [goC] using h)]
theorem drop_getD {α : Type} (l : List α) (d : α) {k : Nat} (h : k < l.length) : l.drop k = l.getD k d :: l.drop (k + 1) := by
  rw [List.drop_eq_getElem_cons h, List.getD_eq_getElem?_getD, List.getElem?_eq_getElem h]; rfl
theorem cut_at {ps : List (UInt8 × Nat)} {r : Int} : ∀ (k : Nat), k ≤ ps.length → (∀ j, j < k → goC ps r j = true) → cutF ps r = (cutS ps r k).2.1 + cutF (ps.drop k) (cutS ps r k).1
  | 0, _, _ => by simp [cutS]
  | k + 1, hk, h => by
    have ih := cut_at k (by omega) (fun j hj => h j (by omega))
    have hg := h k (by omega)
    rw [ih, drop_getD ps (0, 0) (show k < ps.length by omega), cutF, if_neg (by simpa [goC] using hg), cutS_y hg]
    simp only; omega
theorem cut_end {ps : List (UInt8 × Nat)} {r : Int} (h : ∀ j, j < ps.length → goC ps r j = true) : cutF ps r = (cutS ps r ps.length).2.1 := by
  rw [cut_at ps.length (Nat.le_refl _) h, List.drop_length, cutF]; omega
theorem cut_stop {ps : List (UInt8 × Nat)} {r : Int} {k : Nat} (hk : k < ps.length) (h : ∀ j, j < k → goC ps r j = true) (hg : goC ps r k = false) : cutF ps r = (cutS ps r (k + 1)).2.2 := by
  rw [cut_at k (by omega) h, drop_getD ps (0, 0) hk, cutF, if_pos (by simpa [goC] using hg), cutS_n hg]
theorem cutS_bd {l : List UInt8} {r : Int} (hr : -9223372036854775808 ≤ r ∧ r ≤ 9223372036854775807) : ∀ (k : Nat), (∀ j, j < k → goC (pcs l) r j = true) → k ≤ (pcs l).length → -9223372036854775808 ≤ (cutS (pcs l) r k).1 ∧ (cutS (pcs l) r k).1 ≤ 9223372036854775807 ∧ 0 ≤ (cutS (pcs l) r k).2.1 ∧ (cutS (pcs l) r k).2.1 ≤ 255 * k ∧ (0 < k → 0 ≤ (cutS (pcs l) r k).1) ∧ (cutS (pcs l) r k).2.2 = 0
  | 0, _, _ => by simp [cutS]; omega
  | k + 1, h, hk => by
    have ih := cutS_bd hr k (fun j hj => h j (by omega)) (by omega)
    have hg := h k (by omega)
    have hp := pcs_getD (l := l) (k := k) (by omega)
    have hg2 : ¬ ((pkd ((pcs l).getD k (0, 0)).2 : Int) > (cutS (pcs l) r k).1) := by simpa [goC] using hg
    rw [cutS_y hg]
    simp only
    exact ⟨by omega, by omega, by omega, by omega, fun _ => by omega, trivial⟩
/-- what a packed text tells: the byte, and how often; behind how many the same -/
def lackI : Int := -9223372036854775808
def repS : Nat → UInt8 → List UInt8 → List (UInt8 × Int)
  | row, last, [] => if row = 4 then [(last, lackI)] else []
  | row, last, c :: l => if row = 4 then (last, (c.toNat : Int)) :: repS 0 last l else if 0 < row ∧ c = last then (last, 1) :: repS (row + 1) last l else (c, 1) :: repS 1 c l
def stR (row : Nat) (last : UInt8) : List UInt8 → Nat × UInt8
  | [] => (row, last)
  | c :: l => if row = 4 then stR 0 last l else if 0 < row ∧ c = last then stR (row + 1) last l else stR 1 c l
def reps (l : List UInt8) : List (UInt8 × Int) := repS 0 0 l
def stA (l : List UInt8) (i : Nat) : Nat × UInt8 := stR 0 0 (l.take i)
theorem stR_app (l m : List UInt8) : ∀ (row : Nat) (last : UInt8), stR row last (l ++ m) = stR (stR row last l).1 (stR row last l).2 m := by
  induction l with
  | nil => intros; rfl
  | cons c l ih =>
    intro row last
    simp only [List.cons_append, stR]
    split
    · exact ih _ _
    · split
      · exact ih _ _
      · exact ih _ _
theorem stA_succ (l : List UInt8) {i : Nat} (h : i < l.length) : stA l (i + 1) = if (stA l i).1 = 4 then (0, (stA l i).2) else if 0 < (stA l i).1 ∧ l.getD i 0 = (stA l i).2 then ((stA l i).1 + 1, (stA l i).2) else (1, l.getD i 0) := by
  rw [stA, List.take_succ_eq_append_getElem h, stR_app, ← stA, stR, List.getD_eq_getElem?_getD, List.getElem?_eq_getElem h]
  rfl
theorem stR_le (l : List UInt8) : ∀ (row : Nat) (last : UInt8), row ≤ 4 → (stR row last l).1 ≤ 4 := by
  induction l with
  | nil => intro row last h; exact h
  | cons c l ih =>
    intro row last h
    simp only [stR]
    split
    · exact ih _ _ (by omega)
    · split
      · exact ih _ _ (by omega)
      · exact ih _ _ (by omega)
theorem stA_le (l : List UInt8) (i : Nat) : (stA l i).1 ≤ 4 := stR_le _ _ _ (by omega)
theorem repS_at (l : List UInt8) : ∀ (row : Nat) (last : UInt8) (i : Nat), i ≤ l.length → (repS row last l).drop i = repS (stR row last (l.take i)).1 (stR row last (l.take i)).2 (l.drop i) := by
  induction l with
  | nil =>
    intro row last i hi
    have : i = 0 := by simpa using hi
    subst this; rfl
  | cons c l ih =>
    intro row last i hi
    cases i with
    | zero => rfl
    | succ i =>
      have hi' : i ≤ l.length := by simpa using hi
      simp only [List.take_succ_cons, List.drop_succ_cons, stR, repS]
      split
      · simpa using ih 0 last i hi'
      · split
        · simpa using ih (row + 1) last i hi'
        · simpa using ih 1 c i hi'
theorem reps_at (l : List UInt8) {i : Nat} (hi : i ≤ l.length) : (reps l).drop i = repS (stA l i).1 (stA l i).2 (l.drop i) := repS_at l 0 0 i hi
theorem repS_len (l : List UInt8) : ∀ (row : Nat) (last : UInt8), (repS row last l).length = l.length + if (stR row last l).1 = 4 then 1 else 0 := by
  induction l with
  | nil => intro row last; simp only [repS, stR]; split <;> (rename_i e; simp [e])
  | cons c l ih =>
    intro row last
    simp only [repS, stR]
    split
    · rw [List.length_cons, ih]; simp only [List.length_cons]; omega
    · split
      · rw [List.length_cons, ih]; simp only [List.length_cons]; omega
      · rw [List.length_cons, ih]; simp only [List.length_cons]; omega
theorem reps_len (l : List UInt8) : (reps l).length = l.length + if (stA l l.length).1 = 4 then 1 else 0 := by
  rw [reps, repS_len, stA, List.take_length]
theorem reps_get (l : List UInt8) {i : Nat} (hi : i < l.length) : (reps l).getD i (0, 0) = if (stA l i).1 = 4 then ((stA l i).2, ((l.getD i 0).toNat : Int)) else if 0 < (stA l i).1 ∧ l.getD i 0 = (stA l i).2 then ((stA l i).2, 1) else (l.getD i 0, 1) := by
  have h1 := reps_at l (i := i) (by omega)
  rw [drop_getD l 0 hi] at h1
  have h2 := congrArg (fun m : List (UInt8 × Int) => m[0]?) h1
  simp only [List.getElem?_drop, Nat.add_zero, repS] at h2
  rw [List.getD_eq_getElem?_getD, h2]
  split
  · rfl
  · split <;> rfl
theorem reps_last (l : List UInt8) (h : (stA l l.length).1 = 4) : (reps l).getD l.length (0, 0) = ((stA l l.length).2, lackI) := by
  have h1 := reps_at l (i := l.length) (Nat.le_refl _)
  rw [List.drop_length, repS, if_pos h] at h1
  have h2 := congrArg (fun m : List (UInt8 × Int) => m[0]?) h1
  simp only [List.getElem?_drop, Nat.add_zero] at h2
  rw [List.getD_eq_getElem?_getD, h2]; rfl
theorem get_a {l : List UInt8} {i : Nat} (hi : i < l.length) (h : ((stA l i).1 : Int) = 4) : (reps l).getD i (0, 0) = ((stA l i).2, ((l.getD i 0).toNat : Int)) := by
  rw [reps_get l hi, if_pos (by omega)]
theorem get_b {l : List UInt8} {i : Nat} (hi : i < l.length) (h : ¬ ((stA l i).1 : Int) = 4) (h2 : 0 < ((stA l i).1 : Int) ∧ ((l.getD i 0).toNat : Int) = ((stA l i).2.toNat : Int)) : (reps l).getD i (0, 0) = ((stA l i).2, 1) := by
  rw [reps_get l hi, if_neg (by omega), if_pos ⟨by omega, UInt8.toNat_inj.1 (by omega)⟩]
theorem get_c {l : List UInt8} {i : Nat} (hi : i < l.length) (h : ¬ ((stA l i).1 : Int) = 4) (h2 : ¬ 0 < ((stA l i).1 : Int) ∨ ¬ ((l.getD i 0).toNat : Int) = ((stA l i).2.toNat : Int)) : (reps l).getD i (0, 0) = (l.getD i 0, 1) := by
  rw [reps_get l hi, if_neg (by omega), if_neg (fun h3 => by have h4 := h3.2; rw [h4] at h2; omega)]
theorem st_a {l : List UInt8} {i : Nat} (hi : i < l.length) (h : ((stA l i).1 : Int) = 4) : stA l (i + 1) = (0, (stA l i).2) := by
  rw [stA_succ l hi, if_pos (by omega)]
theorem st_b {l : List UInt8} {i : Nat} (hi : i < l.length) (h : ¬ ((stA l i).1 : Int) = 4) (h2 : 0 < ((stA l i).1 : Int) ∧ ((l.getD i 0).toNat : Int) = ((stA l i).2.toNat : Int)) : stA l (i + 1) = ((stA l i).1 + 1, (stA l i).2) := by
  rw [stA_succ l hi, if_neg (by omega), if_pos ⟨by omega, UInt8.toNat_inj.1 (by omega)⟩]
theorem st_c {l : List UInt8} {i : Nat} (hi : i < l.length) (h : ¬ ((stA l i).1 : Int) = 4) (h2 : ¬ 0 < ((stA l i).1 : Int) ∨ ¬ ((l.getD i 0).toNat : Int) = ((stA l i).2.toNat : Int)) : stA l (i + 1) = (1, l.getD i 0) := by
  rw [stA_succ l hi, if_neg (by omega), if_neg (fun h3 => by have h4 := h3.2; rw [h4] at h2; omega)]
theorem st_0 (l : List UInt8) : stA l 0 = (0, 0) := rfl
theorem reps_ge {l : List UInt8} {i : Nat} (hi : i < l.length) : 0 ≤ ((reps l).getD i (0, 0)).2 ∧ ((reps l).getD i (0, 0)).2 ≤ 255 := by
  rw [reps_get l hi]
  have := (l.getD i 0).toNat_lt
  split
  · simp only; omega
  · split <;> (simp only; omega)
/-- a count is lacking -/
def lack (l : List UInt8) : Prop := (stA l l.length).1 = 4
instance (l : List UInt8) : Decidable (lack l) := by unfold lack; infer_instance
def sumI (r : List (UInt8 × Int)) : Int := (r.map Prod.snd).sum
theorem sumI_succ (r : List (UInt8 × Int)) {k : Nat} (h : k < r.length) : sumI (r.take (k + 1)) = sumI (r.take k) + (r.getD k (0, 0)).2 := by
  rw [take_succ_map id r (0, 0) h, sumI, List.map_append, List.sum_append]; simp [sumI]
/-- how many bytes are told, and whether all counts are there -/
def tolV (l : List UInt8) : Int × Bool := if lack l then (0, false) else (sumI (reps l), true)
def tolS (r : List (UInt8 × Int)) : Nat → Int
  | 0 => 0
  | k + 1 => if (r.getD k (0, 0)).2 = lackI then 0 else tolS r k + (r.getD k (0, 0)).2
def goT (r : List (UInt8 × Int)) (k : Nat) : Bool := !decide ((r.getD k (0, 0)).2 = lackI)
theorem goT_y {r : List (UInt8 × Int)} {k : Nat} (h : goT r k = true) : tolS r (k + 1) = tolS r k + (r.getD k (0, 0)).2 := by
  rw [tolS, if_neg (by simpa [goT] using h)]
theorem goT_n {r : List (UInt8 × Int)} {k : Nat} (h : goT r k = false) : tolS r (k + 1) = 0 := by
  rw [tolS, if_pos (by simpa [goT] using h)]
theorem tolS_eq {r : List (UInt8 × Int)} : ∀ {k : Nat}, k ≤ r.length → (∀ j, j < k → goT r j = true) → tolS r k = sumI (r.take k)
  | 0, _, _ => rfl
  | k + 1, hk, h => by
    rw [goT_y (h k (by omega)), tolS_eq (by omega) (fun j hj => h j (by omega)), sumI_succ r (by omega)]
theorem go_lt {l : List UInt8} {i : Nat} (hi : i < l.length) : goT (reps l) i = true := by
  have := reps_ge hi
  unfold goT lackI
  simp only [Bool.not_eq_true', decide_eq_false_iff_not]
  omega
theorem tol_end {l : List UInt8} (h : ∀ j, j < (reps l).length → goT (reps l) j = true) : tolV l = (tolS (reps l) (reps l).length, true) := by
  have hn : ¬ lack l := fun hl => by
    have h2 := h l.length (by rw [reps_len, if_pos (show (stA l l.length).1 = 4 from hl)]; omega)
    rw [goT, reps_last l hl] at h2
    simp at h2
  rw [tolV, if_neg hn, tolS_eq (Nat.le_refl _) h, List.take_length]
theorem tol_stop {l : List UInt8} {k : Nat} (hk : k < (reps l).length) (hg : goT (reps l) k = false) : tolV l = (0, false) := by
  have hl : lack l := by
    apply Classical.byContradiction
    intro hn
    rw [reps_len, if_neg (show ¬ (stA l l.length).1 = 4 from hn)] at hk
    have := go_lt (l := l) (i := k) (by omega)
    rw [hg] at this; cases this
  rw [tolV, if_pos hl]
theorem tolS_bd {l : List UInt8} : ∀ {k : Nat}, k ≤ (reps l).length → (∀ j, j < k → goT (reps l) j = true) → 0 ≤ tolS (reps l) k ∧ tolS (reps l) k ≤ 255 * k
  | 0, _, _ => by simp [tolS]
  | k + 1, hk, h => by
    have ih := tolS_bd (l := l) (k := k) (by omega) (fun j hj => h j (by omega))
    have hg := h k (by omega)
    have : k < l.length := by
      apply Classical.byContradiction
      intro hn
      have e : k = l.length := by
        have := reps_len l
        split at this <;> omega
      subst e
      have hl : (stA l l.length).1 = 4 := by
        apply Classical.byContradiction
        intro h4
        have := reps_len l
        rw [if_neg h4] at this; omega
      rw [goT, reps_last l hl] at hg
      simp at hg
    have := reps_ge this
    rw [goT_y hg]; omega
theorem go_k {l : List UInt8} {k : Nat} (hk : k < (reps l).length) (hg : goT (reps l) k = true) : k < l.length := by
  apply Classical.byContradiction
  intro hn
  have hr := reps_len l
  have hl : (stA l l.length).1 = 4 := by
    apply Classical.byContradiction
    intro h4
    rw [if_neg h4] at hr; omega
  have e : k = l.length := by rw [if_pos hl] at hr; omega
  subst e
  rw [goT, reps_last l hl] at hg
  simp at hg
def expI (r : List (UInt8 × Int)) : List UInt8 := r.flatMap fun p => List.replicate p.2.toNat p.1
end Rl
end Go.Proofs.Ytmilegikgbmjpaa
