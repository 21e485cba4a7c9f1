/-
  MATHEMATICS of stage 6: numbers, rows of noughts.
-/
import Derived.Test.YtimpmdcebapfiaaZm
namespace Go.Proofs.Ytimpmdcebapfiaa
open Go.RowKit
namespace Zn
open Ab Zm
def numW : List Int → Int
  | [] => 0
  | x :: l => (x + 1) + 2 * numW l
def badP (x : Int) : Bool := decide (x ≠ 0) && decide (x ≠ 1)
def badD (d : List Int) : Bool := d.any badP
def numR (d : List Int) : Int × Int := if badD d then (0, 1) else if 40 < d.length then (0, 4) else if 1099511627776 < numW d then (0, 4) else (numW d, 0)
theorem badP_t {x : Int} (h : x ≠ 0 ∧ x ≠ 1) : badP x = true := by simp only [badP, Bool.and_eq_true, decide_eq_true_eq]; exact h
theorem badP_f {x : Int} (h : ¬ (x ≠ 0 ∧ x ≠ 1)) : badP x = false := by
  cases hb : badP x with
  | false => rfl
  | true => simp only [badP, Bool.and_eq_true, decide_eq_true_eq] at hb; exact absurd hb h
theorem numW_snoc : ∀ (l : List Int) (x : Int), numW (l ++ [x]) = numW l + (x + 1) * 2 ^ l.length
  | [], x => by simp [numW]
  | y :: l, x => by
    have e : 2 * ((x + 1) * 2 ^ l.length) = (x + 1) * ((2 : Int) ^ l.length * 2) := by rw [← Int.mul_assoc, Int.mul_comm 2 (x + 1), Int.mul_assoc, Int.mul_comm 2]
    simp only [List.cons_append, numW, numW_snoc l x, List.length_cons, Int.pow_succ]
    rw [Int.mul_add, e]; omega
theorem numW_take (d : List Int) (k : Nat) (h : k < d.length) : numW (d.take (k + 1)) = numW (d.take k) + (d.getD k 0 + 1) * 2 ^ k := by
  rw [take_snoc d k 0 h, numW_snoc, List.length_take, Nat.min_eq_left (by omega)]
theorem bad_at {d : List Int} (h : badD d = false) {k : Nat} (hk : k < d.length) : d.getD k 0 = 0 ∨ d.getD k 0 = 1 := by
  have h1 : badP (d.getD k 0) = false := by
    cases hb : badP (d.getD k 0) with
    | false => rfl
    | true => rw [badD, any_stop badP d k 0 hk hb] at h; cases h
  by_cases e : d.getD k 0 = 0
  · exact .inl e
  · by_cases e1 : d.getD k 0 = 1
    · exact .inr e1
    · rw [badP_t ⟨e, e1⟩] at h1; cases h1
theorem numW_bd : ∀ (d : List Int), badD d = false → (2 : Int) ^ d.length - 1 ≤ numW d ∧ numW d ≤ 2 * 2 ^ d.length - 2
  | [], _ => by simp [numW]
  | x :: l, h => by
    simp only [badD, List.any_cons, Bool.or_eq_false_iff] at h
    have ih := numW_bd l h.2
    have hx : x = 0 ∨ x = 1 := bad_at (d := x :: l) (by simp only [badD, List.any_cons, Bool.or_eq_false_iff]; exact h) (k := 0) (by simp)
    simp only [numW, List.length_cons, Int.pow_succ]
    omega
theorem pow_le (a b : Nat) (h : a ≤ b) : (2 : Int) ^ a ≤ 2 ^ b := by
  have := Nat.pow_le_pow_right (n := 2) (by omega) h
  have e : ∀ n : Nat, ((2 ^ n : Nat) : Int) = (2 : Int) ^ n := fun n => by simp
  rw [← e, ← e]; omega
theorem pow_pos (a : Nat) : (1 : Int) ≤ 2 ^ a := by have := pow_le 0 a (by omega); simpa using this
theorem bad_take {d : List Int} (h : badD d = false) (k : Nat) : badD (d.take k) = false := by
  cases hb : badD (d.take k) with
  | false => rfl
  | true =>
    obtain ⟨x, hx, hp⟩ := List.any_eq_true.1 hb
    have : badD d = true := List.any_eq_true.2 ⟨x, List.mem_of_mem_take hx, hp⟩
    rw [h] at this; cases this
theorem numW_tk {d : List Int} (h : badD d = false) (k : Nat) (hk : k ≤ 42) : 0 ≤ numW (d.take k) ∧ numW (d.take k) ≤ 8796093022208 := by
  have h1 := numW_bd _ (bad_take h k)
  have h2 := pow_le (d.take k).length 42 (by rw [List.length_take]; omega)
  have h3 := pow_pos (d.take k).length
  have : (2 : Int) ^ 42 = 4398046511104 := by decide
  omega
theorem mul_bd {x : Int} (hx : x = 0 ∨ x = 1) (k : Nat) (hk : k ≤ 42) : 0 ≤ (x + 1) * 2 ^ k ∧ (x + 1) * 2 ^ k ≤ 8796093022208 := by
  have h2 := pow_le k 42 hk
  have h3 := pow_pos k
  have : (2 : Int) ^ 42 = 4398046511104 := by decide
  rcases hx with rfl | rfl
  · rw [Int.zero_add, Int.one_mul]; omega
  · rw [show (1 : Int) + 1 = 2 from rfl]; omega
theorem pow_bd (k : Nat) (hk : k ≤ 43) : (1 : Int) ≤ 2 ^ k ∧ (2 : Int) ^ k ≤ 8796093022208 := by
  have h2 := pow_le k 43 hk
  have : (2 : Int) ^ 43 = 8796093022208 := by decide
  exact ⟨pow_pos k, by omega⟩
theorem numR_bad {d : List Int} (h : badD d = true) : numR d = (0, 1) := by simp [numR, h]
theorem numR_long {d : List Int} (h : badD d = false) (hl : 40 < d.length) : numR d = (0, 4) := by simp [numR, h, hl]
theorem numR_big {d : List Int} (h : badD d = false) (hl : 1099511627776 < numW d) : numR d = (0, 4) := by simp [numR, h, hl]
theorem numR_ok {d : List Int} (h : badD d = false) (hl : ¬ 1099511627776 < numW d) : numR d = (numW d, 0) := by
  have : ¬ 40 < d.length := fun h40 => by
    have h1 := numW_bd d h
    have h2 := pow_le 41 d.length (by omega)
    have : (2 : Int) ^ 41 = 2199023255552 := by decide
    omega
  simp [numR, h, hl, this]
theorem numR_nil : numR [] = (0, 0) := by decide
theorem numR_range (d : List Int) : 0 ≤ (numR d).1 ∧ (numR d).1 ≤ 1099511627776 := by
  unfold numR
  split
  · simp
  · rename_i h
    split
    · simp
    · split
      · simp
      · have h1 := numW_bd d (by simpa using h)
        have := pow_pos d.length
        simp only; omega
/-! rows -/
def lowP (x : Int) : Bool := decide (x ≤ 1)
def runE (m : List Int) (k : Nat) : Nat := k + ((m.drop k).takeWhile lowP).length
theorem runE_step (m : List Int) (k : Nat) (h : k < m.length) (hx : m.getD k 0 ≤ 1) : runE m (k + 1) = runE m k := by
  unfold runE
  rw [drop_cons m k 0 h, List.takeWhile_cons, if_pos (by simp [lowP]; simpa using hx)]
  simp; omega
theorem runE_stop (m : List Int) (k : Nat) (h : ¬ (k < m.length ∧ m.getD k 0 ≤ 1)) : runE m k = k := by
  unfold runE
  by_cases hk : k < m.length
  · rw [drop_cons m k 0 hk, List.takeWhile_cons, if_neg (by simp only [lowP, decide_eq_true_eq]; exact fun e => h ⟨hk, e⟩)]; rfl
  · rw [List.drop_of_length_le (by omega)]; rfl
theorem runE_bd (m : List Int) (k : Nat) (h : k ≤ m.length) : k ≤ runE m k ∧ runE m k ≤ m.length := by
  unfold runE
  have : ((m.drop k).takeWhile lowP).length ≤ (m.drop k).length := (List.takeWhile_sublist lowP).length_le
  rw [List.length_drop] at this
  omega
theorem run_seg (m : List Int) (k : Nat) : (m.drop k).take (runE m k - k) = (m.drop k).takeWhile lowP := by
  unfold runE
  rw [show k + ((m.drop k).takeWhile lowP).length - k = ((m.drop k).takeWhile lowP).length by omega]
  exact (List.prefix_iff_eq_take.1 (List.takeWhile_prefix lowP)).symm
theorem run_rest (m : List Int) (k : Nat) : m.drop (runE m k) = (m.drop k).dropWhile lowP := by
  unfold runE
  have h := List.takeWhile_append_dropWhile (p := lowP) (l := m.drop k)
  rw [← List.drop_drop]
  exact (congrArg (List.drop _) h.symm).trans List.drop_left
theorem drop_lt {p : Int → Bool} {m : List Int} {x : Int} {r : List Int} (h : m.dropWhile p = x :: r) : r.length < m.length := by
  have : (m.dropWhile p).length ≤ m.length := (List.dropWhile_sublist p).length_le
  rw [h] at this; simp at this; omega
def decR (m : List Int) : Option (List Int) :=
  if (numR (m.takeWhile lowP)).2 = 0 then
    match h : m.dropWhile lowP with
    | [] => some (List.replicate (numR (m.takeWhile lowP)).1.toNat 0)
    | x :: r => (decR r).map fun o => List.replicate (numR (m.takeWhile lowP)).1.toNat 0 ++ (x - 1) :: o
  else none
  termination_by m.length
  decreasing_by exact drop_lt h
theorem decR_bad (m : List Int) (h : ¬ (numR (m.takeWhile lowP)).2 = 0) : decR m = none := by rw [decR, if_neg h]
theorem decR_end (m : List Int) (h : (numR (m.takeWhile lowP)).2 = 0) (he : m.dropWhile lowP = []) : decR m = some (List.replicate (numR (m.takeWhile lowP)).1.toNat 0) := by
  rw [decR, if_pos h]
  split
  · rfl
  · rename_i h1; rw [he] at h1; cases h1
theorem decR_cons (m : List Int) (x : Int) (r : List Int) (h : (numR (m.takeWhile lowP)).2 = 0) (he : m.dropWhile lowP = x :: r) : decR m = (decR r).map fun o => List.replicate (numR (m.takeWhile lowP)).1.toNat 0 ++ (x - 1) :: o := by
  rw [decR, if_pos h]
  split
  · rename_i h1; rw [he] at h1; cases h1
  · rename_i h1; rw [he] at h1; cases h1; rfl
theorem decR_nil : decR [] = some [] := by rw [decR_end [] (by decide) rfl]; rfl
def fitsO (o : Option (List Int)) (left : Int) : Bool := match o with
  | some l => decide ((l.length : Int) ≤ left)
  | none => false
theorem fits_bad (m : List Int) (left : Int) (h : ¬ (numR (m.takeWhile lowP)).2 = 0) : fitsO (decR m) left = false := by rw [decR_bad m h]; rfl
theorem fits_more (m : List Int) (left : Int) (h : left < (numR (m.takeWhile lowP)).1) : fitsO (decR m) left = false := by
  have hr := numR_range (m.takeWhile lowP)
  by_cases h0 : (numR (m.takeWhile lowP)).2 = 0
  · cases hd : m.dropWhile lowP with
    | nil => rw [decR_end m h0 hd]; simp [fitsO]; omega
    | cons x r =>
      rw [decR_cons m x r h0 hd]
      cases decR r with
      | none => rfl
      | some o => simp [fitsO]; omega
  · exact fits_bad m left h0
theorem fits_end (m : List Int) (left : Int) (h : ¬ left < (numR (m.takeWhile lowP)).1) (h0 : (numR (m.takeWhile lowP)).2 = 0) (he : m.dropWhile lowP = []) : fitsO (decR m) left = true := by
  have hr := numR_range (m.takeWhile lowP)
  rw [decR_end m h0 he]; simp [fitsO]; omega
theorem fits_cons (m : List Int) (left : Int) (x : Int) (r : List Int) (h0 : (numR (m.takeWhile lowP)).2 = 0) (he : m.dropWhile lowP = x :: r) : fitsO (decR m) left = fitsO (decR r) (left - (numR (m.takeWhile lowP)).1 - 1) := by
  have hr := numR_range (m.takeWhile lowP)
  rw [decR_cons m x r h0 he]
  cases decR r with
  | none => rfl
  | some o =>
    simp only [Option.map_some, fitsO, List.length_append, List.length_replicate, List.length_cons]
    congr 1
    apply propext
    omega
/-! encode -/
def enc (z : Nat) : List Int → List Int
  | [] => digs z
  | x :: l => if x = 0 then enc (z + 1) l else digs z ++ (x + 1) :: enc 0 l
theorem enc_zero (z : Nat) (l : List Int) (k : Nat) (h : k < l.length) (hx : l.getD k 0 = 0) : enc (z + 1) (l.drop (k + 1)) = enc z (l.drop k) := by
  rw [drop_cons l k 0 h, enc, if_pos hx]
theorem enc_cons (z : Nat) (l : List Int) (k : Nat) (h : k < l.length) (hx : ¬ l.getD k 0 = 0) : enc z (l.drop k) = digs z ++ (l.getD k 0 + 1) :: enc 0 (l.drop (k + 1)) := by
  rw [drop_cons l k 0 h, enc, if_neg hx]
theorem enc_end (z : Nat) (l : List Int) (k : Nat) (h : l.length ≤ k) : enc z (l.drop k) = digs z := by rw [List.drop_of_length_le h, enc]
theorem enc_split (z : Nat) (l : List Int) (k : Nat) (h : ¬ (k < l.length ∧ l.getD k 0 = 0)) : enc z (l.drop k) = digs z ++ enc 0 (l.drop k) := by
  by_cases hk : k < l.length
  · have hx : ¬ l.getD k 0 = 0 := fun e => h ⟨hk, e⟩
    rw [enc_cons z l k hk hx, enc_cons 0 l k hk hx, digs_zero]; rfl
  · rw [enc_end z l k (by omega), enc_end 0 l k (by omega), digs_zero, List.append_nil]
theorem digs_lt (n : Nat) : (digs n).length ≤ n := by
  induction n using Nat.strongRecOn with
  | _ n ih =>
    by_cases h : n = 0
    · subst h; simp [digs_zero]
    · rw [digs_succ n (by omega)]
      have := ih ((n - 1) / 2) (by omega)
      simp; omega
theorem enc_len (l : List Int) : ∀ z, (enc z l).length ≤ z + l.length := by
  induction l with
  | nil => intro z; simp [enc]; exact digs_lt z
  | cons x l ih =>
    intro z
    rw [enc]
    split
    · have := ih (z + 1); simp; omega
    · have := ih 0; have := digs_lt z; simp; omega
def encV (l : List Int) : List Int × Int := if outV l 1099511627776 then ([], 1) else (enc 0 l, 0)
def decV (m : List Int) (most : Int) : List Int × Int := if m.any (fun x => decide (x < 0)) then ([], 1) else match decR m with
  | some o => if (o.length : Int) ≤ most then (o, 0) else ([], 4)
  | none => ([], 4)
theorem decV_bad {m : List Int} {most : Int} (h : m.any (fun x => decide (x < 0)) = true) : decV m most = ([], 1) := by simp [decV, h]
theorem decV_no {m : List Int} {most : Int} (h : m.any (fun x => decide (x < 0)) = false) (h1 : fitsO (decR m) most = false) : decV m most = ([], 4) := by
  unfold decV
  rw [h]
  cases hd : decR m with
  | none => rfl
  | some o =>
    rw [hd] at h1
    simp only [fitsO, decide_eq_false_iff_not] at h1
    simp [h1]
theorem decV_ok {m : List Int} {most : Int} {o : List Int} (h : m.any (fun x => decide (x < 0)) = false) (h1 : decR m = some o) (h2 : (o.length : Int) ≤ most) : decV m most = (o, 0) := by
  simp [decV, h, h1, h2]
end Zn
end Go.Proofs.Ytimpmdcebapfiaa
