/-
  MATHEMATICS of stage 6: what the laws say.
-/
import Derived.Test.YtimpmdcebapfiaaZp
namespace Go.Proofs.Ytimpmdcebapfiaa
open Go.RowKit
namespace Zq
open Ab Zm Zn Zo Zp
theorem bad_cons {x : Int} {l : List Int} (hx : x = 0 ∨ x = 1) (h : badD l = false) : badD (x :: l) = false := by
  simp only [badD, List.any_cons, Bool.or_eq_false_iff]
  exact ⟨badP_f (by omega), h⟩
theorem bad_tail {x : Int} {l : List Int} (h : badD (x :: l) = false) : (x = 0 ∨ x = 1) ∧ badD l = false := by
  have h2 := h
  simp only [badD, List.any_cons, Bool.or_eq_false_iff] at h
  exact ⟨bad_at (d := x :: l) h2 (k := 0) (by simp), h.2⟩
theorem digs_bad : ∀ n : Nat, badD (digs n) = false := fun n => by
  induction n using Nat.strongRecOn with
  | _ n ih =>
    by_cases h : n = 0
    · subst h; rw [digs_zero]; rfl
    · rw [digs_succ n (by omega)]
      exact bad_cons (by omega) (ih _ (by omega))
theorem numW_digs : ∀ n : Nat, numW (digs n) = n := fun n => by
  induction n using Nat.strongRecOn with
  | _ n ih =>
    by_cases h : n = 0
    · subst h; rw [digs_zero]; rfl
    · rw [digs_succ n (by omega), numW, ih _ (by omega)]
      omega
theorem numW_nn {d : List Int} (h : badD d = false) : 0 ≤ numW d := by have := numW_bd d h; have := pow_pos d.length; omega
theorem digs_numW : ∀ d : List Int, badD d = false → digs (numW d).toNat = d
  | [], _ => by simp [numW, digs_zero]
  | x :: l, h => by
    obtain ⟨hx, hl⟩ := bad_tail h
    have ih := digs_numW l hl
    have hn := numW_nn hl
    rw [numW, digs_succ _ (by omega)]
    have e1 : ((x + 1 + 2 * numW l).toNat - 1) / 2 = (numW l).toNat := by omega
    have e2 : ((((x + 1 + 2 * numW l).toNat - 1) % 2 : Nat) : Int) = x := by omega
    rw [e1, e2, ih]
theorem digs_inj {a b : Nat} (h : digs a = digs b) : a = b := by have := numW_digs a; have h2 := numW_digs b; rw [h] at this; omega
theorem len_lt {a b : Nat} (h : (2 : Int) ^ a < 2 ^ b) : a < b := by
  by_cases hab : a < b
  · exact hab
  · have := pow_le b a (by omega); omega
theorem digs_mono {a b : Nat} (h : a ≤ b) : (digs a).length ≤ (digs b).length := by
  have h1 := numW_bd _ (digs_bad a); have h2 := numW_bd _ (digs_bad b)
  rw [numW_digs] at h1 h2
  have : (digs a).length < (digs b).length + 1 := len_lt (by rw [Int.pow_succ]; omega)
  omega
theorem digs_40 {a : Nat} (h : a ≤ 1099511627776) : (digs a).length ≤ 40 := by
  have h1 := numW_bd _ (digs_bad a)
  rw [numW_digs] at h1
  have : (digs a).length < 41 := len_lt (by omega)
  omega
theorem num_digs {a : Nat} (h : a ≤ 1099511627776) : numR (digs a) = ((a : Int), 0) := by
  have hl := digs_40 h
  rw [numR, digs_bad, numW_digs, if_neg (by decide), if_neg (by omega), if_neg (by omega)]
theorem num_short {d : List Int} (h : badD d = false) (hl : d.length ≤ 39) : numR d = (numW d, 0) := by
  have h1 := numW_bd _ h
  have h2 := pow_le d.length 39 hl
  rw [numR, h, if_neg (by decide), if_neg (by omega), if_neg (by omega)]
theorem digs_low {x : Int} {n : Nat} (h : x ∈ digs n) : lowP x = true := by
  obtain ⟨k, hk, e⟩ := List.mem_iff_getElem.1 h
  have := bad_at (digs_bad n) hk
  rw [List.getD_eq_getElem?_getD, List.getElem?_eq_getElem hk] at this
  simp only [Option.getD_some, e] at this
  simp only [lowP, decide_eq_true_eq]; omega
theorem tw_all {p : Int → Bool} {l : List Int} (h : ∀ x ∈ l, p x = true) : l.takeWhile p = l ∧ l.dropWhile p = [] := by
  induction l with
  | nil => exact ⟨rfl, rfl⟩
  | cons x l ih =>
    have h1 := ih (fun y hy => h y (by simp [hy])); have hx := h x (by simp)
    simp [hx, h1.1, h1.2]
theorem tw_app {p : Int → Bool} {l : List Int} {y : Int} {m : List Int} (h : ∀ x ∈ l, p x = true) (hy : p y = false) : (l ++ y :: m).takeWhile p = l ∧ (l ++ y :: m).dropWhile p = y :: m := by
  induction l with
  | nil => simp [hy]
  | cons x l ih =>
    have h1 := ih (fun y hy => h y (by simp [hy])); have hx := h x (by simp)
    simp [hx, h1.1, h1.2]
/-- what was encoded decodes -/
theorem dec_enc : ∀ (l : List Int) (z : Nat), (∀ x ∈ l, 0 ≤ x) → z + l.length ≤ 1099511627776 → decR (enc z l) = some (List.replicate z 0 ++ l)
  | [], z, _, hz => by
    obtain ⟨h1, h2⟩ := tw_all (p := lowP) (l := digs z) (fun x hx => digs_low hx)
    have hn : numR (digs z) = ((z : Int), 0) := num_digs (by simpa using hz)
    rw [enc, decR_end _ (by rw [h1, hn]) h2, h1, hn]; simp
  | x :: l, z, hp, hz => by
    rw [enc]
    by_cases hx : x = 0
    · subst hx
      rw [if_pos rfl, dec_enc l (z + 1) (fun y hy => hp y (by simp [hy])) (by simp at hz; omega), List.replicate_succ']
      simp
    · have h0 := hp x (by simp)
      rw [if_neg hx]
      obtain ⟨h1, h2⟩ := tw_app (p := lowP) (l := digs z) (y := x + 1) (m := enc 0 l) (fun x hx => digs_low hx) (by simp only [lowP, decide_eq_false_iff_not]; omega)
      have hn : numR (digs z) = ((z : Int), 0) := num_digs (by simp at hz; omega)
      rw [decR_cons _ (x + 1) (enc 0 l) (by rw [h1, hn]) h2, h1, hn, dec_enc l 0 (fun y hy => hp y (by simp [hy])) (by simp at hz; omega)]
      simp
theorem enc_rep (l : List Int) : ∀ (n z : Nat), enc z (List.replicate n 0 ++ l) = enc (z + n) l
  | 0, z => by simp
  | n + 1, z => by
    rw [List.replicate_succ, List.cons_append, enc, if_pos rfl, enc_rep l n (z + 1), show z + 1 + n = z + (n + 1) by omega]
theorem num_zero {d : List Int} (h : (numR d).2 = 0) : badD d = false ∧ (numR d).1 = numW d := by
  cases hb : badD d with
  | true => rw [numR, hb] at h; simp at h
  | false =>
    rw [numR, hb, if_neg (by decide)] at h ⊢
    split at h
    · simp at h
    · split at h
      · simp at h
      · rename_i h1 h2
        rw [if_neg h1, if_neg h2]; exact ⟨rfl, rfl⟩
/-- what decodes was encoded so -/
theorem enc_dec : ∀ (k : Nat) (d o : List Int), d.length ≤ k → decR d = some o → enc 0 o = d ∧ (∀ x ∈ o, 0 ≤ x ∧ (x = 0 ∨ x + 1 ∈ d)) := fun k => by
  induction k with
  | zero =>
    intro d o hk h
    have : d = [] := List.eq_nil_of_length_eq_zero (by omega)
    subst this
    rw [decR_nil] at h; cases h
    exact ⟨by rw [enc, digs_zero], fun x hx => by cases hx⟩
  | succ k ih =>
    intro d o hk h
    by_cases h0 : (numR (d.takeWhile lowP)).2 = 0
    · obtain ⟨hb, hn⟩ := num_zero h0
      have hdg := digs_numW _ hb
      have hsplit := List.takeWhile_append_dropWhile (p := lowP) (l := d)
      cases hd : d.dropWhile lowP with
      | nil =>
        rw [decR_end _ h0 hd] at h; cases h
        rw [hd, List.append_nil] at hsplit
        refine ⟨?_, fun x hx => ?_⟩
        · have := enc_rep [] (numR (d.takeWhile lowP)).1.toNat 0
          rw [List.append_nil] at this
          rw [this, enc, hn, Nat.zero_add, hdg, hsplit]
        · have := List.eq_of_mem_replicate hx; omega
      | cons y r =>
        rw [decR_cons _ _ _ h0 hd] at h
        have hlt := drop_lt hd
        cases hr : decR r with
        | none => rw [hr] at h; cases h
        | some o' =>
          rw [hr] at h; cases h
          obtain ⟨i1, i2⟩ := ih r o' (by omega) hr
          have hy : lowP y = false := by
            have := List.head?_dropWhile_not lowP d
            rw [hd] at this
            simpa using this
          have hy' : ¬ y ≤ 1 := by simpa [lowP] using hy
          rw [hd] at hsplit
          refine ⟨?_, fun x hx => ?_⟩
          · rw [enc_rep, Nat.zero_add, enc, if_neg (by omega), i1, hn, hdg, show y - 1 + 1 = y by omega, hsplit]
          · rcases List.mem_append.1 hx with h1 | h1
            · have := List.eq_of_mem_replicate h1; omega
            · rcases List.mem_cons.1 h1 with h1 | h1
              · refine ⟨by omega, .inr ?_⟩
                rw [← hsplit, h1]; simp
              · obtain ⟨j1, j2⟩ := i2 x h1
                refine ⟨j1, j2.imp id fun j => ?_⟩
                rw [← hsplit]; simp [j]
    · rw [decR_bad _ h0] at h; cases h
theorem enc_app (m : List Int) (x : Int) (hx : ¬ x = 0) : ∀ (l : List Int) (z : Nat), enc z (l ++ x :: m) = enc z (l ++ [x]) ++ enc 0 m
  | [], z => by simp [enc, hx, digs_zero]
  | y :: l, z => by
    by_cases hy : y = 0
    · simp [enc, hy, enc_app m x hx l]
    · simp [enc, hy, enc_app m x hx l]
theorem enc_0_len (l : List Int) : (enc 0 l).length ≤ l.length := by have := enc_len l 0; omega
theorem digs_half {x : Int} (h : 1 < x) : (digs (x - 1).toNat).length = (digs (x / 2 - 1).toNat).length + 1 := by
  rw [digs_step (x - 1) (by omega)]
  rw [show (x - 1 - 1) / 2 = x / 2 - 1 by omega]; simp
end Zq
end Go.Proofs.Ytimpmdcebapfiaa
