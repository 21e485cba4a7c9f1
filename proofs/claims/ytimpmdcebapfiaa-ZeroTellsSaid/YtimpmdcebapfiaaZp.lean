/-
  MATHEMATICS of stage 6: what decoding does from a place on.
-/
import Derived.Test.YtimpmdcebapfiaaZo
namespace Go.Proofs.Ytimpmdcebapfiaa
open Go.RowKit
namespace Zp
open Ab Zm Zn Zo
theorem out_neg {m : List Int} {most : Int} (h : outV m most = false) : m.any (fun x => decide (x < 0)) = false := by
  cases hb : m.any (fun x => decide (x < 0)) with
  | false => rfl
  | true =>
    obtain ⟨x, hx, hp⟩ := List.any_eq_true.1 hb
    have : outV m most = true := List.any_eq_true.2 ⟨x, hx, outP_t (.inl (by simpa using hp))⟩
    rw [h] at this; cases this
theorem out_big {m : List Int} (hm : In64 m) (h : outV m 9223372036854775807 = true) : m.any (fun x => decide (x < 0)) = true := by
  obtain ⟨x, hx, hp⟩ := List.any_eq_true.1 h
  have h1 := hm x hx
  refine List.any_eq_true.2 ⟨x, hx, ?_⟩
  simp only [outP, Bool.or_eq_true, decide_eq_true_eq] at hp ⊢
  omega
theorem out_or_t {l : List Int} {most : Int} (h : l.any (fun x => decide (x < 0)) = true) : outV l most = true := by
  obtain ⟨x, hx, hp⟩ := List.any_eq_true.1 h
  exact List.any_eq_true.2 ⟨x, hx, outP_t (.inl (by simpa using hp))⟩
theorem out_at_t {l : List Int} {most : Int} {k : Nat} (hk : k < l.length) (h : most < l.getD k 0) : outV l most = true := any_stop _ l k 0 hk (outP_t (.inr h))
theorem out_f {l : List Int} {most : Int} (h : l.any (fun x => decide (x < 0)) = false) (h2 : l.any (fun x => decide (most < x)) = false) : outV l most = false := by
  cases hb : outV l most with
  | false => rfl
  | true =>
    obtain ⟨x, hx, hp⟩ := List.any_eq_true.1 hb
    simp only [outP, Bool.or_eq_true, decide_eq_true_eq] at hp
    rcases hp with hp | hp
    · rw [List.any_eq_true.2 ⟨x, hx, by simpa using hp⟩] at h; cases h
    · rw [List.any_eq_true.2 ⟨x, hx, by simpa using hp⟩] at h2; cases h2
theorem run_end {m : List Int} {f : Nat} (h : m.length ≤ runE m f) : (m.drop f).dropWhile lowP = [] := by rw [← run_rest, List.drop_of_length_le h]
theorem run_cons {m : List Int} {f : Nat} (h : runE m f < m.length) : (m.drop f).dropWhile lowP = m.getD (runE m f) 0 :: m.drop (runE m f + 1) := by rw [← run_rest, drop_cons m _ 0 h]
theorem dec_at {m : List Int} {f : Nat} {o : List Int} (h : decR (m.drop f) = some o) : (numR ((m.drop f).takeWhile lowP)).2 = 0 ∧ ((m.length ≤ runE m f ∧ o = List.replicate (numR ((m.drop f).takeWhile lowP)).1.toNat 0) ∨ (runE m f < m.length ∧ ∃ o', decR (m.drop (runE m f + 1)) = some o' ∧ o = List.replicate (numR ((m.drop f).takeWhile lowP)).1.toNat 0 ++ (m.getD (runE m f) 0 - 1) :: o')) := by
  by_cases h0 : (numR ((m.drop f).takeWhile lowP)).2 = 0
  · refine ⟨h0, ?_⟩
    by_cases hl : m.length ≤ runE m f
    · rw [decR_end _ h0 (run_end hl)] at h
      exact .inl ⟨hl, (Option.some.inj h).symm⟩
    · rw [decR_cons _ _ _ h0 (run_cons (by omega))] at h
      cases hd : decR (m.drop (runE m f + 1)) with
      | none => rw [hd] at h; cases h
      | some o' => rw [hd] at h; exact .inr ⟨by omega, o', rfl, (Option.some.inj h).symm⟩
  · rw [decR_bad _ h0] at h; cases h
/-- a run alone, and then the rest -/
theorem dec_run {m : List Int} {f : Nat} (h0 : (numR ((m.drop f).takeWhile lowP)).2 = 0) : decR (m.drop f) = (decR (m.drop (runE m f))).map (List.replicate (numR ((m.drop f).takeWhile lowP)).1.toNat 0 ++ ·) := by
  have hrest : ∀ x r, m.drop (runE m f) = x :: r → lowP x = false := by
    intro x r hx
    rw [run_rest] at hx
    have := List.head?_dropWhile_not lowP (m.drop f)
    rw [hx] at this
    simpa using this
  cases hd : m.drop (runE m f) with
  | nil =>
    have := hd; rw [run_rest] at this
    rw [decR_end _ h0 this, decR_nil]; simp
  | cons x r =>
    have h1 := hd; rw [run_rest] at h1
    have hx := hrest x r hd
    have ht : (x :: r).takeWhile lowP = [] := by rw [List.takeWhile_cons, if_neg (by simp [hx])]
    have hw : (x :: r).dropWhile lowP = x :: r := by rw [List.dropWhile_cons, if_neg (by simp [hx])]
    rw [decR_cons _ _ _ h0 h1, decR_cons (x :: r) x r (by rw [ht, numR_nil]) hw, ht, numR_nil]
    cases decR r <;> simp
theorem dec_one {m : List Int} {f : Nat} (h : f < m.length) (hx : ¬ m.getD f 0 ≤ 1) : decR (m.drop f) = (decR (m.drop (f + 1))).map ((m.getD f 0 - 1) :: ·) := by
  have hr : runE m f = f := runE_stop m f (fun e => hx e.2)
  have hw : (m.drop f).dropWhile lowP = m.getD f 0 :: m.drop (f + 1) := by have := run_cons (m := m) (f := f) (by omega); rwa [hr] at this
  have ht : (m.drop f).takeWhile lowP = [] := by rw [drop_cons m f 0 h, List.takeWhile_cons, if_neg (by simp only [lowP, decide_eq_true_eq]; exact hx)]
  rw [decR_cons _ _ _ (by rw [ht, numR_nil]) hw, ht, numR_nil]
  cases decR (m.drop (f + 1)) <;> rfl
theorem map_map_app {o : Option (List Int)} {a b : List Int} : (o.map (b ++ ·)).map (a ++ ·) = o.map ((a ++ b) ++ ·) := by
  cases o <;> simp
theorem map_cons_app {o : Option (List Int)} {a : List Int} {x : Int} : (o.map (x :: ·)).map (a ++ ·) = o.map ((a ++ [x]) ++ ·) := by
  cases o <;> simp
theorem fits_map {o : Option (List Int)} {a : List Int} {most : Int} (h : most < a.length) : fitsO (o.map (a ++ ·)) most = false := by
  cases o with
  | none => rfl
  | some l => simp [fitsO]; omega
theorem fits_ok {m : List Int} {most : Int} (h : fitsO (decR m) most = true) : ∃ o, decR m = some o ∧ (o.length : Int) ≤ most := by
  cases hd : decR m with
  | none => rw [hd] at h; cases h
  | some o => rw [hd] at h; exact ⟨o, rfl, by simpa [fitsO] using h⟩
theorem enc_run {l : List Int} {i n : Nat} (h : enc n (l.drop (i + n)) = enc 0 (l.drop i)) (hk : i + n < l.length) (hx : l.getD (i + n) 0 = 0) : enc (n + 1) (l.drop (i + (n + 1))) = enc 0 (l.drop i) := by
  rw [← h, ← enc_zero n l (i + n) hk hx]; rfl
end Zp
end Go.Proofs.Ytimpmdcebapfiaa
