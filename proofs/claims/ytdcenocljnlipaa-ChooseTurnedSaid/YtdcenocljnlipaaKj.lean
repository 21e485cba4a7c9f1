/-
  MATHS of stage 11: lengths as layer 8 checks them.
-/
import Derived.Test.YtdcenocljnlipaaWh
import Derived.Test.YtdcenocljnlipaaKl
namespace Go.Proofs.Ytdcenocljnlipaa
open Go.RowKit
namespace Kj
open Ab Wa Wb Wm Wc Wd We Wf Wg Wh Kl Oa Ob Oc Od Of Oi
theorem kS_scale {M d : Nat} {f : Nat → Nat} : ∀ k, (∀ i, i < k → f i ≤ M) → kS (M + d) f k = kS M f k * 2 ^ d
  | 0, _ => by simp [kS]
  | k + 1, h => by
    have := h k (by omega)
    rw [kS, kS, kS_scale k (fun i hi => h i (by omega)), Nat.add_mul, ← Nat.pow_add, show M + d - f k = M - f k + d by omega]
theorem kS_congr {M : Nat} {f g : Nat → Nat} : ∀ k, (∀ i, i < k → f i = g i) → kS M f k = kS M g k
  | 0, _ => rfl
  | k + 1, h => by rw [kS, kS, kS_congr k (fun i hi => h i (by omega)), h k (by omega)]
theorem kr_kS {l : List Int} (hg : ∀ j, j < l.length → Ob.good (l.getD j 0)) : ∀ k, k ≤ l.length → krS (tA l k) 21 = (kS 20 (ln l) k : Int)
  | 0, _ => by rw [krS_0]; rfl
  | k + 1, h => by
    rw [← krS_1 (by omega) (hg k (by omega)), kr_kS hg k (by omega), kS, ln]
    simp
theorem snd_kS {l : List Int} (h2 : 2 ≤ l.length) (hl : l.length ≤ 258) (hg : ∀ j, j < l.length → Ob.good (l.getD j 0)) : (sndV l).2 = if 1048576 < kS 20 (ln l) l.length then 6 else 0 := by
  rw [snd_over (by omega) hg, kr_kS hg _ (Nat.le_refl _)]
  by_cases c : 1048576 < kS 20 (ln l) l.length
  · rw [if_pos c, if_pos (by omega)]
  · rw [if_neg c, if_neg (by omega)]
theorem ok_kS {l : List Int} (h : OkL l) : kS 20 (ln l) l.length ≤ 2 ^ 20 := by
  have hl := h.len
  have := snd_kS (l := l) (by omega) (by omega) (fun j hj => by have := h.good hj; unfold Ob.good; omega)
  unfold OkL at h
  rw [h] at this
  by_cases c : 1048576 < kS 20 (ln l) l.length
  · rw [if_pos c] at this; cases this
  · have : (2 : Nat) ^ 20 = 1048576 := by decide
    omega
theorem joinV_kS {v : List Int} (hv : Nn v) (h2 : 2 ≤ v.length) (hl : v.length ≤ 258) (hb : ∀ i, i < v.length → Dw v i ≤ 20) : kS 20 (Dw v) v.length = 2 ^ 20 := by
  obtain ⟨d, hd⟩ : ∃ d : Nat, d = 238 := ⟨238, rfl⟩
  have h := Dw_kS hv (by omega) (M := 20 + d) (by omega)
  rw [kS_scale _ hb, Nat.pow_add] at h
  exact Nat.eq_of_mul_eq_mul_right (Nat.two_pow_pos _) h
theorem lenW_all {w : List Int} {most : Int} (h2 : 2 ≤ w.length) (hl : w.length ≤ 257) (hm : 9 ≤ most) (hm2 : most ≤ 20) (hb : bnd w) :
    ∃ l v, lnV w most = (l, 0) ∧ l.length = w.length ∧ (∀ i, i < l.length → 1 ≤ l.getD i 0 ∧ l.getD i 0 ≤ most) ∧ (sndV l).2 = 0 ∧ (sndV (l ++ [20])).2 = 6 ∧ In64 l ∧ In64 (l ++ [20]) ∧
      v.length = w.length ∧ (∀ i, i < w.length → l.getD i 0 = (Dw v i : Int)) ∧ Nn v ∧ (∀ i k, i < w.length → k < w.length → max (w.getD i 0) 1 = max (w.getD k 0) 1 → v.getD i 0 = v.getD k 0) ∧ (((w.length : Int) ≤ most + 1) → v = ones w) := by
  have hex : ∃ v, Pos v ∧ v.length = w.length ∧ lenW w most = joinV v ∧ mxL (joinV v) ≤ most ∧ (∀ i k, i < w.length → k < w.length → max (w.getD i 0) 1 = max (w.getD k 0) 1 → v.getD i 0 = v.getD k 0) ∧ (((w.length : Int) ≤ most + 1) → v = ones w) := by
    by_cases c : (w.length : Int) ≤ most + 1
    · have hol := ones_len w
      refine ⟨ones w, ones_pos w, hol, lenW_short h2 c, ?_, fun i k hi hk he => by rw [ones_at hi, ones_at hk]; exact he, fun _ => rfl⟩
      obtain ⟨i, hi, e⟩ := mx_at (ones_pos w).nn (by omega)
      have := Dw_n (ones_pos w).nn hi
      omega
    · obtain ⟨v, v1, v2, v3, v4, v5⟩ := lenW_is h2 (by omega) hm
      exact ⟨v, v1, v2, v3, v4, v5, fun h => absurd h c⟩
  obtain ⟨v, v1, v2, v3, v4, v5, v6⟩ := hex
  have hjl := joinV_len (w := v) (by omega)
  have hat : ∀ i, i < (joinV v).length → 1 ≤ (joinV v).getD i 0 ∧ (joinV v).getD i 0 ≤ most := fun i hi => by
    have h1 := Dw_1 v1.nn (by omega) (show i < v.length by omega)
    have h3 := mx_all v1.nn (by omega) (show i < v.length by omega)
    rw [joinV_at v1.nn (by omega) (by omega)]
    omega
  have hk := joinV_kS v1.nn (by omega) (by omega) (fun i hi => by
    have := mx_all v1.nn (by omega) hi
    omega)
  have hln : ∀ i, i < v.length → ln (joinV v) i = Dw v i := fun i hi => by rw [ln, joinV_at v1.nn (by omega) hi]; simp
  have hk2 : kS 20 (ln (joinV v)) (joinV v).length = 2 ^ 20 := by rw [hjl, kS_congr _ hln]; exact hk
  have hin : In64 (joinV v) := fun x hx => by
    obtain ⟨i, hi, rfl⟩ := List.mem_iff_getElem.1 hx
    have := hat i hi
    rw [List.getD_eq_getElem?_getD, List.getElem?_eq_getElem hi] at this
    simp only [Option.getD_some] at this
    omega
  have h20 : (2 : Nat) ^ 20 = 1048576 := by decide
  have hap : ∀ i, i < (joinV v).length → (joinV v ++ [20]).getD i 0 = (joinV v).getD i 0 := fun i hi => by
    rw [List.getD_eq_getElem?_getD, List.getElem?_append_left hi, ← List.getD_eq_getElem?_getD]
  have hlast : (joinV v ++ [20]).getD (joinV v).length 0 = 20 := by
    rw [List.getD_eq_getElem?_getD, List.getElem?_append_right (Nat.le_refl _)]; simp
  refine ⟨joinV v, v, by rw [lnV_y ⟨h2, by omega, hm, hm2, hb⟩, v3], by omega, hat, ?_, ?_, hin, fun x hx => ?_, v2, fun i hi => joinV_at v1.nn (by omega) (by omega), v1.nn, v5, v6⟩
  · rw [snd_kS (by omega) (by omega) (fun j hj => by have := hat j hj; unfold Ob.good; omega), hk2, if_neg (by omega)]
  · rw [snd_kS (by rw [List.length_append]; omega) (by rw [List.length_append, List.length_singleton]; omega) (fun j hj => by
      rw [List.length_append, List.length_singleton] at hj
      by_cases c : j < (joinV v).length
      · have := hat j c; rw [hap j c]; unfold Ob.good; omega
      · rw [show j = (joinV v).length by omega, hlast]; decide), List.length_append, List.length_singleton, kS,
      kS_congr (g := ln (joinV v)) _ (fun i hi => by rw [ln, hap i hi]; rfl), hk2, ln, hlast]
    decide
  · rcases List.mem_append.1 hx with h | h
    · exact hin x h
    · simp at h; omega
end Kj
end Go.Proofs.Ytdcenocljnlipaa
