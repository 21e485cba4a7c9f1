/-
  MATHS of stage 8: what lengths use up; what stands where no word does; prefixes.
-/
import Derived.Test.YtnomocicogbdpaaOl
namespace Go.Proofs.Ytnomocicogbdpaa
open Go.RowKit
namespace Oq
open Ab Oa Ob Oc Od Oe Of Og Oh Oi Oj Om Ok Ol Bb Bm Bt Ca
/-- what lengths use up -/
def krL (l : List Int) : Int := (l.map fun x => (2 : Int) ^ (20 - x.toNat)).sum
theorem krL_app (l m : List Int) : krL (l ++ m) = krL l + krL m := by simp [krL]
theorem krL_1 (x : Int) : krL [x] = 2 ^ (20 - x.toNat) := by simp [krL]
theorem krA {l : List Int} (h : ∀ j, j < l.length → good (l.getD j 0)) : ∀ i, i ≤ l.length → krS (tA l i) 21 = krL (l.take i)
  | 0, _ => by rw [krS_0]; rfl
  | i + 1, hi => by
    have e3 : l.take (i + 1) = l.take i ++ [l.getD i 0] := by rw [List.take_succ_eq_append_getElem (by omega), List.getD_eq_getElem?_getD, List.getElem?_eq_getElem (by omega)]; rfl
    rw [← krS_1 (by omega) (h i (by omega)), krA h i (by omega), e3, krL_app, krL_1]
theorem snd_kr {l : List Int} (h1 : 2 ≤ l.length) (h2 : l.length ≤ 258) (h : ∀ j, j < l.length → good (l.getD j 0)) : (sndV l).2 = if 1048576 < krL l then 6 else 0 := by
  rw [snd_over (by omega) h, krA h _ (Nat.le_refl _), List.take_length]
theorem OkL.gd {l : List Int} (h : OkL l) : ∀ j, j < l.length → good (l.getD j 0) := fun j hj => by
  have := h.good hj
  unfold Ob.good; omega
theorem kr_ok {l : List Int} (h : OkL l) : krL l = (aN l 20 : Int) := by
  have h1 := kr_aN h 20 (Nat.le_refl _)
  obtain ⟨_, h2⟩ := snd_ok h
  obtain ⟨h3, _⟩ := cntV_bd h2
  rw [h3, krA (OkL.gd h) _ (Nat.le_refl _), List.take_length] at h1
  rw [h1]; simp
/-- where no word stands -/
theorem none_v {l : List Int} (h : OkL l) {s : ByteArray} {a : Int} (hm : ∀ i, i < l.length → ¬ Mt l s a i) : ∀ k : Nat, k ≤ 20 → a + (k : Int) ≤ 8 * s.size → aN l k ≤ vN s a k
  | 0, _, _ => Nat.zero_le _
  | k + 1, hk, hb => by
    have ih := none_v h hm k (by omega) (by omega)
    have e5 := (vN_s s a k).1
    have e4 : aN l (k + 1) = 2 * aN l k + (olL l ((k : Int) + 1)).length := rfl
    by_cases hlt : vN s a (k + 1) < aN l (k + 1)
    · have h7 : vN s a (k + 1) - 2 * aN l k < (olL l ((k : Int) + 1)).length := by omega
      obtain ⟨h8, h9, h10⟩ := ol_rk h7
      have hln : ln l ((olL l ((k : Int) + 1)).getD (vN s a (k + 1) - 2 * aN l k) 0) = k + 1 := by unfold ln; rw [h9]; omega
      exact absurd ⟨by rw [hln]; exact hb, by rw [wN, hln, h10, show k + 1 - 1 = k by omega]; omega⟩ (hm _ h8)
    · omega
theorem vN_lt (s : ByteArray) (a : Int) (k : Nat) : vN s a k < 2 ^ k := by
  have := val_lt (bitsAt s.data.toList a.toNat k)
  rwa [show (bitsAt s.data.toList a.toNat k).length = k by simp [bitsAt]] at this
/-- no word is longer than the greatest -/
theorem aN_end {l : List Int} (h : OkL l) : ∀ d, (mxL l).toNat + d ≤ 20 → aN l ((mxL l).toNat + d) = aN l (mxL l).toNat * 2 ^ d
  | 0, _ => by simp
  | d + 1, hd => by
    have ih := aN_end h d (by omega)
    have hz : olL l ((((mxL l).toNat + d : Nat) : Int) + 1) = [] := by
      match e : olL l ((((mxL l).toNat + d : Nat) : Int) + 1) with
      | [] => rfl
      | x :: t =>
        have h1 : 0 < (olL l ((((mxL l).toNat + d : Nat) : Int) + 1)).length := by rw [e]; simp
        have h2 := ol_rk h1
        have h3 := mx_ge h h2.1
        have h4 := (h.good h2.1).2.2
        have := mx_20 h
        omega
    rw [← Nat.add_assoc, aN, ih, hz, Nat.pow_succ, List.length_nil, Nat.mul_comm 2, Nat.mul_assoc]; rfl
theorem full_y {l : List Int} (h : OkL l) (hf : krL l = 1048576) {s : ByteArray} (hs : 3 ≤ s.size) : ∃ i, i < l.length ∧ takV l s 0 = ((i : Int), 0 + (ln l i : Int), 0) := by
  rcases take_f h (s := s) (a := 0) (by omega) with ⟨i, h1, _, h3⟩ | ⟨h1, _⟩
  · exact ⟨i, h1, h3⟩
  · exfalso
    have h4 := mx_20 h
    have h5 := none_v h h1 (mxL l).toNat (by omega) (by omega)
    have h6 := aN_end h (20 - (mxL l).toNat) (by omega)
    have h7 := vN_lt s 0 (mxL l).toNat
    rw [show (mxL l).toNat + (20 - (mxL l).toNat) = 20 by omega] at h6
    rw [kr_ok h] at hf
    have h8 : aN l 20 = 1048576 := by omega
    have h9 : aN l (mxL l).toNat * 2 ^ (20 - (mxL l).toNat) < 2 ^ (mxL l).toNat * 2 ^ (20 - (mxL l).toNat) := Nat.mul_lt_mul_of_pos_right (by omega) (Nat.two_pow_pos _)
    rw [← h6, ← Nat.pow_add, show (mxL l).toNat + (20 - (mxL l).toNat) = 20 by omega, h8] at h9
    exact absurd h9 (by decide)
theorem take_e {l : List Int} (h : OkL l) {s : ByteArray} (hs : 3 ≤ s.size) : (takV l s 0).2.2 = 0 ∨ (takV l s 0).2.2 = 3 := by
  rcases take_f h (s := s) (a := 0) (by omega) with ⟨i, h1, _, h3⟩ | ⟨_, h2⟩
  · rw [h3]; exact .inl rfl
  · have h4 := mx_20 h
    rw [h2, if_pos (by omega)]; exact .inr rfl
abbrev ff3 : ByteArray := ⟨#[255, 255, 255]⟩
theorem ff_v : ∀ k, k ≤ 20 → vN ff3 0 k = 2 ^ k - 1 := by
  have : ∀ k : Fin 21, vN ff3 0 k.val = 2 ^ k.val - 1 := by decide +kernel
  intro k hk
  exact this ⟨k, by omega⟩
theorem full_n {l : List Int} (h : OkL l) (hf : krL l ≠ 1048576) : takV l ff3 0 = (0, 0, 3) := by
  have h4 := mx_20 h
  have hs : ff3.size = 3 := rfl
  have hn : ∀ i, i < l.length → ¬ Mt l ff3 0 i := fun i hi hm => by
    have h1 := h.good hi
    have h2 := hm.2
    rw [ff_v _ h1.2.1] at h2
    have h3 := wN_lt h hi
    have h5 := aN_le h h1.2.1
    have h6 := aN_mono l (ln l i) (20 - ln l i)
    have h7 := Nat.two_pow_pos (ln l i)
    have h8 : aN l (ln l i) = 2 ^ ln l i := by omega
    rw [h8, ← Nat.pow_add, show ln l i + (20 - ln l i) = 20 by omega] at h6
    have h9 := aN_kraft h
    rw [kr_ok h] at hf
    have : (2 : Nat) ^ 20 = 1048576 := by decide
    omega
  rw [take_n h (by omega) hn, hs, if_pos (by omega)]
theorem kr_more {l : List Int} (h : OkL l) (hl : l.length ≤ 257) : (sndV (l ++ [20])).2 = if krL l = 1048576 then 6 else 0 := by
  have h1 := OkL.len h
  have h2 : krL (l ++ [20]) = krL l + 1 := by rw [krL_app, krL_1]; rfl
  rw [snd_kr (by simp; omega) (by simp; omega) (fun j hj => ?_), h2]
  · have h3 := aN_kraft h
    rw [kr_ok h]
    by_cases e : (aN l 20 : Int) = 1048576
    · rw [if_pos e, if_pos (by omega)]
    · rw [if_neg e, if_neg (by omega)]
  · by_cases e : j < l.length
    · rw [List.getD_eq_getElem?_getD, List.getElem?_append_left e, ← List.getD_eq_getElem?_getD]
      exact OkL.gd h j e
    · have : j = l.length := by simp at hj; omega
      subst this
      rw [List.getD_eq_getElem?_getD, List.getElem?_append_right (Nat.le_refl _), Nat.sub_self]
      exact ⟨by decide, by decide⟩
/-- of two words none begins the other one -/
theorem pre_n {l : List Int} (h : OkL l) {i k : Nat} (hi : i < l.length) (hk : k < l.length) (hne : k ≠ i) (hle : ln l i ≤ ln l k) : ¬ wN l k / 2 ^ (ln l k - ln l i) = wN l i ∧ ¬ (wN l k < wN l i * 2 ^ (ln l k - ln l i) ∧ (0 < ln l k - ln l i ∨ i < k)) := by
  by_cases hb : before l i k
  · have h1 := sep h hi hk hb
    have hp := Nat.two_pow_pos (ln l k - ln l i)
    have h2 : wN l i + 1 ≤ wN l k / 2 ^ (ln l k - ln l i) := (Nat.le_div_iff_mul_le hp).2 h1
    rw [Nat.add_mul] at h1
    exact ⟨by omega, by omega⟩
  · have hb2 : ln l k = ln l i ∧ k < i := by unfold before at hb; omega
    have h1 := sep h hk hi (.inr hb2)
    rw [hb2.1, Nat.sub_self, Nat.pow_zero] at h1 ⊢
    rw [Nat.div_one, Nat.mul_one]
    exact ⟨by omega, by omega⟩
/-- one of them longer -/
theorem krL_set : ∀ (l : List Int) (i : Nat) (x : Int), i < l.length → l.getD i 0 ≤ x → krL (l.set i x) ≤ krL l
  | y :: l, 0, x, _, h => by
    have h : y ≤ x := h
    have hp : (2 : Int) ^ (20 - x.toNat) ≤ 2 ^ (20 - y.toNat) := pow_mono2 (by omega)
    show krL (x :: l) ≤ krL (y :: l)
    simp only [krL, List.map_cons, List.sum_cons]
    omega
  | y :: l, i + 1, x, hi, h => by
    have := krL_set l i x (by simpa using hi) (by simpa using h)
    simp only [krL, List.set_cons_succ, List.map_cons, List.sum_cons] at this ⊢
    omega
theorem krL_turn (l : List Int) (k : Nat) : krL (l.drop k ++ l.take k) = krL l := by
  have := krL_app (l.take k) (l.drop k)
  rw [List.take_append_drop] at this
  rw [krL_app, this]; omega
end Oq
end Go.Proofs.Ytnomocicogbdpaa
