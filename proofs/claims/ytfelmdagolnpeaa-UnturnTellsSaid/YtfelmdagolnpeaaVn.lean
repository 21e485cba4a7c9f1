/-
  MATHEMATICS of stage 14: the program's Vector is the reference's.
-/
import Derived.Test.YtfelmdagolnpeaaVd
namespace Go.Proofs.Ytfelmdagolnpeaa
open Go.RowKit
namespace Vn
open Ab Vm Vd
theorem of_cnt (s : ByteArray) (c : Nat) : ∀ i, ((ofB s c i).length : Int) = (cntL s i).getD c 0
  | 0 => by rw [of_0, cntL, rep_zero]; rfl
  | i + 1 => by
    have ih := of_cnt s c i
    rw [ofB, cntL_succ]
    split
    · rw [List.length_append, List.length_cons, List.length_nil]; omega
    · exact ih
theorem C_nn (s : ByteArray) : ∀ j, 0 ≤ (cntL s s.size).getD j 0 := fun j => (cntL_bd s s.size j).1
theorem sN (s : ByteArray) (j : Nat) : ((sumL (cntL s s.size) j).toNat : Int) = sumL (cntL s s.size) j := Int.toNat_of_nonneg (sum_nn _ (C_nn s) j)
theorem sum_lt (s : ByteArray) {a b : Nat} (h : a < b) : sumL (cntL s s.size) a + (cntL s s.size).getD a 0 ≤ sumL (cntL s s.size) b := by
  have := sum_mono _ (C_nn s) (b - (a + 1)) (a + 1)
  rw [show a + 1 + (b - (a + 1)) = b by omega, sumL] at this
  exact this
theorem cnt_le (s : ByteArray) (k j : Nat) (hk : k ≤ s.size) : (cntL s k).getD j 0 ≤ (cntL s s.size).getD j 0 := by
  have := cntL_mono s j (s.size - k) k
  rwa [show k + (s.size - k) = s.size by omega] at this
theorem getD_app_l (l m : List Int) (r : Nat) (h : r < l.length) : (l ++ m).getD r 0 = l.getD r 0 := by
  simp [List.getD_eq_getElem?_getD, List.getElem?_append, h]
theorem getD_app_r (l m : List Int) (r : Nat) : (l ++ m).getD (l.length + r) 0 = m.getD r 0 := by
  simp only [List.getD_eq_getElem?_getD, List.getElem?_append]
  rw [if_neg (by omega), show l.length + r - l.length = r by omega]
theorem fill_inv (s : ByteArray) : ∀ k, k ≤ s.size → ∀ j, j < 256 → ∀ r, r < (ofB s j k).length → (fillP s k).1.getD ((sumL (cntL s s.size) j).toNat + r) 0 = (ofB s j k).getD r 0
  | 0, _, j, _, r, hr => by rw [of_0] at hr; simp at hr
  | k + 1, hk, j, hj, r, hr => by
    have hb := byteA_lt s k
    have hin := fill_in s k (by omega)
    have hl1 := fill_len1 s k
    have hpos := fill_next s k (byteA s k) hb
    have hcb := of_cnt s (byteA s k) k
    have hcj := of_cnt s j k
    have hlej := cnt_le s k j (by omega)
    have hltb := cnt_le s (k + 1) (byteA s k) hk
    rw [cntL_succ, if_pos rfl] at hltb
    have hnb := sN s (byteA s k); have hnj := sN s j
    rw [fillP]
    show (List.set _ _ _).getD _ 0 = _
    rw [getD_set]
    rw [ofB] at hr ⊢
    by_cases e : byteA s k = j
    · subst e
      rw [if_pos rfl] at hr ⊢
      rw [List.length_append] at hr
      simp only [List.length_cons, List.length_nil] at hr
      by_cases e2 : r = (ofB s (byteA s k) k).length
      · rw [if_pos ⟨by omega, by omega⟩, e2]
        have := getD_app_r (ofB s (byteA s k) k) [(k : Int)] 0
        rw [Nat.add_zero] at this
        rw [this]; rfl
      · rw [if_neg (fun x => e2 (by omega)), getD_app_l _ _ _ (by omega)]
        exact fill_inv s k (by omega) _ hb r (by omega)
    · rw [if_neg e] at hr ⊢
      have hne : ¬ ((fillP s k).2.getD (byteA s k) 0).toNat = (sumL (cntL s s.size) j).toNat + r := by
        rcases Nat.lt_or_gt_of_ne e with h | h
        · have := sum_lt s h; omega
        · have := sum_lt s h; omega
      rw [if_neg (fun x => hne x.1)]
      exact fill_inv s k (by omega) j hj r hr
theorem rv_at (s : ByteArray) : ∀ c, ((rvA s c).length : Int) = sumL (cntL s s.size) c ∧ ∀ j, j < c → ∀ r, r < (ofB s j s.size).length → (rvA s c).getD ((sumL (cntL s s.size) j).toNat + r) 0 = (ofB s j s.size).getD r 0
  | 0 => ⟨by rw [rv_0]; rfl, fun j h => by omega⟩
  | c + 1 => by
    obtain ⟨h1, h2⟩ := rv_at s c
    have hc := of_cnt s c s.size
    refine ⟨by rw [rvA, List.length_append, sumL]; omega, fun j hj r hr => ?_⟩
    have hnj := sN s j
    have hcj := of_cnt s j s.size
    rw [rvA]
    by_cases e : j = c
    · subst e
      rw [show (sumL (cntL s s.size) j).toNat + r = (rvA s j).length + r by omega, getD_app_r]
    · have := sum_lt s (show j < c by omega)
      rw [getD_app_l _ _ _ (by omega)]
      exact h2 j (by omega) r hr
theorem locate (s : ByteArray) : ∀ (c p : Nat), (p : Int) < sumL (cntL s s.size) c → ∃ j, j < c ∧ ∃ r, r < (ofB s j s.size).length ∧ p = (sumL (cntL s s.size) j).toNat + r
  | 0, p, h => by
    have : (p : Int) < 0 := h
    omega
  | c + 1, p, h => by
    have hnc := sN s c
    have hcc := of_cnt s c s.size
    by_cases e : (p : Int) < sumL (cntL s s.size) c
    · obtain ⟨j, h1, r, h2, h3⟩ := locate s c p e
      exact ⟨j, by omega, r, h2, h3⟩
    · rw [sumL] at h
      exact ⟨c, by omega, p - (sumL (cntL s s.size) c).toNat, by omega, by omega⟩
theorem vec_eq (s : ByteArray) : vecL s = rvL s := by
  have h1 := fill_len1 s s.size
  obtain ⟨h2, h3⟩ := rv_at s 256
  rw [sum_cnt] at h2
  apply List.ext_getElem
  · show (fillP s s.size).1.length = (rvA s 256).length
    omega
  · intro p hp hq
    have hp' : p < s.size := by
      have : p < (fillP s s.size).1.length := hp
      omega
    obtain ⟨j, hj, r, hr, rfl⟩ := locate s 256 p (by rw [sum_cnt]; omega)
    have e1 := fill_inv s s.size (Nat.le_refl _) j hj r hr
    have e2 := h3 j hj r hr
    have e3 : (vecL s).getD ((sumL (cntL s s.size) j).toNat + r) 0 = (rvL s).getD ((sumL (cntL s s.size) j).toNat + r) 0 := e1.trans e2.symm
    rwa [getD_lt _ _ 0 hp, getD_lt _ _ 0 hq] at e3
end Vn
end Go.Proofs.Ytfelmdagolnpeaa
