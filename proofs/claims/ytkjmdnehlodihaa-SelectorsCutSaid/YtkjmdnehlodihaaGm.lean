/-
  MATHEMATICS of stage 5, as far as stage 12 wants it: bytes that come to the front, and back.
-/
import Derived.Test.YtkjmdnehlodihaaFz
namespace Go.Proofs.Ytkjmdnehlodihaa
open Go.RowKit
namespace Gm
open Ab Cm Fz
theorem mtf_perm (l : List UInt8) (k : Nat) (h : k < l.length) : (mtf l k).Perm l := by
  have e : l = l.take k ++ l.getD k 0 :: l.drop (k + 1) := by
    rw [getD_lt l k 0 h, ← List.drop_eq_getElem_cons h, List.take_append_drop]
  unfold mtf
  refine List.Perm.trans (List.perm_middle.symm) ?_
  rw [← e]
theorem right_nodup {a : ByteArray} (h : RightP a) : a.data.toList.Nodup := by
  rw [List.nodup_iff_pairwise_ne, List.pairwise_iff_getElem]
  intro i j hi hj hij
  have := h j hj i hij
  rw [bat_list, bat_list, getD_lt _ _ _ hi, getD_lt _ _ _ hj] at this
  exact this
theorem nodup_right {a : ByteArray} (h : a.data.toList.Nodup) : RightP a := by
  rw [List.nodup_iff_pairwise_ne, List.pairwise_iff_getElem] at h
  intro j hj i hij
  have hi : i < a.data.toList.length := Nat.lt_trans hij hj
  have := h i j hi hj hij
  rw [bat_list, bat_list, getD_lt _ _ _ hi, getD_lt _ _ _ (show j < a.data.toList.length from hj)]
  exact this
theorem idx_nodup {l : List UInt8} (hn : l.Nodup) {p : Nat} (hp : p < l.length) : idx l (l.getD p 0) = p := by
  refine idx_step hp (fun j hj e => ?_) rfl
  rw [List.nodup_iff_pairwise_ne, List.pairwise_iff_getElem] at hn
  have := hn j p (by omega) hp hj
  rw [getD_lt _ _ _ (show j < l.length by omega), getD_lt _ _ _ hp] at e
  exact this e
/-- all bytes of a text are an alphabet's -/
def inA (l : List UInt8) (s : ByteArray) : Prop := ∀ k : Nat, k < s.size → bat s (k : Int) ∈ l
theorem frL_perm {l : List UInt8} {s : ByteArray} : ∀ k, (∀ j : Nat, j < k → bat s (j : Int) ∈ l) → (frL l s k).Perm l
  | 0, _ => by rw [frL_0]
  | k + 1, h => by
    have ih := frL_perm k (fun j hj => h j (by omega))
    have hm : 0 ≤ idx (frL l s k) (bat s (k : Int)) := idx_mem.2 (ih.mem_iff.2 (h k (by omega)))
    have hlt := idx_lt (frL l s k) (bat s (k : Int))
    rw [frL]
    exact (mtf_perm _ _ (by omega)).trans ih
theorem ok_in {l : List UInt8} {s : ByteArray} (h : inA l s) : okF l s := fun k hk => idx_mem.2 ((frL_perm k (fun j hj => h j (by omega))).mem_iff.2 (h k hk))
theorem plL_at (l : List UInt8) (s : ByteArray) : ∀ n k, k < n → (plL l s n).getD k 0 = idx (frL l s k) (bat s (k : Int))
  | 0, k, h => by omega
  | n + 1, k, h => by
    have hl := plL_len l s n
    rw [plL, List.getD_eq_getElem?_getD]
    by_cases e : k = n
    · subst e
      rw [List.getElem?_append_right (by omega), hl, Nat.sub_self]; rfl
    · rw [List.getElem?_append_left (by omega), ← List.getD_eq_getElem?_getD]
      exact plL_at l s n k (by omega)
theorem bk_fr {l : List UInt8} {s : ByteArray} {n : Nat} : ∀ k, k ≤ n → bkL l (plL l s n) k = frL l s k
  | 0, _ => by rw [bkL_0, frL_0]
  | k + 1, h => by rw [bkL, frL, bk_fr k (by omega), plL_at l s n k (by omega)]
theorem tx_fr {l : List UInt8} {s : ByteArray} (h : inA l s) : ∀ k, k ≤ s.size → txL l (plL l s s.size) k = s.data.toList.take k
  | 0, _ => by rw [txL_0]; rfl
  | k + 1, hk => by
    have h0 := ok_in h k (by omega)
    rw [txL, tx_fr h k (by omega), bk_fr k (by omega), plL_at l s s.size k (by omega), (idx_at h0).1, bat_list, ← take_snoc _ _ _ (show k < s.data.toList.length from hk)]
theorem front_in {a s : ByteArray} (hR : RightP a) (h : inA a.data.toList s) : frontV a s = (plL a.data.toList s s.size, 0) := frontV_ok hR (ok_in h)
theorem after_in {a s : ByteArray} (hR : RightP a) (h : inA a.data.toList s) : afterV a s = (frS a s s.size, 0) := afterV_ok hR (ok_in h)
theorem okB_pl {l : List UInt8} {s : ByteArray} (h : inA l s) : okB l (plL l s s.size) := fun k hk => by
  rw [plL_len] at hk
  have h0 := ok_in h k hk
  have h1 := idx_lt (frL l s k) (bat s (k : Int))
  have h2 := (frL_perm k (fun j hj => h j (by omega))).length_eq
  rw [plL_at _ _ _ _ hk]; omega
theorem back_front {a s : ByteArray} (hR : RightP a) (h : inA a.data.toList s) : backV a (plL a.data.toList s s.size) = (s, 0) := by
  rw [backV, if_neg (by simpa using hR), if_pos (okB_pl h), plL_len, tx_fr h s.size (Nat.le_refl _), show s.data.toList.take s.size = s.data.toList from List.take_of_length_le (Nat.le_refl s.data.toList.length)]
/-! places, and back -/
theorem bkL_perm {l : List UInt8} {p : List Int} : ∀ k, (∀ j, j < k → 0 ≤ p.getD j 0 ∧ p.getD j 0 < l.length) → (bkL l p k).Perm l
  | 0, _ => by rw [bkL_0]
  | k + 1, h => by
    have ih := bkL_perm k (fun j hj => h j (by omega))
    have hk := h k (by omega)
    have hl := ih.length_eq
    rw [bkL]
    exact (mtf_perm _ _ (by omega)).trans ih
theorem txL_at (l : List UInt8) (p : List Int) : ∀ n k, k < n → (txL l p n).getD k 0 = (bkL l p k).getD (p.getD k 0).toNat 0
  | 0, k, h => by omega
  | n + 1, k, h => by
    have hl := txL_len l p n
    rw [txL, List.getD_eq_getElem?_getD]
    by_cases e : k = n
    · subst e
      rw [List.getElem?_append_right (by omega), hl, Nat.sub_self]; rfl
    · rw [List.getElem?_append_left (by omega), ← List.getD_eq_getElem?_getD]
      exact txL_at l p n k (by omega)
theorem idx_tx {a : ByteArray} {p : List Int} (hn : a.data.toList.Nodup) (h : okB a.data.toList p) (k : Nat) (hk : k < p.length) : idx (bkL a.data.toList p k) (bat (txS a p p.length) (k : Int)) = p.getD k 0 := by
  have hp := bkL_perm k (fun j hj => h j (by omega))
  have hl := hp.length_eq
  have h1 := h k hk
  have e : bat (txS a p p.length) (k : Int) = (bkL a.data.toList p k).getD (p.getD k 0).toNat 0 := txL_at a.data.toList p p.length k hk
  rw [e, idx_nodup (hp.nodup_iff.2 hn) (by omega)]; omega
theorem fr_bk {a : ByteArray} {p : List Int} (hn : a.data.toList.Nodup) (h : okB a.data.toList p) : ∀ k, k ≤ p.length → frL a.data.toList (txS a p p.length) k = bkL a.data.toList p k
  | 0, _ => by rw [bkL_0, frL_0]
  | k + 1, hk => by rw [frL, bkL, fr_bk hn h k (by omega), idx_tx hn h k (by omega)]
theorem pl_bk {a : ByteArray} {p : List Int} (hn : a.data.toList.Nodup) (h : okB a.data.toList p) : ∀ k, k ≤ p.length → plL a.data.toList (txS a p p.length) k = p.take k
  | 0, _ => by rw [plL_0]; rfl
  | k + 1, hk => by rw [plL, pl_bk hn h k (by omega), fr_bk hn h k (by omega), idx_tx hn h k (by omega), ← take_snoc _ _ _ (by omega)]
theorem back_places {a : ByteArray} {p : List Int} (hR : RightP a) (h : okB a.data.toList p) : backV a p = (txS a p p.length, 0) := by
  rw [backV, if_neg (by simpa using hR), if_pos h]; rfl
theorem front_back {a : ByteArray} {p : List Int} (hR : RightP a) (h : okB a.data.toList p) : frontV a (txS a p p.length) = (p, 0) := by
  have hn := right_nodup hR
  rw [frontV_ok hR (fun k hk => ?_), txS_size, pl_bk hn h p.length (Nat.le_refl _), List.take_of_length_le (Nat.le_refl _)]
  rw [txS_size] at hk
  rw [fr_bk hn h k (by omega), idx_tx hn h k hk]
  exact (h k hk).1
/-! two texts, one behind the other -/
theorem bat_extract (s : ByteArray) (i j k : Nat) (h : i + k < j) (_hj : j ≤ s.size) : bat (s.extract i j) (k : Int) = bat s ((i + k : Nat) : Int) := by
  rw [bat_list, bat_list, ByteArray.data_extract, Array.toList_extract, List.extract_eq_take_drop]
  simp only [List.getD_eq_getElem?_getD]
  rw [List.getElem?_take_of_lt (by omega), List.getElem?_drop]
theorem fr_congr {l : List UInt8} {s t : ByteArray} : ∀ k, (∀ j : Nat, j < k → bat s (j : Int) = bat t (j : Int)) → frL l s k = frL l t k ∧ plL l s k = plL l t k
  | 0, _ => by rw [frL_0, frL_0, plL_0, plL_0]; exact ⟨rfl, rfl⟩
  | k + 1, h => by
    obtain ⟨h1, h2⟩ := fr_congr k (fun j hj => h j (by omega))
    rw [frL, frL, plL, plL, h1, h2, h k (by omega)]
    exact ⟨rfl, rfl⟩
theorem fr_split {l : List UInt8} {s t : ByteArray} (i : Nat) : ∀ k, (∀ j : Nat, j < k → bat t (j : Int) = bat s ((i + j : Nat) : Int)) → frL l s (i + k) = frL (frL l s i) t k ∧ plL l s (i + k) = plL l s i ++ plL (frL l s i) t k
  | 0, _ => by rw [Nat.add_zero, frL_0, plL_0, List.append_nil]; exact ⟨rfl, rfl⟩
  | k + 1, h => by
    obtain ⟨h1, h2⟩ := fr_split i k (fun j hj => h j (by omega))
    rw [← Nat.add_assoc, frL, frL, plL, plL, h1, h2, h k (by omega), List.append_assoc]
    exact ⟨rfl, rfl⟩
end Gm
end Go.Proofs.Ytkjmdnehlodihaa
