/-
  MATHS of stage 8: what is put is taken.
-/
import Derived.Test.YtnomocicogbdpaaOq
namespace Go.Proofs.Ytnomocicogbdpaa
open Go.RowKit
namespace Pm
open Ab Oa Ob Oc Od Oe Of Og Oh Oi Oj Om Ok Ol Oq Bb Bm Bt Ca
/-- symbols, one word behind the other -/
def WB (l m : List Int) : List Bool := (m.map (wbits l)).flatten
theorem WB_app (l m n : List Int) : WB l (m ++ n) = WB l m ++ WB l n := by simp [WB]
theorem WB_1 (l : List Int) (x : Int) : WB l [x] = wbits l x := by simp [WB]
def InS (l m : List Int) : Prop := ∀ x ∈ m, inW l x
theorem put_ok {l m : List Int} (h : OkL l) (hm : InS l m) : putV l m = ((pack (WB l m), ((WB l m).length : Int)), 0) := by
  have h1 : (sndV l).2 = 0 := h
  rw [putV, if_neg (by simpa using h1), if_pos (show ∀ x ∈ m, inW l x from hm), bsW, List.take_length]; rfl
theorem wb_len {l : List Int} (h : OkL l) {x : Int} (hx : inW l x) : (wbits l x).length = ln l x.toNat := by
  unfold inW at hx
  rw [wbits, num_len, wdV_at h (by omega), Int.toNat_natCast]
theorem wb_val {l : List Int} (h : OkL l) {x : Int} (hx : inW l x) : val (wbits l x) = wN l x.toNat := by
  unfold inW at hx
  rw [wbits, val_num, wdV_at h (by omega)]
  simp only [Int.toNat_natCast]
  exact Nat.mod_eq_of_lt (wN_pow h (by omega))
theorem wb_le {l : List Int} (h : OkL l) {x : Int} (hx : inW l x) : (wbits l x).length ≤ 20 := by
  rw [wb_len h hx]
  unfold inW at hx
  exact (h.good (by omega)).2.1
theorem WB_le {l : List Int} (h : OkL l) : ∀ {m : List Int}, InS l m → (WB l m).length ≤ 20 * m.length
  | [], _ => by simp [WB]
  | x :: m, hm => by
    have ih := WB_le h (m := m) (fun y hy => hm y (by simp [hy]))
    have := wb_le h (hm x (by simp))
    rw [show x :: m = [x] ++ m from rfl, WB_app, WB_1, List.length_append, List.length_append, List.length_singleton]; omega
/-- how many bits the first words have -/
def nW (l m : List Int) (i : Nat) : Nat := (WB l (m.take i)).length
theorem nW_s {l m : List Int} (h : OkL l) (hm : InS l m) {i : Nat} (hi : i < m.length) : (nW l m i : Int) + l.getD (m.getD i 0).toNat 0 = (nW l m (i + 1) : Int) := by
  have e : m.take (i + 1) = m.take i ++ [m.getD i 0] := by rw [List.take_succ_eq_append_getElem hi, List.getD_eq_getElem?_getD, List.getElem?_eq_getElem hi]; rfl
  have hx : inW l (m.getD i 0) := hm _ (getD_mem' hi)
  have h2 := wb_len h hx
  have h3 : inW l (m.getD i 0) := hx
  unfold inW at h3
  have h4 := (h.good (s := (m.getD i 0).toNat) (by omega)).2.2
  unfold nW
  rw [e, WB_app, WB_1, List.length_append, h2, h4]; omega
theorem nW_end (l m : List Int) {i : Nat} (h : i = m.length) : nW l m i = (WB l m).length := by subst h; rw [nW, List.take_length]
theorem nW_le (l m : List Int) (i : Nat) : nW l m i ≤ (WB l m).length := by
  have : WB l m = WB l (m.take i) ++ WB l (m.drop i) := by rw [← WB_app, List.take_append_drop]
  rw [this, List.length_append]; unfold nW; omega
/-- a word stands where its bits do -/
theorem mt_bits {l : List Int} (h : OkL l) {k : Nat} (hk : k < l.length) {s : ByteArray} {a : Int} : Mt l s a k ↔ (a + ((wbits l (k : Int)).length : Int) ≤ 8 * s.size ∧ bitsAt s.data.toList a.toNat (wbits l (k : Int)).length = wbits l (k : Int)) := by
  have hx : inW l (k : Int) := ⟨by omega, by omega⟩
  have h1 := wb_len h hx
  have h2 := wb_val h hx
  rw [Int.toNat_natCast] at h1 h2
  unfold Mt vN
  rw [h1]
  constructor
  · rintro ⟨h3, h4⟩
    refine ⟨h3, ?_⟩
    rw [← h2] at h4
    exact val_inj _ _ (by rw [h1, bitsAt_len]) h4
  · rintro ⟨h3, h4⟩
    exact ⟨h3, by rw [h4, h2]⟩
theorem back {l : List Int} (h : OkL l) {m : List Int} (hm : InS l m) (A Z : List Bool) {i : Nat} (hi : i < m.length) : takV l (pack (A ++ WB l m ++ Z)) ((A.length : Int) + (nW l m i : Int)) = (m.getD i 0, (A.length : Int) + (nW l m (i + 1) : Int), 0) := by
  have hx : inW l (m.getD i 0) := hm _ (getD_mem' hi)
  obtain ⟨k, hk⟩ : ∃ k : Nat, m.getD i 0 = (k : Int) := ⟨(m.getD i 0).toNat, by unfold inW at hx; omega⟩
  have hkl : k < l.length := by unfold inW at hx; omega
  have e : m = m.take i ++ [(k : Int)] ++ m.drop (i + 1) := by
    rw [← hk]
    have e1 : m.take (i + 1) = m.take i ++ [m.getD i 0] := by rw [List.take_succ_eq_append_getElem hi, List.getD_eq_getElem?_getD, List.getElem?_eq_getElem hi]; rfl
    rw [← e1, List.take_append_drop]
  have hs := nW_s h hm hi
  rw [hk, Int.toNat_natCast, (h.good hkl).2.2] at hs
  have hW : A ++ WB l m ++ Z = (A ++ WB l (m.take i)) ++ wbits l (k : Int) ++ (WB l (m.drop (i + 1)) ++ Z) := by
    conv => lhs; rw [e]
    rw [WB_app, WB_app, WB_1]; simp only [List.append_assoc]
  have hM : Mt l (pack (A ++ WB l m ++ Z)) ((A.length : Int) + (nW l m i : Int)) k := by
    rw [mt_bits h hkl, hW, pack_size, pack_list]
    have hb := bitsAt_enc (A ++ WB l (m.take i)) (wbits l (k : Int)) (WB l (m.drop (i + 1)) ++ Z)
    have hl : ((A.length : Int) + (nW l m i : Int)).toNat = (A ++ WB l (m.take i)).length := by rw [List.length_append]; unfold nW; omega
    refine ⟨?_, by rw [hl]; exact hb⟩
    simp only [List.length_append]
    unfold nW
    omega
  rw [take_y h (by omega) hkl hM, hk]
  congr 2
  omega
theorem same_mt {l : List Int} (h : OkL l) {k : Nat} (hk : k < l.length) {s : ByteArray} {a : Int} (ha : 0 ≤ a) : Bt.same s.data.toList a (wbits l (k : Int)) = decide (Mt l s a k) := by
  have hz : s.data.toList.length = s.size := rfl
  have h1 := mt_bits h hk (s := s) (a := a)
  unfold Bt.same
  rw [hz]
  by_cases hm : Mt l s a k
  · have h2 := h1.1 hm
    rw [decide_eq_true ha, decide_eq_true h2.2, decide_eq_true hm, decide_eq_true (by omega)]; rfl
  · rw [decide_eq_false hm]
    by_cases h3 : a.toNat + (wbits l (k : Int)).length ≤ 8 * s.size
    · rw [decide_eq_false (fun h4 => hm (h1.2 ⟨by omega, h4⟩))]; simp
    · rw [decide_eq_false h3]; simp
/-- how many of the first words stand there -/
def mnV (l : List Int) (s : ByteArray) (a : Int) : Nat → Int
  | 0 => 0
  | k + 1 => mnV l s a k + if Mt l s a k then 1 else 0
theorem mn_none {l : List Int} {s : ByteArray} {a : Int} (h : ∀ i, i < l.length → ¬ Mt l s a i) : ∀ k, k ≤ l.length → mnV l s a k = 0
  | 0, _ => rfl
  | k + 1, hk => by rw [mnV, mn_none h k (by omega), if_neg (h k (by omega))]; rfl
theorem mn_one {l : List Int} (ho : OkL l) {s : ByteArray} {a : Int} (ha : 0 ≤ a) {i : Nat} (hi : i < l.length) (h : Mt l s a i) : ∀ k, k ≤ l.length → mnV l s a k = if i < k then 1 else 0
  | 0, _ => rfl
  | k + 1, hk => by
    rw [mnV, mn_one ho ha hi h k (by omega)]
    by_cases e : k = i
    · subst e
      rw [if_pos h, if_neg (by omega), if_pos (by omega)]; rfl
    · have : ¬ Mt l s a k := fun h2 => e (Mt_one ho ha (by omega) hi h2 h)
      rw [if_neg this]
      by_cases h3 : i < k
      · rw [if_pos h3, if_pos (by omega)]; rfl
      · rw [if_neg h3, if_neg (by omega)]; rfl
theorem mn_bd (l : List Int) (s : ByteArray) (a : Int) : ∀ k : Nat, 0 ≤ mnV l s a k ∧ mnV l s a k ≤ k
  | 0 => ⟨by rw [mnV]; omega, by rw [mnV]; omega⟩
  | k + 1 => by
    have := mn_bd l s a k
    rw [mnV]
    split <;> omega
end Pm
end Go.Proofs.Ytnomocicogbdpaa
