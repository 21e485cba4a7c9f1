/-
  WALKS of stage 8: Take.
-/
import Derived.Test.YtdcenocljnlipaaRows
import Derived.Test.YtdcenocljnlipaaOa
import Derived.Test.YtdcenocljnlipaaOb
import Derived.Test.YtdcenocljnlipaaOc
import Derived.Test.YtdcenocljnlipaaOd
import Derived.Test.YtdcenocljnlipaaOe
import Derived.Test.YtdcenocljnlipaaOf
import Derived.Test.YtdcenocljnlipaaMha
namespace Go.Proofs.Ytdcenocljnlipaa
open Go.RowKit
namespace Og
open Ab Bm Bt Oa Ob Oc Od Oe Of Bb

theorem getD_mem' {l : List Int} {i : Nat} (h : i < l.length) : l.getD i 0 ∈ l := by
  rw [List.getD_eq_getElem?_getD, List.getElem?_eq_getElem h]; exact List.getElem_mem h
theorem gv_in {s : ByteArray} {a : Int} {m : Nat} (h0 : 0 ≤ a) (hm : m ≤ 64) (h : a + (m : Int) ≤ 8 * s.size) : getV s a (m : Int) = (((val (bitsAt s.data.toList a.toNat m) : Nat) : Int), 0) := by
  unfold getV
  rw [if_neg (by simp; omega), if_pos h, Int.toNat_natCast]
theorem gv_out {s : ByteArray} {a : Int} {m : Nat} (h0 : 0 ≤ a) (hm : m ≤ 64) (h : ¬ a + (m : Int) ≤ 8 * s.size) : getV s a (m : Int) = (0, 2) := by
  unfold getV
  rw [if_neg (by simp; omega), if_neg h]
theorem gv_succ {s : ByteArray} {a : Int} {n : Nat} (h0 : 0 ≤ a) (hn : n + 1 ≤ 64) (h : (getV s a ((n : Int) + 1)).2 = 0) : 2 * (getV s a (n : Int)).1 ≤ (getV s a ((n : Int) + 1)).1 ∧ a + ((n : Int) + 1) ≤ 8 * s.size := by
  rw [show (n : Int) + 1 = ((n + 1 : Nat) : Int) by omega] at h ⊢
  by_cases hb : a + ((n + 1 : Nat) : Int) ≤ 8 * s.size
  · rw [gv_in h0 hn hb, gv_in h0 (by omega) (by omega)]
    refine ⟨?_, hb⟩
    simp only
    unfold bitsAt
    rw [List.range_succ, List.map_append, val_append]
    simp [val]
    omega
  · rw [gv_out h0 hn hb] at h
    simp at h
def fiS (t : List Int) : Nat → Int
  | 0 => 0
  | k + 1 => 2 * fiS t k + t.getD (k + 1) 0
theorem fiS_bd {t : List Int} (h : ∀ v, 0 ≤ t.getD v 0 ∧ t.getD v 0 ≤ 258) : ∀ k, 0 ≤ fiS t k ∧ fiS t k + 258 ≤ 258 * 2 ^ k
  | 0 => by simp [fiS]
  | k + 1 => by
    have ih := fiS_bd h k
    have := h (k + 1)
    rw [fiS, Int.pow_succ]; omega
def tkR (l : List Int) (s : ByteArray) (a : Int) : Nat → Nat → Int × Int × Int
  | 0, _ => (0, 0, 3)
  | m + 1, k => if (getV s a ((k : Int) + 1)).2 ≠ 0 then (0, 0, (getV s a ((k : Int) + 1)).2) else if (getV s a ((k : Int) + 1)).1 < 2 * fiS (cntV l).1 k + (cntV l).1.getD (k + 1) 0 then (((nthV l ((k : Int) + 1) ((getV s a ((k : Int) + 1)).1 - 2 * fiS (cntV l).1 k).toNat : Nat) : Int), a + ((k : Int) + 1), 0) else tkR l s a m (k + 1)
def takV (l : List Int) (s : ByteArray) (a : Int) : Int × Int × Int := if (sndV l).2 ≠ 0 then (0, 0, (sndV l).2) else if a < 0 then (0, 0, 1) else tkR l s a (mxL l).toNat 0
theorem mx_le {l : List Int} (h : ∀ x ∈ l, good x) (hl : 1 ≤ l.length) : mxL l ≤ 20 := by
  have key : ∀ i, i ≤ l.length → 1 ≤ i → mxA l i ≤ 20 := by
    intro i
    induction i with
    | zero => intro _ h1; omega
    | succ i ih =>
      intro hi _
      have hg := h _ (getD_mem' (l := l) (i := i) (by omega))
      rw [← mxA_s (by omega)]
      unfold good at hg
      by_cases e : i = 0
      · subst e
        have e0 : mxA l 0 = l.getD 0 0 := rfl
        rw [e0]; omega
      · have := ih (by omega) (by omega); omega
  exact key _ (Nat.le_refl _) hl
theorem snd_ok {l : List Int} (h : (sndV l).2 = 0) : (sndV l).1 = (cntV l).1 ∧ (cntV l).2 = true := by
  unfold sndV at h ⊢
  split at h
  · simp at h
  · rename_i h1
    split at h
    · simp at h
    · rename_i h2
      rw [if_neg h1, if_neg h2]; exact ⟨rfl, by simpa using h1⟩

theorem gv_nn (s : ByteArray) (a n : Int) : 0 ≤ (getV s a n).1 ∧ (getV s a n).1 < 18446744073709551616 := by
  unfold getV
  split
  · exact ⟨by decide, by decide⟩
  · rename_i h
    split
    · have h2 := val_lt (bitsAt s.data.toList a.toNat n.toNat)
      rw [show (bitsAt s.data.toList a.toNat n.toNat).length = n.toNat by simp [bitsAt]] at h2
      have h3 : 2 ^ n.toNat ≤ 2 ^ 64 := Nat.pow_le_pow_right (by omega) (by simp at h; omega)
      simp only
      omega
    · exact ⟨by decide, by decide⟩
theorem tak_1 {l : List Int} {s : ByteArray} {a : Int} (h : ¬ (sndV l).2 = 0) : takV l s a = (0, 0, (sndV l).2) := by rw [takV, if_pos h]
theorem tak_2 {l : List Int} {s : ByteArray} {a : Int} (h : (sndV l).2 = 0) (ha : a < 0) : takV l s a = (0, 0, 1) := by rw [takV, if_neg (by simpa using h), if_pos ha]
theorem tak_3 {l : List Int} {s : ByteArray} {a : Int} (h : (sndV l).2 = 0) (ha : ¬ a < 0) : takV l s a = tkR l s a ((mxL l).toNat - 0) 0 := by rw [takV, if_neg (by simpa using h), if_neg ha]; rfl
theorem tk_e {l : List Int} {s : ByteArray} {a : Int} {k : Nat} (hk : (k : Int) + 1 ≤ mxL l) (h : takV l s a = tkR l s a ((mxL l).toNat - k) k) (he : ¬ (getV s a ((k : Int) + 1)).2 = 0) : takV l s a = (0, 0, (getV s a ((k : Int) + 1)).2) := by
  rw [h, show (mxL l).toNat - k = ((mxL l).toNat - k - 1) + 1 by omega, tkR, if_pos he]
theorem tk_y {l : List Int} {s : ByteArray} {a : Int} {k : Nat} (hk : (k : Int) + 1 ≤ mxL l) (h : takV l s a = tkR l s a ((mxL l).toNat - k) k) (he : (getV s a ((k : Int) + 1)).2 = 0) (hv : (getV s a ((k : Int) + 1)).1 < 2 * fiS (cntV l).1 k + (cntV l).1.getD (k + 1) 0) : takV l s a = (((nthV l ((k : Int) + 1) ((getV s a ((k : Int) + 1)).1 - 2 * fiS (cntV l).1 k).toNat : Nat) : Int), a + ((k : Int) + 1), 0) := by
  rw [h, show (mxL l).toNat - k = ((mxL l).toNat - k - 1) + 1 by omega, tkR, if_neg (by simpa using he), if_pos hv]
theorem tk_n {l : List Int} {s : ByteArray} {a : Int} {k : Nat} (hk : (k : Int) + 1 ≤ mxL l) (h : takV l s a = tkR l s a ((mxL l).toNat - k) k) (he : (getV s a ((k : Int) + 1)).2 = 0) (hv : ¬ (getV s a ((k : Int) + 1)).1 < 2 * fiS (cntV l).1 k + (cntV l).1.getD (k + 1) 0) : takV l s a = tkR l s a ((mxL l).toNat - (k + 1)) (k + 1) := by
  rw [h, show (mxL l).toNat - k = ((mxL l).toNat - (k + 1)) + 1 by omega, tkR, if_neg (by simpa using he), if_neg hv]
theorem tk_0 {l : List Int} {s : ByteArray} {a : Int} {k : Nat} (hk : ¬ (k : Int) + 1 ≤ mxL l) (h : takV l s a = tkR l s a ((mxL l).toNat - k) k) : takV l s a = (0, 0, 3) := by
  rw [h, show (mxL l).toNat - k = 0 by omega, tkR]
end Og
end Go.Proofs.Ytdcenocljnlipaa
