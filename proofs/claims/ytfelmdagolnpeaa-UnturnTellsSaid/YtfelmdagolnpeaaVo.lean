/-
  MATHEMATICS of stage 14: what Back tells is what the reference tells.
-/
import Derived.Test.YtfelmdagolnpeaaVe
namespace Go.Proofs.Ytfelmdagolnpeaa
open Go.RowKit
namespace Vo
open Ab Vm Vd Vn Va Vb Ve
theorem ext_one (s : ByteArray) (i : Int) (h0 : 0 ≤ i) (h : i < s.size) : (s.extract i.toNat (i + 1).toNat).data.toList = [bat s i] := by
  have hlt : i.toNat < s.data.toList.length := by
    have : s.data.toList.length = s.size := rfl
    omega
  have hb : s.data.toList[i.toNat] = bat s i := (getD_lt _ _ 0 hlt).symm
  rw [show (i + 1).toNat = i.toNat + 1 by omega, ByteArray.data_extract, Array.toList_extract, List.extract_eq_take_drop, List.drop_eq_getElem_cons hlt, show i.toNat + 1 - i.toNat = 1 by omega]
  simp [hb]
theorem str_out (s : ByteArray) (o : Int) (h : 0 ≤ o) (h2 : o < s.size) : ∀ k, k ≤ s.size → (strR s o k).data.toList = (outL s o k).take k
  | 0, _ => by rw [str_0]; simp
  | k + 1, hk => by
    have hb := back_in s o h h2 (k + 1)
    have hl := out_len s o k
    rw [strR, outL, ByteArray.data_append, Array.toList_append, str_out s o h h2 k (by omega), ext_one s _ hb.1 hb.2]
    rw [take_snoc _ k 0 (by rw [List.length_set]; omega), List.take_set_of_le (Nat.le_refl k)]
    congr 1
    simp [List.getD_eq_getElem?_getD, show k < (outL s o k).length by omega]
theorem ref_back (s : ByteArray) (o : Int) : refR s o = backR s o := by
  unfold refR backR
  split
  · rfl
  · rename_i hc
    by_cases hz : s.size = 0
    · have e1 : strR s o s.size = ⟨(outL s o s.size).toArray⟩ := by
        rw [hz, str_0, outL, hz]; rfl
      rw [e1]
    · have h := str_out s o (by omega) (by omega) s.size (Nat.le_refl _)
      rw [List.take_of_length_le (by rw [out_len]; exact Nat.le_refl _)] at h
      have e1 : strR s o s.size = ⟨(outL s o s.size).toArray⟩ := by
        cases hx : strR s o s.size with
        | mk d => rw [hx] at h; rw [← h]
      rw [e1]
end Vo
end Go.Proofs.Ytfelmdagolnpeaa
