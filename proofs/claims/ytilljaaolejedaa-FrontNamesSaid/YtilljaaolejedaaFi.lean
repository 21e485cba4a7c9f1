/-
  WALKS of stage 5: an alphabet by itself; other names.
-/
import Derived.Test.YtilljaaolejedaaRows
import Derived.Test.YtilljaaolejedaaAbq
import Derived.Test.YtilljaaolejedaaCm
import Derived.Test.YtilljaaolejedaaFa
import Derived.Test.YtilljaaolejedaaFb
import Derived.Test.YtilljaaolejedaaFc
import Derived.Test.YtilljaaolejedaaFq
import Derived.Test.YtilljaaolejedaaFe
import Derived.Test.YtilljaaolejedaaFm
namespace Go.Proofs.Ytilljaaolejedaa
open Go.RowKit
namespace Fi
open Ab Cm Fa Fb Fc Fq Fe Fm
theorem ag3 (w : World) : (isAgg 3).run Try.prog w = .ok false w := by kernel_rfl
theorem sz3 (w : World) : (sizeOf 3).run Try.prog w = .ok 1 w := by kernel_rfl
/-! an alphabet by itself -/
theorem mtf_at (x y : List UInt8) (c : UInt8) : mtf (x ++ c :: y) x.length = c :: (x ++ y) := by
  unfold mtf
  simp [List.getD_eq_getElem?_getD, List.drop_append]
theorem idx_app {x y : List UInt8} {c : UInt8} (h : (x ++ c :: y).Nodup) : idx (x ++ c :: y) c = x.length := by
  have h1 := idx_nodup h (p := x.length) (by simp)
  have h2 : (x ++ c :: y).getD x.length 0 = c := by simp [List.getD_eq_getElem?_getD]
  rwa [h2] at h1
theorem self_fr {a s : ByteArray} (hR : RightP a) (hs : ∀ j : Nat, j < a.size → bat s (j : Int) = bat a (j : Int)) : ∀ k, k ≤ a.size → frL a.data.toList s k = (a.data.toList.take k).reverse ++ a.data.toList.drop k ∧ ∀ j, j < k → idx (frL a.data.toList s j) (bat s (j : Int)) = j
  | 0, _ => ⟨by rw [frL_0]; rfl, fun j hj => by omega⟩
  | k + 1, hk => by
    obtain ⟨h1, h2⟩ := self_fr hR hs k (by omega)
    have hl : a.data.toList.length = a.size := rfl
    have hb : bat s (k : Int) = a.data.toList[k] := by rw [hs k (by omega), bat_list, getD_lt]
    have hd : a.data.toList.drop k = a.data.toList[k] :: a.data.toList.drop (k + 1) := List.drop_eq_getElem_cons (by omega)
    have hn : ((a.data.toList.take k).reverse ++ a.data.toList[k] :: a.data.toList.drop (k + 1)).Nodup := by
      rw [← hd]
      refine ((List.Perm.append_right _ (List.reverse_perm _)).nodup_iff).2 ?_
      rw [List.take_append_drop]; exact right_nodup hR
    have hi := idx_app hn
    have hlen : (a.data.toList.take k).reverse.length = k := by rw [List.length_reverse, List.length_take]; omega
    have hik : idx (frL a.data.toList s k) (bat s (k : Int)) = k := by rw [h1, hb, hd, hi, hlen]
    refine ⟨?_, fun j hj => ?_⟩
    · rw [frL, hik, h1, hd, Int.toNat_natCast]
      have hm := mtf_at (a.data.toList.take k).reverse (a.data.toList.drop (k + 1)) a.data.toList[k]
      rw [hlen] at hm
      rw [hm, take_snoc _ k 0 (by omega), getD_lt _ k 0 (by omega), List.reverse_append]
      rfl
    · by_cases e : j = k
      · subst e; exact hik
      · exact h2 j (by omega)
theorem self_in {a s : ByteArray} (hs : ∀ j : Nat, j < a.size → bat s (j : Int) = bat a (j : Int)) (hz : s.size ≤ a.size) : inA a.data.toList s := fun j hj => by
  rw [hs j (by omega), bat_list, getD_lt _ _ _ (show j < a.data.toList.length from Nat.lt_of_lt_of_le hj hz)]
  exact List.getElem_mem _
/-- once more: each time the last place -/
theorem self_re {a : ByteArray} (hR : RightP a) : ∀ k, k ≤ a.size → frL a.data.toList.reverse a k = (a.data.toList.take k).reverse ++ (a.data.toList.drop k).reverse ∧ ∀ j : Nat, j < k → idx (frL a.data.toList.reverse a j) (bat a (j : Int)) = (a.size : Int) - 1
  | 0, _ => ⟨by rw [frL_0]; rfl, fun j hj => by omega⟩
  | k + 1, hk => by
    obtain ⟨h1, h2⟩ := self_re hR k (by omega)
    have hl : a.data.toList.length = a.size := rfl
    have hb : bat a (k : Int) = a.data.toList[k] := by rw [bat_list, getD_lt]
    have hd : a.data.toList.drop k = a.data.toList[k] :: a.data.toList.drop (k + 1) := List.drop_eq_getElem_cons (by omega)
    have he : frL a.data.toList.reverse a k = ((a.data.toList.take k).reverse ++ (a.data.toList.drop (k + 1)).reverse) ++ a.data.toList[k] :: [] := by
      rw [h1, hd, List.reverse_cons, List.append_assoc]
    have hn : (((a.data.toList.take k).reverse ++ (a.data.toList.drop (k + 1)).reverse) ++ a.data.toList[k] :: []).Nodup := by
      rw [← he, h1]
      refine ((List.Perm.append (List.reverse_perm _) (List.reverse_perm _)).nodup_iff).2 ?_
      rw [List.take_append_drop]; exact right_nodup hR
    have hi := idx_app hn
    have hlen : ((a.data.toList.take k).reverse ++ (a.data.toList.drop (k + 1)).reverse).length = a.size - 1 := by rw [List.length_append, List.length_reverse, List.length_reverse, List.length_take, List.length_drop]; omega
    have hik : idx (frL a.data.toList.reverse a k) (bat a (k : Int)) = (a.size : Int) - 1 := by rw [he, hb, hi, hlen]; omega
    refine ⟨?_, fun j hj => ?_⟩
    · rw [frL, hik, he, show ((a.size : Int) - 1).toNat = a.size - 1 by omega]
      have hm := mtf_at ((a.data.toList.take k).reverse ++ (a.data.toList.drop (k + 1)).reverse) [] a.data.toList[k]
      rw [hlen] at hm
      rw [hm, take_snoc _ k 0 (by omega), getD_lt _ k 0 (by omega), List.reverse_append, List.append_nil]
      rfl
    · by_cases e : j = k
      · subst e; exact hik
      · exact h2 j (by omega)
structure Self (a b : ByteArray) (l m : List Int) : Prop where
  fr : frontV a a = (l, 0)
  aft : afterV a a = (b, 0)
  fr2 : frontV a (a ++ a) = (m, 0)
  ll : l.length = a.size
  lb : b.size = a.size
  lm : m.length = 2 * a.size
  li : ∀ i, i < a.size → l.getD i 0 = i
  bi : ∀ i : Nat, i < a.size → bat b (i : Int) = bat a ((a.size - 1 - i : Nat) : Int)
  mi : ∀ i, i < a.size → m.getD i 0 = i
  mj : ∀ i, i < a.size → m.getD (a.size + i) 0 = (a.size : Int) - 1
theorem bat_app (a b : ByteArray) (j : Nat) : bat (a ++ b) (j : Int) = if j < a.size then bat a (j : Int) else bat b ((j - a.size : Nat) : Int) := by
  rw [bat_list, ByteArray.data_append, Array.toList_append, List.getD_eq_getElem?_getD, List.getElem?_append]
  have hl : a.data.toList.length = a.size := rfl
  rw [hl]
  split
  · rw [← List.getD_eq_getElem?_getD]; rfl
  · rw [← List.getD_eq_getElem?_getD]; rfl
theorem selfs {a : ByteArray} (hR : RightP a) : Self a (frS a a a.size) (plL a.data.toList a a.size) (plL a.data.toList (a ++ a) (2 * a.size)) := by
  have hl : a.data.toList.length = a.size := rfl
  have hin := self_in (a := a) (s := a) (fun _ _ => rfl) (Nat.le_refl _)
  have h1 := self_fr (a := a) (s := a) hR (fun _ _ => rfl) a.size (Nat.le_refl _)
  have hA : ∀ j : Nat, j < a.size → bat (a ++ a) (j : Int) = bat a (j : Int) := fun j hj => by rw [bat_app, if_pos hj]
  have h2 := self_fr (a := a) (s := a ++ a) hR hA a.size (Nat.le_refl _)
  have h3 := self_re hR a.size (Nat.le_refl _)
  have hz : (a ++ a).size = 2 * a.size := by rw [ByteArray.size_append]; omega
  have hin2 : inA a.data.toList (a ++ a) := fun j hj => by
    rw [bat_app]
    split
    · exact hin j (by omega)
    · exact hin _ (by omega)
  have hfr : frL a.data.toList (a ++ a) a.size = a.data.toList.reverse := by
    rw [h2.1, List.drop_of_length_le (by omega), List.take_of_length_le (by omega), List.append_nil]
  have hsp : ∀ k, k ≤ a.size → frL a.data.toList (a ++ a) (a.size + k) = frL a.data.toList.reverse a k := fun k hk => by
    have := (fr_split (l := a.data.toList) (s := a ++ a) (t := a) a.size k (fun j hj => by rw [bat_app, if_neg (by omega), Nat.add_sub_cancel_left])).1
    rw [this, hfr]
  exact {
    fr := front_in hR hin
    aft := after_in hR hin
    fr2 := by rw [front_in hR hin2, hz]
    ll := plL_len _ _ _
    lb := (frL_perm a.size (fun j hj => hin j hj)).length_eq
    lm := plL_len _ _ _
    li := fun i hi => by rw [plL_at _ _ _ _ hi, h1.2 i hi]
    bi := fun i hi => by
      show (frL a.data.toList a a.size).getD i 0 = a.data.toList.getD (a.size - 1 - i) 0
      rw [h1.1, List.drop_of_length_le (by omega), List.take_of_length_le (by omega), List.append_nil, getD_lt _ _ _ (by rw [List.length_reverse]; omega), getD_lt _ _ _ (by omega), List.getElem_reverse]
      congr 1
    mi := fun i hi => by rw [plL_at _ _ _ _ (by omega), h2.2 i hi]
    mj := fun i hi => by
      rw [plL_at _ _ _ _ (by omega), hsp i (by omega), bat_app, if_neg (by omega), Nat.add_sub_cancel_left, h3.2 i hi] }

set_option maxRecDepth 100000 in
set_option maxHeartbeats 1000000 in
theorem self_law (s0 : ByteArray) (hs0 : s0.size ≤ 9223372036854775807) :
    FPure Try.prog 7 [Is (.string s0)] (Is (.bool true)) := by
  refine FPure.of Try.func7 Try.ntmps7 rfl (by kernel_rfl) rfl rfl rfl ?_
  refine W_seq ?_
  refine W_regionE (c := 1) (c' := 2) (by kernel_rfl) rfl ?_
  refine Runs_p rfl (Valid.assignk (A := Is _) rfl rfl) rfl rfl ?_ -- law.go:151 assign
  refine Runs_nil ?_
  refine thenQ_n ?_
  refine W_seq ?_
  refine W_regionE (c := 2) (c' := 4) (by kernel_rfl) rfl ?_
  refine Runs_p rfl (Valid.call rfl (awake_s) trivial) rfl rfl ?_ -- law.go:152 call
  refine Runs_p rfl (Valid.assignk (A := Is _) rfl rfl) rfl rfl ?_ -- law.go:152 assign
  refine Runs_nil ?_
  refine thenQ_n ?_
  refine W_seq ?_
  refine W_regionE (c := 4) (c' := 7) (by kernel_rfl) rfl ?_
  refine Runs_p rfl (Valid.movek (A := Is _) rfl rfl) rfl rfl ?_ -- law.go:153 move
  refine Runs_p rfl (Valid.call rfl (alph_s _ (by omega)) ⟨argle rfl, trivial⟩) rfl rfl ?_ -- law.go:153 call
  refine Runs_p rfl (Valid.assignk (A := Is _) rfl rfl) rfl rfl ?_ -- law.go:153 assign
  refine Runs_nil ?_
  refine thenQ_n ?_
  refine W_seq ?_
  have hR : RightP (alphV s0) := alph_right s0 s0.size
  have has : (alphV s0).size ≤ 30 := alph_size s0 s0.size
  generalize alphV s0 = a at *
  have hP := selfs hR
  generalize frS a a a.size = b at *
  generalize plL a.data.toList a a.size = l at *
  generalize plL a.data.toList (a ++ a) (2 * a.size) = m at *
  have hll := hP.ll
  have hlb := hP.lb
  have hlm := hP.lm
  refine W_regionE (c := 7) (c' := 15) (by kernel_rfl) rfl ?_
  refine Runs_p rfl (Valid.movek (A := Is _) rfl rfl) rfl rfl ?_ -- law.go:154 move
  refine Runs_p rfl (Valid.movek (A := Is _) rfl rfl) rfl rfl ?_ -- law.go:154 move
  refine Runs_p rfl (Valid.call rfl (front_t hP.fr (by omega) (by omega)) ⟨argle rfl, argle rfl, trivial⟩) rfl rfl ?_ -- law.go:154 call
  refine Runs_p rfl (Valid.movek (A := Tup [Sl 1 _ _, Is _]) rfl rfl) rfl rfl ?_ -- law.go:154 move
  refine Runs_p rfl (Valid.extract _ rfl rfl rfl) rfl rfl ?_ -- law.go:154 extract
  refine Runs_p rfl (Valid.extract _ rfl rfl rfl) rfl rfl ?_ -- law.go:154 extract
  refine Runs_p rfl (Valid.assignk (A := Sl 1 _ _) rfl rfl) rfl rfl ?_ -- law.go:154 assign
  refine Runs_p rfl (Valid.assignk (A := Is _) rfl rfl) rfl rfl ?_ -- law.go:154 assign
  refine Runs_nil ?_
  refine thenQ_n ?_
  refine W_seq ?_
  refine W_regionE (c := 15) (c' := 23) (by kernel_rfl) rfl ?_
  refine Runs_p rfl (Valid.movek (A := Is _) rfl rfl) rfl rfl ?_ -- law.go:155 move
  refine Runs_p rfl (Valid.movek (A := Is _) rfl rfl) rfl rfl ?_ -- law.go:155 move
  refine Runs_p rfl (Valid.call rfl (after_t hP.aft (by omega) (by omega)) ⟨argle rfl, argle rfl, trivial⟩) rfl rfl ?_ -- law.go:155 call
  refine Runs_p rfl (Valid.movek (A := Tup [Is _, Is _]) rfl rfl) rfl rfl ?_ -- law.go:155 move
  refine Runs_p rfl (Valid.extract _ rfl rfl rfl) rfl rfl ?_ -- law.go:155 extract
  refine Runs_p rfl (Valid.extract _ rfl rfl rfl) rfl rfl ?_ -- law.go:155 extract
  refine Runs_p rfl (Valid.assignk (A := Is _) rfl rfl) rfl rfl ?_ -- law.go:155 assign
  refine Runs_p rfl (Valid.assignk (A := Is _) rfl rfl) rfl rfl ?_ -- law.go:155 assign
  refine Runs_nil ?_
  refine thenQ_n ?_
  refine W_seq ?_
  refine W_regionE (c := 23) (c' := 33) (by kernel_rfl) rfl ?_
  refine Runs_p rfl (Valid.movek (A := Is _) rfl rfl) rfl rfl ?_ -- law.go:156 move
  refine Runs_p rfl (Valid.movek (A := Is _) rfl rfl) rfl rfl ?_ -- law.go:156 move
  refine Runs_p rfl (Valid.movek (A := Is _) rfl rfl) rfl rfl ?_ -- law.go:156 move
  refine Runs_p rfl (Valid.cat rfl rfl rfl (by first | omega | (simp only [ByteArray.size_append, ByteArray.size_extract]; omega) | (simp only [maxLen]; omega))) rfl rfl ?_ -- law.go:156 binOp
  refine Runs_p rfl (Valid.call rfl (front_t hP.fr2 (by omega) (by rw [ByteArray.size_append]; omega)) ⟨argle rfl, argle rfl, trivial⟩) rfl rfl ?_ -- law.go:156 call
  refine Runs_p rfl (Valid.movek (A := Tup [Sl 1 _ _, Is _]) rfl rfl) rfl rfl ?_ -- law.go:156 move
  refine Runs_p rfl (Valid.extract _ rfl rfl rfl) rfl rfl ?_ -- law.go:156 extract
  refine Runs_p rfl (Valid.extract _ rfl rfl rfl) rfl rfl ?_ -- law.go:156 extract
  refine Runs_p rfl (Valid.assignk (A := Sl 1 _ _) rfl rfl) rfl rfl ?_ -- law.go:156 assign
  refine Runs_p rfl (Valid.assignk (A := Is _) rfl rfl) rfl rfl ?_ -- law.go:156 assign
  refine Runs_nil ?_
  refine thenQ_n ?_
  refine W_seq ?_
  refine W_seq ?_
  refine W_regionE (c := 33) (c' := 65) (by kernel_rfl) rfl ?_
  refine Runs_p rfl (Valid.movek (A := Is _) rfl rfl) rfl rfl ?_ -- law.go:157 move
  refine Runs_p rfl (Valid.neq rfl rfl rfl) rfl rfl ?_ -- law.go:157 binOp
  refine Runs_p rfl (Valid.movek (A := Is _) rfl rfl) rfl rfl ?_ -- law.go:157 move
  refine Runs_cnd rfl rfl (Grd.is rfl) [] (fun hg => trivial) (fun hg => Valid.movek (A := Is _) rfl rfl) (by rfl) rfl ?_
  refine Runs_cnd rfl rfl (Grd.is rfl) [(38, _)] (fun hg => ⟨cnd_at rfl (by first | exact hg | exact hg.1 | exact hg.1.1 | exact hg.1.1.1), trivial⟩) (fun hg => Valid.neq rfl rfl rfl) (by rfl) rfl ?_
  refine Runs_p rfl (Valid.pickor rfl rfl rfl rfl (fun h => by first | exact h | exact ⟨hg, h⟩)) rfl rfl ?_ -- law.go:157 pick
  refine Runs_p rfl (Valid.movek (A := Is _) rfl rfl) rfl rfl ?_ -- law.go:157 move
  refine Runs_cnd rfl rfl (Grd.is rfl) [] (fun hg => trivial) (fun hg => Valid.movek (A := Is _) rfl rfl) (by rfl) rfl ?_
  refine Runs_cnd rfl rfl (Grd.is rfl) [(42, _)] (fun hg => ⟨cnd_at rfl (by first | exact hg | exact hg.1 | exact hg.1.1 | exact hg.1.1.1), trivial⟩) (fun hg => Valid.neq rfl rfl rfl) (by rfl) rfl ?_
  refine Runs_p rfl (Valid.pickor rfl rfl rfl rfl (fun h => by first | exact h | exact ⟨hg, h⟩)) rfl rfl ?_ -- law.go:157 pick
  refine Runs_p rfl (Valid.movek (A := Is _) rfl rfl) rfl rfl ?_ -- law.go:157 move
  refine Runs_cnd rfl rfl (Grd.is rfl) [] (fun hg => trivial) (fun hg => Valid.movek (A := Sl 1 _ _) rfl rfl) (by rfl) rfl ?_
  refine Runs_cnd rfl rfl (Grd.is rfl) [(46, _)] (fun hg => ⟨cnd_at rfl (by first | exact hg | exact hg.1 | exact hg.1.1 | exact hg.1.1.1), trivial⟩) (fun hg => Valid.len rfl Try.underlying22 (Reads.sl rfl)) (by rfl) rfl ?_
  refine Runs_cnd rfl rfl (Grd.is rfl) [] (fun hg => trivial) (fun hg => Valid.movek (A := Is _) rfl rfl) (by rfl) rfl ?_
  refine Runs_cnd rfl rfl (Grd.is rfl) [(48, _)] (fun hg => ⟨cnd_at rfl (by first | exact hg | exact hg.1 | exact hg.1.1 | exact hg.1.1.1), trivial⟩) (fun hg => Valid.slen rfl Try.underlying9 rfl) (by rfl) rfl ?_
  refine Runs_cnd rfl rfl (Grd.is rfl) [(47, _), (49, _)] (fun hg => ⟨cnd_at rfl (by first | exact hg | exact hg.1 | exact hg.1.1 | exact hg.1.1.1), cnd_at rfl (by first | exact hg | exact hg.1 | exact hg.1.1 | exact hg.1.1.1), trivial⟩) (fun hg => Valid.neq rfl rfl rfl) (by rfl) rfl ?_
  refine Runs_p rfl (Valid.pickor rfl rfl rfl rfl (fun h => by first | exact h | exact ⟨hg, h⟩)) rfl rfl ?_ -- law.go:157 pick
  refine Runs_p rfl (Valid.movek (A := Is _) rfl rfl) rfl rfl ?_ -- law.go:157 move
  refine Runs_cnd rfl rfl (Grd.is rfl) [] (fun hg => trivial) (fun hg => Valid.movek (A := Is _) rfl rfl) (by rfl) rfl ?_
  refine Runs_cnd rfl rfl (Grd.is rfl) [(53, _)] (fun hg => ⟨cnd_at rfl (by first | exact hg | exact hg.1 | exact hg.1.1 | exact hg.1.1.1), trivial⟩) (fun hg => Valid.slen rfl Try.underlying9 rfl) (by rfl) rfl ?_
  refine Runs_cnd rfl rfl (Grd.is rfl) [] (fun hg => trivial) (fun hg => Valid.movek (A := Is _) rfl rfl) (by rfl) rfl ?_
  refine Runs_cnd rfl rfl (Grd.is rfl) [(55, _)] (fun hg => ⟨cnd_at rfl (by first | exact hg | exact hg.1 | exact hg.1.1 | exact hg.1.1.1), trivial⟩) (fun hg => Valid.slen rfl Try.underlying9 rfl) (by rfl) rfl ?_
  refine Runs_cnd rfl rfl (Grd.is rfl) [(54, _), (56, _)] (fun hg => ⟨cnd_at rfl (by first | exact hg | exact hg.1 | exact hg.1.1 | exact hg.1.1.1), cnd_at rfl (by first | exact hg | exact hg.1 | exact hg.1.1 | exact hg.1.1.1), trivial⟩) (fun hg => Valid.neq rfl rfl rfl) (by rfl) rfl ?_
  refine Runs_p rfl (Valid.pickor rfl rfl rfl rfl (fun h => by first | exact h | exact ⟨hg, h⟩)) rfl rfl ?_ -- law.go:157 pick
  refine Runs_p rfl (Valid.movek (A := Is _) rfl rfl) rfl rfl ?_ -- law.go:157 move
  refine Runs_cnd rfl rfl (Grd.is rfl) [] (fun hg => trivial) (fun hg => Valid.movek (A := Sl 1 _ _) rfl rfl) (by rfl) rfl ?_
  refine Runs_cnd rfl rfl (Grd.is rfl) [(60, _)] (fun hg => ⟨cnd_at rfl (by first | exact hg | exact hg.1 | exact hg.1.1 | exact hg.1.1.1), trivial⟩) (fun hg => Valid.len rfl Try.underlying22 (Reads.sl rfl)) (by rfl) rfl ?_
  refine Runs_cnd rfl rfl (Grd.is rfl) [] (fun hg => trivial) (fun hg => Valid.movek (A := Is _) rfl rfl) (by rfl) rfl ?_
  refine Runs_cnd rfl rfl (Grd.is rfl) [(62, _)] (fun hg => ⟨cnd_at rfl (by first | exact hg | exact hg.1 | exact hg.1.1 | exact hg.1.1.1), trivial⟩) (fun hg => Valid.slen rfl Try.underlying9 rfl) (by rfl) rfl ?_
  refine Runs_cnd rfl rfl (Grd.is rfl) [(63, _)] (fun hg => ⟨cnd_at rfl (by first | exact hg | exact hg.1 | exact hg.1.1 | exact hg.1.1.1), trivial⟩) (fun hg => Valid.mul rfl rfl rfl (room64 (by (try simp only [decide_eq_false_iff_not, Bool.or_eq_false_iff, not_true_eq_false, not_false_eq_true, ne_eq] at hg); first | omega | (simp only [Int.toNat_natCast, toNat_add, toNat_add1, List.length_append, List.length_cons, List.length_nil, List.length_replicate]; omega)) (by (try simp only [decide_eq_false_iff_not, Bool.or_eq_false_iff, not_true_eq_false, not_false_eq_true, ne_eq] at hg); first | omega | (simp only [Int.toNat_natCast, toNat_add, toNat_add1, List.length_append, List.length_cons, List.length_nil, List.length_replicate]; omega)))) (by rfl) rfl ?_
  refine Runs_cnd rfl rfl (Grd.is rfl) [(61, _), (64, _)] (fun hg => ⟨cnd_at rfl (by first | exact hg | exact hg.1 | exact hg.1.1 | exact hg.1.1.1), cnd_at rfl (by first | exact hg | exact hg.1 | exact hg.1.1 | exact hg.1.1.1), trivial⟩) (fun hg => Valid.neq rfl rfl rfl) (by rfl) rfl ?_
  refine Runs_p rfl (Valid.pickor rfl rfl rfl rfl (fun h => by first | exact h | exact ⟨hg, h⟩)) rfl rfl ?_ -- law.go:157 pick
  refine Runs_nil ?_
  refine thenQ_n ?_
  refine W_cond _ rfl (fun hb1 => ?_) (fun hb1 => ?_)
  · try simp only [decide_eq_true_eq, Bool.or_eq_true, not_true_eq_false, ne_eq] at hb1
    all_goals (
      exfalso
      rcases hb1 with ((((h | h) | h) | h) | h) | h
      · simp at h
      · simp at h
      · simp at h
      · omega
      · omega
      · omega
      
      done)
  · try simp only [decide_eq_false_iff_not, Bool.or_eq_false_iff, not_true_eq_false, not_false_eq_true, ne_eq] at hb1
    all_goals (
      refine W_skip ?_
      refine thenQ_n ?_
      refine W_seq ?_
      refine W_seq ?_
      refine W_regionE (c := 65) (c' := 66) (by kernel_rfl) rfl ?_
      refine Runs_p rfl (Valid.assignk (A := Is _) rfl rfl) rfl rfl ?_ -- law.go:160 assign
      refine Runs_nil ?_
      refine thenQ_n ?_
      refine W_block ?_
      refine W_loopx (G := Nat) (fun (i : Nat) => i ≤ a.size) [(3, Is _), (4, Is _), (5, Sl 1 _ _), (7, Is _), (9, Sl 1 _ _)] (fun (i : Nat) => [(11, Is (.int .i64 (i : Int)))]) [] (fun (i : Nat) => []) 66 (fun (i : Nat) => a.size - i) (0) [] (by first | trivial | omega | (simp; omega)) ⟨⟨(leq_is rfl rfl (by first | rfl | (simp; done) | omega | (simp [toNat_add, toNat_add1, Nat.add_assoc]; done) | (simp [toNat_add, toNat_add1]; omega))), trivial⟩, ⟨(leq_is rfl rfl rfl), (leq_is rfl rfl rfl), (leq_sl (Reads.sl rfl) rfl rfl rfl), (leq_is rfl rfl rfl), (leq_sl (Reads.sl rfl) rfl rfl rfl), trivial⟩, trivial, trivial, rfl, ⟨supg rfl, trivial⟩, ⟨supg rfl, supg rfl, supg rfl, supg rfl, supg rfl, trivial⟩, trivial, trivial, rfl, rfl⟩ ?_
      intro i hI1
      have hli : i < a.size → l.getD (i : Int).toNat 0 = i := hP.li i
      have hbi : i < a.size → bat b (i : Int) = bat a ((a.size : Int) - 1 - i) := fun h => by rw [hP.bi i h]; congr 1; omega
      have hmi : i < a.size → m.getD (i : Int).toNat 0 = i := hP.mi i
      have hmj : i < a.size → m.getD ((a.size : Int) + i).toNat 0 = (a.size : Int) - 1 := hP.mj i
      refine W_seq ?_
      refine W_seq ?_
      refine W_regionE (c := 66) (c' := 70) (by kernel_rfl) rfl ?_
      refine Runs_p rfl (Valid.movek (A := Is _) rfl rfl) rfl rfl ?_ -- law.go:160 move
      refine Runs_p rfl (Valid.movek (A := Is _) rfl rfl) rfl rfl ?_ -- law.go:160 move
      refine Runs_p rfl (Valid.slen rfl Try.underlying9 rfl) rfl rfl ?_ -- law.go:160 call
      refine Runs_p rfl (Valid.lss rfl rfl rfl) rfl rfl ?_ -- law.go:160 binOp
      refine Runs_nil ?_
      refine thenQ_n ?_
      refine W_cond _ rfl (fun hb2 => ?_) (fun hb2 => ?_)
      · try simp only [decide_eq_true_eq] at hb2
        all_goals (
          refine W_skip ?_
          refine thenQ_n ?_
          refine W_seq ?_
          refine W_block ?_
          refine W_seq ?_
          refine W_drawE (c := 70) (c' := 110) (by kernel_rfl) rfl ?_
          refine Runs_p rfl (Valid.movek (A := Sl 1 _ _) rfl rfl) rfl rfl ?_ -- law.go:161 move
          refine Runs_p rfl (Valid.movek (A := Is _) rfl rfl) rfl rfl ?_ -- law.go:161 move
          refine Runs_p rfl (Valid.eltaddr1 0 rfl Try.underlying22 sz3 (Reads.sl rfl) rfl (by first | omega | (simp only [Int.toNat_natCast, toNat_add, toNat_add1, List.length_append, List.length_cons, List.length_nil, List.length_replicate]; omega)) (by first | rfl | omega)) rfl rfl ?_ -- law.go:161 indexAddr
          refine Runs_p rfl (Valid.loadelt rfl ag3 rfl) rfl rfl ?_ -- law.go:161 load
          refine Runs_p rfl (Valid.movek (A := Is _) rfl rfl) rfl rfl ?_ -- law.go:161 move
          refine Runs_p rfl (Valid.neq rfl rfl rfl) rfl rfl ?_ -- law.go:161 binOp
          refine Runs_p rfl (Valid.movek (A := Is _) rfl rfl) rfl rfl ?_ -- law.go:161 move
          refine Runs_cnd rfl rfl (Grd.is rfl) [] (fun hg => trivial) (fun hg => Valid.movek (A := Is _) rfl rfl) (by rfl) rfl ?_
          refine Runs_cnd rfl rfl (Grd.is rfl) [] (fun hg => trivial) (fun hg => Valid.movek (A := Is _) rfl rfl) (by rfl) rfl ?_
          refine Runs_cnd rfl rfl (Grd.is rfl) [(80, _), (81, _)] (fun hg => ⟨cnd_at rfl (by first | exact hg | exact hg.1 | exact hg.1.1 | exact hg.1.1.1), cnd_at rfl (by first | exact hg | exact hg.1 | exact hg.1.1 | exact hg.1.1.1), trivial⟩) (fun hg => Valid.sindex rfl Try.underlying9 rfl rfl (by (try simp only [Int.toNat_natCast, decide_eq_false_iff_not, ne_eq] at hg); first | omega | (simp only [Int.toNat_natCast, toNat_add, toNat_add1, List.length_append, List.length_cons, List.length_nil, List.length_replicate]; omega))) (by rfl) rfl ?_
          refine Runs_cnd rfl rfl (Grd.is rfl) [] (fun hg => trivial) (fun hg => Valid.movek (A := Is _) rfl rfl) (by rfl) rfl ?_
          refine Runs_cnd rfl rfl (Grd.is rfl) [] (fun hg => trivial) (fun hg => Valid.movek (A := Is _) rfl rfl) (by rfl) rfl ?_
          refine Runs_cnd rfl rfl (Grd.is rfl) [(84, _)] (fun hg => ⟨cnd_at rfl (by first | exact hg | exact hg.1 | exact hg.1.1 | exact hg.1.1.1), trivial⟩) (fun hg => Valid.slen rfl Try.underlying9 rfl) (by rfl) rfl ?_
          refine Runs_cnd rfl rfl (Grd.is rfl) [(85, _)] (fun hg => ⟨cnd_at rfl (by first | exact hg | exact hg.1 | exact hg.1.1 | exact hg.1.1.1), trivial⟩) (fun hg => Valid.sub rfl rfl rfl (room64 (by (try simp only [Int.toNat_natCast, decide_eq_false_iff_not, ne_eq] at hg); first | omega | (simp only [Int.toNat_natCast, toNat_add, toNat_add1, List.length_append, List.length_cons, List.length_nil, List.length_replicate]; omega)) (by (try simp only [Int.toNat_natCast, decide_eq_false_iff_not, ne_eq] at hg); first | omega | (simp only [Int.toNat_natCast, toNat_add, toNat_add1, List.length_append, List.length_cons, List.length_nil, List.length_replicate]; omega)))) (by rfl) rfl ?_
          refine Runs_cnd rfl rfl (Grd.is rfl) [] (fun hg => trivial) (fun hg => Valid.movek (A := Is _) rfl rfl) (by rfl) rfl ?_
          refine Runs_cnd rfl rfl (Grd.is rfl) [(86, _), (87, _)] (fun hg => ⟨cnd_at rfl (by first | exact hg | exact hg.1 | exact hg.1.1 | exact hg.1.1.1), cnd_at rfl (by first | exact hg | exact hg.1 | exact hg.1.1 | exact hg.1.1.1), trivial⟩) (fun hg => Valid.sub rfl rfl rfl (room64 (by (try simp only [Int.toNat_natCast, decide_eq_false_iff_not, ne_eq] at hg); first | omega | (simp only [Int.toNat_natCast, toNat_add, toNat_add1, List.length_append, List.length_cons, List.length_nil, List.length_replicate]; omega)) (by (try simp only [Int.toNat_natCast, decide_eq_false_iff_not, ne_eq] at hg); first | omega | (simp only [Int.toNat_natCast, toNat_add, toNat_add1, List.length_append, List.length_cons, List.length_nil, List.length_replicate]; omega)))) (by rfl) rfl ?_
          refine Runs_cnd rfl rfl (Grd.is rfl) [(83, _), (88, _)] (fun hg => ⟨cnd_at rfl (by first | exact hg | exact hg.1 | exact hg.1.1 | exact hg.1.1.1), cnd_at rfl (by first | exact hg | exact hg.1 | exact hg.1.1 | exact hg.1.1.1), trivial⟩) (fun hg => Valid.sindex rfl Try.underlying9 rfl rfl (by (try simp only [Int.toNat_natCast, decide_eq_false_iff_not, ne_eq] at hg); first | omega | (simp only [Int.toNat_natCast, toNat_add, toNat_add1, List.length_append, List.length_cons, List.length_nil, List.length_replicate]; omega))) (by rfl) rfl ?_
          refine Runs_cnd rfl rfl (Grd.is rfl) [(82, _), (89, _)] (fun hg => ⟨cnd_at rfl (by first | exact hg | exact hg.1 | exact hg.1.1 | exact hg.1.1.1), cnd_at rfl (by first | exact hg | exact hg.1 | exact hg.1.1 | exact hg.1.1.1), trivial⟩) (fun hg => Valid.neq rfl rfl rfl) (by rfl) rfl ?_
          refine Runs_p rfl (Valid.pickor rfl rfl rfl rfl (fun h => by first | exact h | exact ⟨hg, h⟩)) rfl rfl ?_ -- law.go:161 pick
          refine Runs_p rfl (Valid.movek (A := Is _) rfl rfl) rfl rfl ?_ -- law.go:161 move
          refine Runs_cnd rfl rfl (Grd.is rfl) [] (fun hg => trivial) (fun hg => Valid.movek (A := Sl 1 _ _) rfl rfl) (by rfl) rfl ?_
          refine Runs_cnd rfl rfl (Grd.is rfl) [] (fun hg => trivial) (fun hg => Valid.movek (A := Is _) rfl rfl) (by rfl) rfl ?_
          refine Runs_cnd rfl rfl (Grd.is rfl) [(93, _), (94, _)] (fun hg => ⟨cnd_at rfl (by first | exact hg | exact hg.1 | exact hg.1.1 | exact hg.1.1.1), cnd_at rfl (by first | exact hg | exact hg.1 | exact hg.1.1 | exact hg.1.1.1), trivial⟩) (fun hg => Valid.eltaddr1 0 rfl Try.underlying22 sz3 (Reads.sl rfl) rfl (by (try simp only [Int.toNat_natCast, decide_eq_false_iff_not, Bool.or_eq_false_iff, ne_eq] at hg); first | omega | (simp only [Int.toNat_natCast, toNat_add, toNat_add1, List.length_append, List.length_cons, List.length_nil, List.length_replicate]; omega)) (by first | rfl | omega)) (by rfl) rfl ?_
          refine Runs_cnd rfl rfl (Grd.is rfl) [(95, _)] (fun hg => ⟨cnd_at rfl (by first | exact hg | exact hg.1 | exact hg.1.1 | exact hg.1.1.1), trivial⟩) (fun hg => Valid.loadelt rfl ag3 rfl) (by rfl) rfl ?_
          refine Runs_cnd rfl rfl (Grd.is rfl) [] (fun hg => trivial) (fun hg => Valid.movek (A := Is _) rfl rfl) (by rfl) rfl ?_
          refine Runs_cnd rfl rfl (Grd.is rfl) [(96, _), (97, _)] (fun hg => ⟨cnd_at rfl (by first | exact hg | exact hg.1 | exact hg.1.1 | exact hg.1.1.1), cnd_at rfl (by first | exact hg | exact hg.1 | exact hg.1.1 | exact hg.1.1.1), trivial⟩) (fun hg => Valid.neq rfl rfl rfl) (by rfl) rfl ?_
          refine Runs_p rfl (Valid.pickor rfl rfl rfl rfl (fun h => by first | exact h | exact ⟨hg, h⟩)) rfl rfl ?_ -- law.go:161 pick
          refine Runs_p rfl (Valid.movek (A := Is _) rfl rfl) rfl rfl ?_ -- law.go:161 move
          refine Runs_cnd rfl rfl (Grd.is rfl) [] (fun hg => trivial) (fun hg => Valid.movek (A := Sl 1 _ _) rfl rfl) (by rfl) rfl ?_
          refine Runs_cnd rfl rfl (Grd.is rfl) [] (fun hg => trivial) (fun hg => Valid.movek (A := Is _) rfl rfl) (by rfl) rfl ?_
          refine Runs_cnd rfl rfl (Grd.is rfl) [(102, _)] (fun hg => ⟨cnd_at rfl (by first | exact hg | exact hg.1 | exact hg.1.1 | exact hg.1.1.1), trivial⟩) (fun hg => Valid.slen rfl Try.underlying9 rfl) (by rfl) rfl ?_
          refine Runs_cnd rfl rfl (Grd.is rfl) [] (fun hg => trivial) (fun hg => Valid.movek (A := Is _) rfl rfl) (by rfl) rfl ?_
          refine Runs_cnd rfl rfl (Grd.is rfl) [(103, _), (104, _)] (fun hg => ⟨cnd_at rfl (by first | exact hg | exact hg.1 | exact hg.1.1 | exact hg.1.1.1), cnd_at rfl (by first | exact hg | exact hg.1 | exact hg.1.1 | exact hg.1.1.1), trivial⟩) (fun hg => Valid.add rfl rfl rfl (room64 (by (try simp only [Int.toNat_natCast, decide_eq_false_iff_not, Bool.or_eq_false_iff, ne_eq] at hg); first | omega | (simp only [Int.toNat_natCast, toNat_add, toNat_add1, List.length_append, List.length_cons, List.length_nil, List.length_replicate]; omega)) (by (try simp only [Int.toNat_natCast, decide_eq_false_iff_not, Bool.or_eq_false_iff, ne_eq] at hg); first | omega | (simp only [Int.toNat_natCast, toNat_add, toNat_add1, List.length_append, List.length_cons, List.length_nil, List.length_replicate]; omega)))) (by rfl) rfl ?_
          refine Runs_cnd rfl rfl (Grd.is rfl) [(101, _), (105, _)] (fun hg => ⟨cnd_at rfl (by first | exact hg | exact hg.1 | exact hg.1.1 | exact hg.1.1.1), cnd_at rfl (by first | exact hg | exact hg.1 | exact hg.1.1 | exact hg.1.1.1), trivial⟩) (fun hg => Valid.eltaddr1 0 rfl Try.underlying22 sz3 (Reads.sl rfl) rfl (by (try simp only [Int.toNat_natCast, decide_eq_false_iff_not, Bool.or_eq_false_iff, ne_eq] at hg); first | omega | (simp only [Int.toNat_natCast, toNat_add, toNat_add1, List.length_append, List.length_cons, List.length_nil, List.length_replicate]; omega)) (by first | rfl | omega)) (by rfl) rfl ?_
          refine Runs_cnd rfl rfl (Grd.is rfl) [(106, _)] (fun hg => ⟨cnd_at rfl (by first | exact hg | exact hg.1 | exact hg.1.1 | exact hg.1.1.1), trivial⟩) (fun hg => Valid.loadelt rfl ag3 rfl) (by rfl) rfl ?_
          refine Runs_cnd rfl rfl (Grd.is rfl) [] (fun hg => trivial) (fun hg => Valid.movek (A := Is _) rfl rfl) (by rfl) rfl ?_
          refine Runs_cnd rfl rfl (Grd.is rfl) [(108, _)] (fun hg => ⟨cnd_at rfl (by first | exact hg | exact hg.1 | exact hg.1.1 | exact hg.1.1.1), trivial⟩) (fun hg => Valid.slen rfl Try.underlying9 rfl) (by rfl) rfl ?_
          refine Runs_cnd rfl rfl (Grd.is rfl) [(109, _)] (fun hg => ⟨cnd_at rfl (by first | exact hg | exact hg.1 | exact hg.1.1 | exact hg.1.1.1), trivial⟩) (fun hg => Valid.sub rfl rfl rfl (room64 (by (try simp only [Int.toNat_natCast, decide_eq_false_iff_not, Bool.or_eq_false_iff, ne_eq] at hg); first | omega | (simp only [Int.toNat_natCast, toNat_add, toNat_add1, List.length_append, List.length_cons, List.length_nil, List.length_replicate]; omega)) (by (try simp only [Int.toNat_natCast, decide_eq_false_iff_not, Bool.or_eq_false_iff, ne_eq] at hg); first | omega | (simp only [Int.toNat_natCast, toNat_add, toNat_add1, List.length_append, List.length_cons, List.length_nil, List.length_replicate]; omega)))) (by rfl) rfl ?_
          refine Runs_cnd rfl rfl (Grd.is rfl) [(107, _), (110, _)] (fun hg => ⟨cnd_at rfl (by first | exact hg | exact hg.1 | exact hg.1.1 | exact hg.1.1.1), cnd_at rfl (by first | exact hg | exact hg.1 | exact hg.1.1 | exact hg.1.1.1), trivial⟩) (fun hg => Valid.neq rfl rfl rfl) (by rfl) rfl ?_
          refine Runs_p rfl (Valid.pickor rfl rfl rfl rfl (fun h => by first | exact h | exact ⟨hg, h⟩)) rfl rfl ?_ -- law.go:161 pick
          refine Runs_nil ?_
          refine ⟨_, _, rfl, rfl, by kernel_rfl, ?_⟩
          refine thenQ_n ?_
          refine W_cond _ rfl (fun hb3 => ?_) (fun hb3 => ?_)
          · try simp only [Int.toNat_natCast, toNat_add, decide_eq_true_eq, Bool.or_eq_true, ne_eq] at hb3
            all_goals (
              exfalso
              have h1 := hli (by omega)
              have h2 := hbi (by omega)
              have h3 := hmi (by omega)
              have h4 := hmj (by omega)
              simp only [Int.toNat_natCast, toNat_add] at h1 h3 h4
              rw [h2] at hb3
              rcases hb3 with ((h | h) | h) | h
              · omega
              · exact h rfl
              · omega
              · omega
              
              done)
          · try simp only [Int.toNat_natCast, toNat_add, decide_eq_false_iff_not, Bool.or_eq_false_iff, ne_eq] at hb3
            all_goals (
              refine W_skip ?_
              refine blockQ_n ?_
              refine thenQ_n ?_
              refine W_regionE (c := 110) (c' := 113) (by kernel_rfl) rfl ?_
              refine Runs_p rfl (Valid.movek (A := Is _) rfl rfl) rfl rfl ?_ -- law.go:160 move
              refine Runs_p rfl (Valid.add rfl rfl rfl (room64 (by first | omega | (simp only [Int.toNat_natCast, toNat_add, toNat_add1, List.length_append, List.length_cons, List.length_nil, List.length_replicate]; omega)) (by first | omega | (simp only [Int.toNat_natCast, toNat_add, toNat_add1, List.length_append, List.length_cons, List.length_nil, List.length_replicate]; omega)))) rfl rfl ?_ -- law.go:160 binOp
              refine Runs_p rfl (Valid.assignk (A := Is _) rfl rfl) rfl rfl ?_ -- law.go:160 assign
              refine Runs_nil ?_
              refine LoopQ.next (i + 1) [] (by omega) (by omega) ⟨⟨(leq_is rfl rfl (by first | rfl | (simp; done) | omega | (simp [toNat_add, toNat_add1, Nat.add_assoc]; done) | (simp [toNat_add, toNat_add1]; omega))), trivial⟩, ⟨(leq_is rfl rfl rfl), (leq_is rfl rfl rfl), (leq_sl (Reads.sl rfl) rfl rfl rfl), (leq_is rfl rfl rfl), (leq_sl (Reads.sl rfl) rfl rfl rfl), trivial⟩, trivial, trivial, rfl, ⟨supg rfl, trivial⟩, ⟨supg rfl, supg rfl, supg rfl, supg rfl, supg rfl, trivial⟩, trivial, trivial, rfl, rfl⟩
              done)
          done)
      · try simp only [decide_eq_false_iff_not] at hb2
        all_goals (
          refine W_exit ?_
          refine thenQ_e ?_
          refine loopQ_e ?_
          refine blockQ_x ?_
          refine thenQ_n ?_
          refine W_seq ?_
          refine W_regionE (c := 70) (c' := 72) (by kernel_rfl) rfl ?_
          refine Runs_p rfl (Valid.movek (A := Is _) rfl rfl) rfl rfl ?_ -- law.go:165 move
          refine Runs_p rfl (Valid.assignk (A := Is _) rfl rfl) rfl rfl ?_ -- law.go:165 assign
          refine Runs_nil ?_
          refine thenQ_n ?_
          refine W_ret ?_
          refine finQ_r ?_
          refine ResOk.one rfl (RVal.is rfl rfl (rfl))
          done)
      done)
end Fi
end Go.Proofs.Ytilljaaolejedaa
