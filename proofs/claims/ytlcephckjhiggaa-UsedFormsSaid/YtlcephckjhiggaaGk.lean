/-
  MATHEMATICS of stage 7: what is mapped is read; what is read is mapped.
-/
import Derived.Test.YtlcephckjhiggaaRows
import Derived.Test.YtlcephckjhiggaaAbt
import Derived.Test.YtlcephckjhiggaaBb
import Derived.Test.YtlcephckjhiggaaCa
import Derived.Test.YtlcephckjhiggaaGa
import Derived.Test.YtlcephckjhiggaaGb
import Derived.Test.YtlcephckjhiggaaGc
import Derived.Test.YtlcephckjhiggaaGd
import Derived.Test.YtlcephckjhiggaaGe
import Derived.Test.YtlcephckjhiggaaGf
import Derived.Test.YtlcephckjhiggaaGg
import Derived.Test.YtlcephckjhiggaaGh
import Derived.Test.YtlcephckjhiggaaGi
import Derived.Test.YtlcephckjhiggaaGj
namespace Go.Proofs.Ytlcephckjhiggaa
open Go.RowKit
namespace Gk
open Ab Bm Bt Bb Ca Ga Gb Gc Gd Ge Gf Gg Gh Gi Gj

theorem bat_extract (s : ByteArray) (i j k : Nat) (h : i + k < j) : bat (s.extract i j) (k : Int) = bat s ((i + k : Nat) : Int) := by
  show (s.extract i j).data.toList.getD k 0 = s.data.toList.getD (i + k) 0
  rw [ByteArray.data_extract, Array.toList_extract, List.extract_eq_take_drop]
  simp only [List.getD_eq_getElem?_getD]
  rw [List.getElem?_take_of_lt (by omega), List.getElem?_drop]
theorem ba_ext {a b : ByteArray} (h : a.data.toList = b.data.toList) : a = b := by
  cases a; cases b
  rw [ByteArray.mk.injEq]
  exact Array.toList_inj.1 h

abbrev bt (s : ByteArray) (a : Nat) : Bool := Bm.bit s.data.toList a
/-- the bits stand there -/
def hasAt (s : ByteArray) (a : Nat) (b : List Bool) : Prop := a + b.length ≤ 8 * s.size ∧ ∀ i, i < b.length → bt s (a + i) = b.getD i false
theorem has_app {s : ByteArray} {a : Nat} {b c : List Bool} : hasAt s a (b ++ c) ↔ hasAt s a b ∧ hasAt s (a + b.length) c := by
  unfold hasAt
  rw [List.length_append]
  constructor
  · rintro ⟨h1, h2⟩
    refine ⟨⟨by omega, fun i hi => ?_⟩, by omega, fun i hi => ?_⟩
    · rw [h2 i (by omega), List.getD_eq_getElem?_getD, List.getElem?_append_left hi, ← List.getD_eq_getElem?_getD]
    · rw [Nat.add_assoc, h2 (b.length + i) (by omega), List.getD_eq_getElem?_getD, List.getElem?_append_right (by omega), Nat.add_sub_cancel_left, ← List.getD_eq_getElem?_getD]
  · rintro ⟨⟨h1, h2⟩, h3, h4⟩
    refine ⟨by omega, fun i hi => ?_⟩
    by_cases h : i < b.length
    · rw [h2 i h, List.getD_eq_getElem?_getD, List.getD_eq_getElem?_getD, List.getElem?_append_left h]
    · have := h4 (i - b.length) (by omega)
      rw [show a + b.length + (i - b.length) = a + i by omega] at this
      rw [this, List.getD_eq_getElem?_getD, List.getD_eq_getElem?_getD, List.getElem?_append_right (by omega)]
theorem has_pack (x b y : List Bool) : hasAt (pack (x ++ b ++ y)) x.length b := by
  refine ⟨by rw [pack_size]; simp only [List.length_append]; omega, fun i hi => ?_⟩
  show Bm.bit (pack (x ++ b ++ y)).data.toList (x.length + i) = _
  rw [pack_list, enc_bit, List.append_assoc, List.getD_eq_getElem?_getD, List.getElem?_append_right (by omega), Nat.add_sub_cancel_left, List.getElem?_append_left hi, ← List.getD_eq_getElem?_getD]
theorem bt_cut {s : ByteArray} {K a : Nat} (_hK : K ≤ s.size) (h : a + 1 ≤ 8 * K) : bt (s.extract 0 K) a = bt s a := by
  unfold bt Bm.bit
  congr 1
  have := bat_extract s 0 K (a / 8) (by omega)
  rw [Nat.zero_add] at this
  exact this
theorem ext_all (s : ByteArray) : s.extract 0 s.size = s := by
  apply ba_ext
  rw [ByteArray.data_extract]
  simp only [Array.toList_extract, List.extract_eq_take_drop]
  exact List.take_of_length_le (Nat.le_of_eq rfl)

theorem has_bits {s : ByteArray} {a : Nat} {b : List Bool} (h : hasAt s a b) : bitsAt s.data.toList a b.length = b := by
  obtain ⟨_, h2⟩ := h
  apply List.ext_getElem?
  intro i
  by_cases hi : i < b.length
  · have := h2 i hi
    rw [List.getElem?_eq_getElem (by rw [bitsAt_len]; exact hi), List.getElem?_eq_getElem hi]
    rw [getD_lt _ _ _ hi] at this
    simp only [bitsAt, List.getElem_map, List.getElem_range]
    exact congrArg some this
  · rw [List.getElem?_eq_none (by rw [bitsAt_len]; omega), List.getElem?_eq_none (by omega)]
theorem bits_has {s : ByteArray} {a n : Nat} (h : a + n ≤ 8 * s.size) : hasAt s a (bitsAt s.data.toList a n) := by
  refine ⟨by rw [bitsAt_len]; exact h, fun i hi => ?_⟩
  rw [bitsAt_len] at hi
  rw [List.getD_eq_getElem?_getD, bitsAt_get _ _ _ _ hi]; rfl
theorem get_has {s : ByteArray} {a : Nat} {b : List Bool} (h : hasAt s a b) (hb : b.length = 16) : getV s (a : Int) 16 = (((val b : Nat) : Int), 0) := by
  have h1 := has_bits h
  have h2 := h.1
  rw [hb] at h1 h2
  rw [getV, if_neg (by rw [decide_eq_true (show (0 : Int) ≤ a by omega)]; decide), if_pos (by omega)]
  show (((val (bitsAt s.data.toList a 16) : Nat) : Int), (0 : Int)) = _
  rw [h1]
theorem has_get {s : ByteArray} {a : Nat} (h : a + 16 ≤ 8 * s.size) : hasAt s a (num (getV s (a : Int) 16).1.toNat 16) := by
  have h1 := bits_has (n := 16) h
  have h2 := get_has h1 (bitsAt_len _ _ _)
  rw [h2]
  show hasAt s a (num (val (bitsAt s.data.toList a 16)) 16)
  have h3 := num_val (bitsAt s.data.toList a 16)
  rw [bitsAt_len] at h3
  rw [h3]; exact h1
theorem vb16 {b : List Bool} (hb : b.length = 16) {i : Nat} (hi : i < 16) : (val b).testBit (15 - i) = b.getD i false := by
  have := val_bit b i (by omega)
  rw [getD_lt _ _ _ (by omega), show 15 - i = b.length - 1 - i by omega]
  exact this
theorem nb16 (v : Nat) {i : Nat} (hi : i < 16) : (num v 16).getD i false = v.testBit (15 - i) := by
  rw [List.getD_eq_getElem?_getD, num_get _ _ _ hi]; rfl
theorem row_at (h : List Bool) (k : Nat) {i : Nat} (hi : i < 16) : (rowB h k 16).getD i false = h.getD (16 * k + i) false := by
  rw [getD_lt _ _ _ (by rw [rowB_len]; exact hi)]; simp [rowB]
theorem fir_at (h : List Bool) {k : Nat} (hk : k < 16) : (firB h 16).getD k false = anyR h k 16 := by
  rw [getD_lt _ _ _ (by rw [firB_len]; exact hk)]; simp [firB]
theorem any_iff (h : List Bool) (k : Nat) : anyR h k 16 = true ↔ ∃ i, i < 16 ∧ h.getD (16 * k + i) false = true := by
  unfold anyR rowB
  rw [List.any_map, List.any_eq_true]
  constructor
  · rintro ⟨i, h1, h2⟩; exact ⟨i, List.mem_range.1 h1, h2⟩
  · rintro ⟨i, h1, h2⟩; exact ⟨i, List.mem_range.2 h1, h2⟩
theorem alB_row (h : List Bool) (k : Nat) : ∀ i, i ≤ 16 → alB h (16 * k + i) = alB h (16 * k) ++ rL (val (rowB h k 16)) k i
  | 0, _ => by rw [rL_0, List.append_nil]; rfl
  | i + 1, hi => by
    rw [← Nat.add_assoc, alB, rL, alB_row h k i (by omega), vb16 (rowB_len _ _ _) (by omega), row_at h k (by omega)]
    split
    · rw [List.append_assoc]
    · rfl
theorem rL_none (k : Nat) : ∀ i, rL 0 k i = []
  | 0 => rL_0 _ _
  | i + 1 => by rw [rL, if_neg (by rw [Nat.zero_testBit]; decide), rL_none k i]
theorem alB_skip {h : List Bool} {k : Nat} (e : anyR h k 16 = false) : alB h (16 * k + 16) = alB h (16 * k) := by
  have h1 : val (rowB h k 16) = 0 := (val_zero _).2 e
  rw [alB_row h k 16 (Nat.le_refl _), h1, rL_none, List.append_nil]
theorem res_pre (h : List Bool) (k : Nat) : ∀ d, ∃ r, resB h (k + d) = resB h k ++ r
  | 0 => ⟨[], by rw [List.append_nil]; rfl⟩
  | d + 1 => by
    obtain ⟨r, hr⟩ := res_pre h k d
    rw [← Nat.add_assoc, resB]
    split
    · exact ⟨r ++ rowB h (k + d) 16, by rw [hr, List.append_assoc]⟩
    · exact ⟨r, hr⟩
theorem fb (h : List Bool) {k : Nat} (hk : k < 16) : (val (firB h 16)).testBit (15 - k) = anyR h k 16 := by rw [vb16 (firB_len _ _) hk, fir_at h hk]
theorem uN_res (h : List Bool) (a : Int) : ∀ k, k ≤ 16 → uN (val (firB h 16)) a k = a + ((resB h k).length : Int)
  | 0, _ => by rw [uN, resB]; simp
  | k + 1, hk => by
    rw [uN, resB, fb h (by omega), uN_res h a k (by omega)]
    split
    · rw [List.length_append, rowB_len]; omega
    · rfl
theorem um_all {s : ByteArray} {a : Nat} {h : List Bool} (H : hasAt s a (firB h 16 ++ resB h 16)) : ∀ k, k ≤ 16 → uL s (val (firB h 16)) ((a : Int) + 16) k = alB h (16 * k) ∧ uE s (val (firB h 16)) ((a : Int) + 16) k = 0
  | 0, _ => ⟨by rw [uL_0, alB_0], by rw [uE_0]⟩
  | k + 1, hk => by
    obtain ⟨e1, e2⟩ := um_all H k (by omega)
    have hr := (has_app.1 H).2
    rw [firB_len] at hr
    obtain ⟨r, hp⟩ := res_pre h (k + 1) (15 - k)
    rw [show k + 1 + (15 - k) = 16 by omega] at hp
    rw [hp] at hr
    have hr := (has_app.1 hr).1
    rw [uL, uE, e1, e2, if_pos rfl, fb h (by omega)]
    by_cases e : anyR h k 16 = true
    · rw [resB, if_pos e] at hr
      have h1 := get_has (has_app.1 hr).2 (rowB_len _ _ _)
      have h2 : vA s (val (firB h 16)) ((a : Int) + 16) k = ((val (rowB h k 16) : Nat) : Int) := by
        rw [vA, uN_res h _ k (by omega), show (a : Int) + 16 + ((resB h k).length : Int) = ((a + 16 + (resB h k).length : Nat) : Int) by omega, h1]
      have h3 : ¬ val (rowB h k 16) = 0 := fun h4 => by
        have := (val_zero _).1 h4
        unfold anyR at e
        rw [this] at e; cases e
      rw [if_pos e, h2, Int.toNat_natCast, show 16 * (k + 1) = 16 * k + 16 by omega, alB_row h k 16 (Nat.le_refl _), if_neg (fun h4 => h3 (by omega))]
      exact ⟨rfl, rfl⟩
    · have e' : anyR h k 16 = false := by simpa using e
      rw [if_neg e, show 16 * (k + 1) = 16 * k + 16 by omega, alB_skip e', if_neg (fun h4 => e h4.1)]
      exact ⟨rfl, rfl⟩
theorem has_some {x : ByteArray} (hx : 0 < x.size) : ∃ k, k < 16 ∧ anyR (hasV x) k 16 = true := by
  have h1 := has_y (s := x) (k := 0) hx rfl
  have h2 := (bat x ((0 : Nat) : Int)).toNat_lt
  refine ⟨(bat x ((0 : Nat) : Int)).toNat / 16, by omega, (any_iff _ _).2 ⟨(bat x ((0 : Nat) : Int)).toNat % 16, by omega, ?_⟩⟩
  rw [show 16 * ((bat x ((0 : Nat) : Int)).toNat / 16) + (bat x ((0 : Nat) : Int)).toNat % 16 = (bat x ((0 : Nat) : Int)).toNat by omega, h1]
theorem fir_pos {x : ByteArray} (hx : 0 < x.size) : ¬ val (firB (hasV x) 16) = 0 := fun h => by
  obtain ⟨k, hk, h1⟩ := has_some hx
  rw [← fb _ hk, h, Nat.zero_testBit] at h1
  cases h1
theorem fir_lt (h : List Bool) : val (firB h 16) < 65536 := by
  have := val_lt (firB h 16)
  rw [firB_len] at this
  exact this
theorem map_len (x : ByteArray) : (mapB x).length = 16 + (resB (hasV x) 16).length := by rw [map_eq, List.length_append, firB_len]
theorem ones_res (h : List Bool) : 16 * onesV (val (firB h 16)) = (resB h 16).length := by
  have h1 := uN_res h 0 16 (Nat.le_refl _)
  rw [uN_cnt, cnt_ones _ (fir_lt h)] at h1
  omega
/-- what is mapped is read, wherever it stands -/
theorem unmap_has {s x : ByteArray} {a : Nat} (hx : 0 < x.size) (H : hasAt s a (mapB x)) : unmapV s (a : Int) = (alV x, ((a + (mapB x).length : Nat) : Int), 0) := by
  have hm := map_len x
  have hs := H.1
  rw [map_eq] at H
  have h1 := get_has (has_app.1 H).1 (firB_len _ _)
  obtain ⟨e1, e2⟩ := um_all H 16 (Nat.le_refl _)
  have h3 := uN_res (hasV x) ((a : Int) + 16) 16 (Nat.le_refl _)
  have h4 := ones_res (hasV x)
  have h5 := fir_pos hx
  rw [unmapV, h1, if_pos rfl, Int.toNat_natCast, if_neg (by omega), if_neg (by omega), e2, if_pos rfl, e1, h3, alV, show (a : Int) + 16 + ((resB (hasV x) 16).length : Int) = ((a + (mapB x).length : Nat) : Int) by omega]
theorem map_at (x : ByteArray) (p q : List Bool) : hasAt (pack (p ++ mapB x ++ q)) p.length (mapB x) := has_pack p (mapB x) q
theorem map_own (x : ByteArray) : hasAt (pack (mapB x)) 0 (mapB x) := by
  have := has_pack [] (mapB x) []
  rw [List.nil_append, List.append_nil] at this
  exact this
theorem map_zero {x : ByteArray} (hx : x.size = 0) : unmapV (pack (mapB x)) 0 = (⟨#[]⟩, 0, 3) := by
  have H := map_own x
  have hm := map_len x
  rw [map_eq] at H
  have h1 := get_has (has_app.1 H).1 (firB_len _ _)
  have hz : ∀ k, anyR (hasV x) k 16 = false := fun k => by
    rw [Bool.eq_false_iff]
    intro h
    obtain ⟨i, _, h2⟩ := (any_iff _ _).1 h
    rw [hasV, hx, has_00] at h2
    cases h2
  have h5 : val (firB (hasV x) 16) = 0 := (val_zero _).2 (by
    rw [List.any_eq_false]
    intro b hb
    obtain ⟨k, _, rfl⟩ := List.mem_map.1 hb
    rw [hz]; decide)
  have h6 : ((pack (mapB x)).size : Int) ≥ 2 := by have := pack_size (mapB x); omega
  rw [← map_eq] at h1
  have h1 : getV (pack (mapB x)) 0 16 = (((val (firB (hasV x) 16) : Nat) : Int), 0) := h1
  have h7 : onesV ((0 : Nat) : Int).toNat = 0 := by decide
  rw [unmapV, h1, h5, if_pos rfl, h7, if_neg (by omega)]
  exact if_pos rfl
theorem cut_un {x : ByteArray} {K : Nat} (hx : 0 < x.size) (hK : K ≤ (pack (mapB x)).size) : unmapV ((pack (mapB x)).extract 0 K) 0 = if K = (pack (mapB x)).size then (alV x, ((mapB x).length : Int), 0) else (⟨#[]⟩, 0, 2) := by
  have H := map_own x
  by_cases e : K = (pack (mapB x)).size
  · rw [if_pos e, e, show (pack (mapB x)).extract 0 (pack (mapB x)).size = pack (mapB x) from ext_all _]
    have := unmap_has hx H
    rw [Nat.zero_add] at this
    exact this
  · rw [if_neg e]
    have hz : ((pack (mapB x)).extract 0 K).size = K := by rw [ByteArray.size_extract]; omega
    have hps := pack_size (mapB x)
    have hm := map_len x
    have h4 := ones_res (hasV x)
    rw [map_eq] at H
    have hf := (has_app.1 H).1
    rw [unmapV]
    by_cases h2 : 2 ≤ K
    · have hc : hasAt ((pack (firB (hasV x) 16 ++ resB (hasV x) 16)).extract 0 K) 0 (firB (hasV x) 16) := by
        rw [← map_eq]
        refine ⟨by rw [hz, firB_len]; omega, fun i hi => ?_⟩
        rw [firB_len] at hi
        rw [bt_cut hK (by omega)]
        have := hf.2 i (by rw [firB_len]; exact hi)
        rw [← map_eq] at this
        exact this
      have h1 := get_has hc (firB_len _ _)
      rw [← map_eq] at h1
      have h1 : getV ((pack (mapB x)).extract 0 K) 0 16 = (((val (firB (hasV x) 16) : Nat) : Int), 0) := h1
      rw [h1, if_pos rfl, Int.toNat_natCast, if_pos (by rw [hz]; omega)]
    · have h1 : getV ((pack (mapB x)).extract 0 K) 0 16 = (0, 2) := by
        rw [getV, if_neg (by decide), if_neg (by rw [hz]; omega)]
      rw [h1, if_neg (by decide)]

/-! which bytes there are, of an alphabet -/
theorem has_any (s : ByteArray) {c : Nat} (hc : c < 256) : (hasV s).getD c false = s.data.toList.any fun u => Nat.beq u.toNat c := by
  have hl : (hasC s).length = 256 := by simp [hasC]
  rw [hasV_eq, getD_lt _ _ _ (by omega)]
  simp [hasC]
theorem list_256 {g h : List Bool} (hg : g.length = 256) (hh : h.length = 256) (e : ∀ c, c < 256 → g.getD c false = h.getD c false) : g = h := by
  apply List.ext_getElem (by omega)
  intro i h1 h2
  have := e i (by omega)
  rw [getD_lt _ _ _ h1, getD_lt _ _ _ h2] at this
  exact this
theorem alB_any (g : List Bool) {c : Nat} (hc : c < 256) : ((alB g 256).any fun u => Nat.beq u.toNat c) = g.getD c false := by
  rw [alB_eq, List.any_map, Bool.eq_iff_iff, List.any_eq_true]
  constructor
  · rintro ⟨j, h1, h2⟩
    obtain ⟨h3, h4⟩ := List.mem_filter.1 h1
    have h5 := List.mem_range.1 h3
    have h6 : (UInt8.ofNat j).toNat = c := Nat.eq_of_beq_eq_true h2
    rw [UInt8.toNat_ofNat', Nat.mod_eq_of_lt (show j < 2 ^ 8 from h5)] at h6
    subst h6; exact h4
  · intro h
    refine ⟨c, List.mem_filter.2 ⟨List.mem_range.2 hc, h⟩, ?_⟩
    show Nat.beq (UInt8.ofNat c).toNat c = true
    rw [UInt8.toNat_ofNat', Nat.mod_eq_of_lt (show c < 2 ^ 8 from hc)]
    exact Nat.beq_refl _
theorem has_alB {g : List Bool} (hg : g.length = 256) : hasV ⟨(alB g 256).toArray⟩ = g :=
  list_256 (hasV_len _) hg fun c hc => by rw [has_any _ hc]; exact alB_any g hc
theorem has_alV (x : ByteArray) : hasV (alV x) = hasV x := has_alB (hasV_len x)
theorem al_al (x : ByteArray) : alV (alV x) = alV x := by
  show (⟨(alB (hasV (alV x)) 256).toArray⟩ : ByteArray) = alV x
  rw [has_alV]; rfl
theorem map_al (x : ByteArray) : mapB (alV x) = mapB x := by unfold mapB; rw [has_alV]
/-! what is read is mapped -/
theorem uE_back {s : ByteArray} {f : Nat} {a : Int} {k : Nat} (h : uE s f a (k + 1) = 0) : uE s f a k = 0 ∧ (f.testBit (15 - k) = true → ¬ vA s f a k = 0) := by
  rw [uE] at h
  by_cases e : uE s f a k = 0
  · refine ⟨e, fun h1 h2 => ?_⟩
    rw [if_pos e, if_pos ⟨h1, h2⟩] at h
    exact absurd h (by decide)
  · rw [if_neg e] at h; exact absurd h e
theorem uE_all {s : ByteArray} {f : Nat} {a : Int} : ∀ n, uE s f a n = 0 → ∀ k, k < n → f.testBit (15 - k) = true → ¬ vA s f a k = 0
  | 0, _, k, hk => absurd hk (Nat.not_lt_zero _)
  | n + 1, h, k, hk => by
    obtain ⟨h1, h2⟩ := uE_back h
    by_cases e : k = n
    · subst e; exact h2
    · exact uE_all n h1 k (by omega)
def gB (s : ByteArray) (f : Nat) (a : Int) : List Bool := (List.range 256).map fun c => f.testBit (15 - c / 16) && (vA s f a (c / 16)).toNat.testBit (15 - c % 16)
theorem gB_at (s : ByteArray) (f : Nat) (a : Int) {k i : Nat} (hk : k < 16) (hi : i < 16) : (gB s f a).getD (16 * k + i) false = (f.testBit (15 - k) && (vA s f a k).toNat.testBit (15 - i)) := by
  rw [getD_lt _ _ _ (by simp [gB]; omega)]
  simp only [gB, List.getElem_map, List.getElem_range]
  rw [show (16 * k + i) / 16 = k by omega, show (16 * k + i) % 16 = i by omega]
theorem vA_n (s : ByteArray) (f : Nat) (a : Int) (k : Nat) : 0 ≤ vA s f a k ∧ (vA s f a k).toNat < 65536 := by
  obtain ⟨v, h1, h2⟩ := getV_n s (uN f a k)
  rw [vA, h1]; omega
theorem gB_row {s : ByteArray} {f : Nat} {a : Int} {k : Nat} (hk : k < 16) (h : f.testBit (15 - k) = true) : rowB (gB s f a) k 16 = num (vA s f a k).toNat 16 := by
  apply List.ext_getElem (by rw [rowB_len, num_len])
  intro i h1 h2
  rw [rowB_len] at h1
  rw [← getD_lt _ _ false (by rw [rowB_len]; exact h1), ← getD_lt _ _ false (by rw [num_len]; exact h1), row_at _ _ h1, gB_at s f a hk h1, h, nb16 _ h1]; rfl
theorem gB_no {s : ByteArray} {f : Nat} {a : Int} {k : Nat} (hk : k < 16) (h : f.testBit (15 - k) = false) : anyR (gB s f a) k 16 = false := by
  rw [Bool.eq_false_iff]
  intro h1
  obtain ⟨i, hi, h2⟩ := (any_iff _ _).1 h1
  rw [gB_at s f a hk hi, h] at h2
  cases h2
theorem gB_yes {s : ByteArray} {f : Nat} {a : Int} {k : Nat} (hk : k < 16) (h : f.testBit (15 - k) = true) (hv : ¬ vA s f a k = 0) : anyR (gB s f a) k 16 = true ∧ val (rowB (gB s f a) k 16) = (vA s f a k).toNat := by
  have hn := vA_n s f a k
  have h1 : val (rowB (gB s f a) k 16) = (vA s f a k).toNat := by
    rw [gB_row hk h, val_num, Nat.mod_eq_of_lt (show _ < 2 ^ 16 from hn.2)]
  refine ⟨?_, h1⟩
  cases e : anyR (gB s f a) k 16 with
  | true => rfl
  | false =>
    have := (val_zero _).2 e
    omega
theorem gB_all {s : ByteArray} {f : Nat} {a : Nat} (H : uE s f ((a : Int) + 16) 16 = 0) (hs : uN f ((a : Int) + 16) 16 ≤ 8 * s.size) : ∀ k, k ≤ 16 → uL s f ((a : Int) + 16) k = alB (gB s f ((a : Int) + 16)) (16 * k) ∧ uN f ((a : Int) + 16) k = ((a + 16 + (resB (gB s f ((a : Int) + 16)) k).length : Nat) : Int) ∧ hasAt s (a + 16) (resB (gB s f ((a : Int) + 16)) k)
  | 0, _ => ⟨by rw [uL_0, alB_0], by rw [uN_0, resB_0]; simp, by
      have := (uN_le f ((a : Int) + 16) 16).1
      rw [resB_0]
      exact ⟨by simp; omega, fun i hi => absurd hi (Nat.not_lt_zero _)⟩⟩
  | k + 1, hk => by
    obtain ⟨e1, e2, e3⟩ := gB_all H hs k (by omega)
    rw [uL, uN, resB, show 16 * (k + 1) = 16 * k + 16 by omega, e1]
    cases hf : f.testBit (15 - k) with
    | true =>
      have hv := uE_all 16 H k (by omega) hf
      obtain ⟨h1, h2⟩ := gB_yes (s := s) (a := (a : Int) + 16) (by omega) hf hv
      have h3 := uN_mono f ((a : Int) + 16) (k + 1) (15 - k)
      rw [← uN_y hf, show k + 1 + (15 - k) = 16 by omega] at h3
      have h4 := has_get (s := s) (a := a + 16 + (resB (gB s f ((a : Int) + 16)) k).length) (by omega)
      have h5 : (getV s ((a + 16 + (resB (gB s f ((a : Int) + 16)) k).length : Nat) : Int) 16).1 = vA s f ((a : Int) + 16) k := by rw [vA, e2]
      rw [h5, ← gB_row (by omega) hf] at h4
      rw [if_pos rfl, if_pos rfl, if_pos h1, alB_row _ k 16 (Nat.le_refl _), h2, List.length_append, rowB_len, e2]
      exact ⟨rfl, by omega, has_app.2 ⟨e3, h4⟩⟩
    | false =>
      have h1 := gB_no (s := s) (a := (a : Int) + 16) (by omega) hf
      rw [if_neg (by decide), if_neg (by decide), h1, if_neg (by decide), alB_skip h1]
      exact ⟨rfl, e2, e3⟩
theorem un_form {s : ByteArray} {a : Nat} (h : (unmapV s (a : Int)).2.2 = 0) : (unmapV s (a : Int)).2.1 = ((a + (mapB (unmapV s (a : Int)).1).length : Nat) : Int) ∧ hasAt s a (mapB (unmapV s (a : Int)).1) ∧ alV (unmapV s (a : Int)).1 = (unmapV s (a : Int)).1 ∧ 0 < (unmapV s (a : Int)).1.size := by
  obtain ⟨f, hf, hfl⟩ := getV_n s (a : Int)
  by_cases h0 : (getV s (a : Int) 16).2 = 0
  · by_cases h1 : 8 * (s.size : Int) < (a : Int) + 16 + 16 * ((onesV f : Nat) : Int)
    · rw [unmapV, if_pos h0, hf, Int.toNat_natCast, if_pos h1] at h; exact absurd h (by decide)
    · by_cases h2 : (f : Int) = 0
      · rw [unmapV, if_pos h0, hf, Int.toNat_natCast, if_neg h1, if_pos h2] at h; exact absurd h (by decide)
      · by_cases h3 : uE s f ((a : Int) + 16) 16 = 0
        · have hin := getV_in h0
          have hc : uN f ((a : Int) + 16) 16 = (a : Int) + 16 + 16 * ((onesV f : Nat) : Int) := by rw [uN_cnt, cnt_ones f hfl]
          obtain ⟨e1, e2, e3⟩ := gB_all h3 (by omega) 16 (Nat.le_refl _)
          have hg : (gB s f ((a : Int) + 16)).length = 256 := by simp [gB]
          have hv : unmapV s (a : Int) = (⟨(alB (gB s f ((a : Int) + 16)) 256).toArray⟩, uN f ((a : Int) + 16) 16, 0) := by
            rw [unmapV, if_pos h0, hf, Int.toNat_natCast, if_neg h1, if_neg h2, if_pos h3, e1]
          have hfi : firB (gB s f ((a : Int) + 16)) 16 = num f 16 := by
            apply List.ext_getElem (by rw [firB_len, num_len])
            intro i h4 h5
            rw [firB_len] at h4
            rw [← getD_lt _ _ false (by rw [firB_len]; exact h4), ← getD_lt _ _ false (by rw [num_len]; exact h4), fir_at _ h4, nb16 _ h4]
            cases hb : f.testBit (15 - i) with
            | true => exact (gB_yes (by omega) hb (uE_all 16 h3 i (by omega) hb)).1
            | false => exact gB_no (by omega) hb
          have hm : mapB (⟨(alB (gB s f ((a : Int) + 16)) 256).toArray⟩ : ByteArray) = num f 16 ++ resB (gB s f ((a : Int) + 16)) 16 := by
            rw [map_eq, has_alB hg, hfi]
          have h6 := has_get (s := s) (a := a) (by omega)
          rw [hf, Int.toNat_natCast] at h6
          rw [hv]
          refine ⟨?_, ?_, ?_, ?_⟩
          · show uN f ((a : Int) + 16) 16 = _
            rw [hm, e2, List.length_append, num_len]; omega
          · show hasAt s a (mapB _)
            rw [hm]
            exact has_app.2 ⟨h6, by rw [num_len]; exact e3⟩
          · show alV _ = _
            rw [alV, has_alB hg]
          · apply Nat.pos_of_ne_zero
            intro hz
            have hz' : (⟨(alB (gB s f ((a : Int) + 16)) 256).toArray⟩ : ByteArray).size = 0 := hz
            have h7 : ∀ k, anyR (gB s f ((a : Int) + 16)) k 16 = false := fun k => by
              rw [Bool.eq_false_iff]
              intro h8
              obtain ⟨i, _, h9⟩ := (any_iff _ _).1 h8
              rw [← has_alB hg, hasV, hz', has_00] at h9
              cases h9
            have h8 : val (num f 16) = 0 := by
              rw [← hfi]
              exact (val_zero _).2 (by
                rw [List.any_eq_false]
                intro b hb
                obtain ⟨k, _, rfl⟩ := List.mem_map.1 hb
                rw [h7]; decide)
            rw [val_num, Nat.mod_eq_of_lt (show f < 2 ^ 16 from hfl)] at h8
            omega
        · rw [unmapV, if_pos h0, hf, Int.toNat_natCast, if_neg h1, if_neg h2, if_neg h3] at h; exact absurd h (by decide)
  · rw [unmapV, if_neg h0] at h; exact absurd h h0
theorem un_err {s : ByteArray} {a : Nat} (h : ¬ (unmapV s (a : Int)).2.2 = 0) : (unmapV s (a : Int)).1 = ⟨#[]⟩ ∧ (unmapV s (a : Int)).2.1 = 0 ∧ ((unmapV s (a : Int)).2.2 = 2 ∨ (unmapV s (a : Int)).2.2 = 3) := by
  unfold unmapV at h ⊢
  by_cases h0 : (getV s (a : Int) 16).2 = 0
  · rw [if_pos h0] at h ⊢
    split
    · exact ⟨rfl, rfl, .inl rfl⟩
    · split
      · exact ⟨rfl, rfl, .inr rfl⟩
      · split
        · rename_i h1 h2 h3
          rw [if_neg h1, if_neg h2, if_pos h3] at h; exact absurd rfl h
        · exact ⟨rfl, rfl, .inr rfl⟩
  · rw [if_neg h0] at h ⊢
    exact ⟨rfl, rfl, .inl (gv2 (by omega) h0).1⟩
/-! the alphabet hangs on the bytes alone -/
theorem has_ext {x y : ByteArray} (e : ∀ c, c < 256 → (hasV x).getD c false = (hasV y).getD c false) : hasV x = hasV y := list_256 (hasV_len _) (hasV_len _) e
theorem has_cat (x y : ByteArray) {c : Nat} (hc : c < 256) : (hasV (x ++ y)).getD c false = ((hasV x).getD c false || (hasV y).getD c false) := by
  rw [has_any _ hc, has_any _ hc, has_any _ hc, ByteArray.data_append, Array.toList_append, List.any_append]
theorem al_of {x y : ByteArray} (e : hasV x = hasV y) : alV x = alV y := by unfold alV; rw [e]
theorem map_of {x y : ByteArray} (e : hasV x = hasV y) : mapB x = mapB y := by unfold mapB; rw [e]
theorem al_read (x : ByteArray) : (unmapV (pack (mapB x)) 0).1 = alV x := by
  by_cases h : 0 < x.size
  · have := unmap_has h (map_own x)
    rw [show (0 : Int) = ((0 : Nat) : Int) from rfl, this]
  · rw [map_zero (by omega), alV, hasV, show x.size = 0 by omega, alB_eq]
    have : ((List.range 256).filter fun c => (hasL x 0).getD c false) = [] := by
      rw [List.filter_eq_nil_iff]
      intro c _
      rw [has_00]; decide
    rw [this]; rfl
theorem map_al_iff (x y : ByteArray) : (pack (mapB x) = pack (mapB y) ∧ ((mapB x).length : Int) = ((mapB y).length : Int)) ↔ alV x = alV y := by
  constructor
  · rintro ⟨h, _⟩
    rw [← al_read x, ← al_read y, h]
  · intro h
    have : hasV x = hasV y := by rw [← has_alV x, ← has_alV y, h]
    rw [map_of this]
    exact ⟨rfl, rfl⟩
def alN (x : ByteArray) : List Nat := (List.range 256).filter fun c => (hasV x).getD c false
theorem alV_list (x : ByteArray) : (alV x).data.toList = (alN x).map UInt8.ofNat := alB_eq (hasV x) 256
theorem alN_lt {x : ByteArray} {c : Nat} (h : c ∈ alN x) : c < 256 ∧ (hasV x).getD c false = true := by
  obtain ⟨h1, h2⟩ := List.mem_filter.1 h
  exact ⟨List.mem_range.1 h1, h2⟩
theorem alN_len (x : ByteArray) : (alN x).length = (alV x).size := by
  have h : (alV x).data.toList.length = (alV x).size := rfl
  rw [← h, alV_list, List.length_map]
theorem alV_at {x : ByteArray} {i : Nat} (h : i < (alN x).length) : (bat (alV x) (i : Int)).toNat = (alN x)[i] := by
  have h1 := alN_lt (List.getElem_mem h)
  show ((alV x).data.toList.getD i 0).toNat = _
  rw [alV_list, getD_lt _ _ _ (by rw [List.length_map]; exact h), List.getElem_map, UInt8.toNat_ofNat', Nat.mod_eq_of_lt (show _ < 2 ^ 8 from h1.1)]
theorem alV_up {x : ByteArray} {i : Nat} (h : i + 1 < (alV x).size) : (bat (alV x) (i : Int)).toNat < (bat (alV x) ((i + 1 : Nat) : Int)).toNat := by
  rw [← alN_len] at h
  rw [alV_at (i := i) (by omega), alV_at (i := i + 1) h]
  have hp : (alN x).Pairwise (· < ·) := List.Pairwise.filter _ List.pairwise_lt_range
  exact List.pairwise_iff_getElem.1 hp i (i + 1) (by omega) h (by omega)
theorem alV_has {x : ByteArray} {i : Nat} (h : i < (alV x).size) : (hasV x).getD (bat (alV x) (i : Int)).toNat false = true := by
  rw [← alN_len] at h
  rw [alV_at h]
  exact (alN_lt (List.getElem_mem h)).2
/-! how long it is -/
def cntT (h : List Bool) (n : Nat) : Nat := (alB h n).length
theorem ite_len (c : Prop) [Decidable c] (l : List UInt8) (z : UInt8) : (if c then l ++ [z] else l).length = l.length + if c then 1 else 0 := by split <;> simp
theorem cnt_set (h : List Bool) (b : Nat) : ∀ n, cntT (h.set b true) n ≤ cntT h n + (if b < n then 1 else 0)
  | 0 => by unfold cntT; rw [alB_0, alB_0]; exact Nat.zero_le _
  | n + 1 => by
    have ih := cnt_set h b n
    unfold cntT at ih ⊢
    rw [alB, alB, ite_len, ite_len]
    by_cases e : b = n
    · subst e
      rw [if_neg (Nat.lt_irrefl _)] at ih
      rw [if_pos (Nat.lt_succ_self _)]
      split <;> split <;> omega
    · have h1 : (h.set b true).getD n false = h.getD n false := by
        rw [List.getD_eq_getElem?_getD, List.getElem?_set, if_neg e, ← List.getD_eq_getElem?_getD]
      have e2 : (if b < n + 1 then 1 else 0) = (if b < n then 1 else (0 : Nat)) := by split <;> split <;> omega
      rw [h1, e2]
      split <;> omega
theorem cnt_has (s : ByteArray) : ∀ k, cntT (hasL s k) 256 ≤ k
  | 0 => by
    have : ∀ n, cntT (hasL s 0) n = 0 := fun n => by
      unfold cntT
      induction n with
      | zero => rw [alB_0]; rfl
      | succ n ih => rw [alB, if_neg (by rw [has_00]; decide)]; exact ih
    rw [this]; exact Nat.le_refl _
  | k + 1 => by
    have h1 := cnt_has s k
    have h2 := cnt_set (hasL s k) (bat s (k : Int)).toNat 256
    rw [← has_1]
    split at h2 <;> omega
theorem alV_le (x : ByteArray) : (alV x).size ≤ x.size := cnt_has x x.size
def rowsL (s : ByteArray) : Nat → List Bool
  | 0 => List.replicate 16 false
  | k + 1 => (rowsL s k).set ((bat s (k : Int)).toNat / 16) true
  termination_by k => k
theorem rows_0 (s : ByteArray) : List.replicate 16 false = rowsL s 0 := by rw [rowsL]
theorem rows_1 (s : ByteArray) (k : Nat) : (rowsL s k).set ((bat s (k : Int)).toNat / 16) true = rowsL s (k + 1) := by rw [rowsL]
theorem rows_len (s : ByteArray) : ∀ k, (rowsL s k).length = 16
  | 0 => by rw [rowsL, List.length_replicate]
  | k + 1 => by rw [rowsL, List.length_set, rows_len s k]
theorem anyR_has (s : ByteArray) (k r : Nat) : anyR (hasL s (k + 1)) r 16 = (decide ((bat s (k : Int)).toNat / 16 = r) || anyR (hasL s k) r 16) := by
  rw [Bool.eq_iff_iff, any_iff, Bool.or_eq_true, any_iff, decide_eq_true_eq]
  constructor
  · rintro ⟨i, hi, h⟩
    rw [has_set, Bool.or_eq_true, decide_eq_true_eq] at h
    rcases h with h | h
    · exact .inl (by omega)
    · exact .inr ⟨i, hi, h⟩
  · rintro (h | ⟨i, hi, h⟩)
    · exact ⟨(bat s (k : Int)).toNat % 16, by omega, by rw [has_set, decide_eq_true (by omega)]; rfl⟩
    · exact ⟨i, hi, by rw [has_set, h, Bool.or_true]⟩
theorem rows_any (s : ByteArray) {r : Nat} (hr : r < 16) : ∀ k, (rowsL s k).getD r false = anyR (hasL s k) r 16
  | 0 => by
    rw [rowsL, List.getD_eq_getElem?_getD, List.getElem?_replicate, if_pos hr]
    symm
    rw [Option.getD_some, Bool.eq_false_iff]
    intro h
    obtain ⟨i, _, h1⟩ := (any_iff _ _).1 h
    rw [has_00] at h1; cases h1
  | k + 1 => by
    rw [anyR_has, ← rows_any s hr k, rowsL, List.getD_eq_getElem?_getD, List.getElem?_set]
    have hl := rows_len s k
    by_cases e : (bat s (k : Int)).toNat / 16 = r
    · rw [if_pos e, if_pos (by omega), decide_eq_true e]; rfl
    · rw [if_neg e, decide_eq_false e, List.getD_eq_getElem?_getD]; rfl
theorem anyR_more (x y : ByteArray) {r : Nat} (hr : r < 16) : anyR (hasV (x ++ y)) r 16 = (anyR (hasV x) r 16 || anyR (hasV y) r 16) := by
  rw [Bool.eq_iff_iff, any_iff, Bool.or_eq_true, any_iff, any_iff]
  constructor
  · rintro ⟨i, hi, h⟩
    rw [has_cat x y (by omega), Bool.or_eq_true] at h
    rcases h with h | h
    · exact .inl ⟨i, hi, h⟩
    · exact .inr ⟨i, hi, h⟩
  · rintro (⟨i, hi, h⟩ | ⟨i, hi, h⟩)
    · exact ⟨i, hi, by rw [has_cat x y (by omega), h]; rfl⟩
    · exact ⟨i, hi, by rw [has_cat x y (by omega), h, Bool.or_true]⟩
theorem anyR_one (c : UInt8) (r : Nat) : anyR (hasV ⟨#[c]⟩) r 16 = decide (c.toNat / 16 = r) := by
  have h := anyR_has ⟨#[c]⟩ 0 r
  have h0 : anyR (hasL ⟨#[c]⟩ 0) r 16 = false := by
    rw [Bool.eq_false_iff]
    intro h
    obtain ⟨i, _, h1⟩ := (any_iff _ _).1 h
    rw [has_00] at h1; cases h1
  rw [h0, Bool.or_false] at h
  exact h
theorem res_more {g h : List Bool} {q : Nat} (e : ∀ r, r < 16 → anyR g r 16 = (anyR h r 16 || decide (q = r))) : ∀ k, k ≤ 16 → (resB g k).length = (resB h k).length + if q < k ∧ anyR h q 16 = false then 16 else 0
  | 0, _ => by rw [resB_0, resB_0, if_neg (by omega)]; rfl
  | k + 1, hk => by
    have ih := res_more e k (by omega)
    rw [resB, resB, e k (by omega)]
    by_cases hq : q = k
    · subst hq
      rw [if_neg (by omega)] at ih
      rw [decide_eq_true rfl, Bool.or_true, if_pos rfl, List.length_append, rowB_len, ih]
      cases h1 : anyR h q 16 with
      | true => rw [if_pos rfl, if_neg (by simp), List.length_append, rowB_len]
      | false => rw [if_neg (by decide), if_pos ⟨by omega, rfl⟩]
    · have e2 : (if q < k + 1 ∧ anyR h q 16 = false then 16 else 0) = (if q < k ∧ anyR h q 16 = false then 16 else (0 : Nat)) := by
        by_cases h2 : q < k ∧ anyR h q 16 = false
        · rw [if_pos h2, if_pos ⟨by omega, h2.2⟩]
        · rw [if_neg h2, if_neg (fun h3 => h2 ⟨by omega, h3.2⟩)]
      rw [decide_eq_false hq, Bool.or_false, e2]
      split
      · rw [List.length_append, List.length_append, rowB_len, rowB_len, ih]; omega
      · exact ih
theorem map_more (x : ByteArray) (c : UInt8) : (mapB (x ++ ⟨#[c]⟩)).length = (mapB x).length + if anyR (hasV x) (c.toNat / 16) 16 = false then 16 else 0 := by
  have hc := c.toNat_lt
  have h1 := res_more (g := hasV (x ++ ⟨#[c]⟩)) (h := hasV x) (q := c.toNat / 16) (fun r hr => by rw [anyR_more x _ hr, anyR_one]) 16 (Nat.le_refl _)
  rw [map_len, map_len, h1]
  by_cases e : anyR (hasV x) (c.toNat / 16) 16 = false
  · rw [if_pos e, if_pos ⟨by omega, e⟩]; omega
  · rw [if_neg e, if_neg (fun h2 => e h2.2)]; omega
end Gk
end Go.Proofs.Ytlcephckjhiggaa
