/-
  MATHEMATICS of stage 12: what is put is taken.
-/
import Derived.Test.YtkjmdnehlodihaaRows
import Derived.Test.YtkjmdnehlodihaaAbs
import Derived.Test.YtkjmdnehlodihaaBb
import Derived.Test.YtkjmdnehlodihaaCm
import Derived.Test.YtkjmdnehlodihaaFz
import Derived.Test.YtkjmdnehlodihaaGm
import Derived.Test.YtkjmdnehlodihaaCa
import Derived.Test.YtkjmdnehlodihaaEa
import Derived.Test.YtkjmdnehlodihaaEb
import Derived.Test.YtkjmdnehlodihaaEc
import Derived.Test.YtkjmdnehlodihaaEd
import Derived.Test.YtkjmdnehlodihaaEe
import Derived.Test.YtkjmdnehlodihaaEg
namespace Go.Proofs.Ytkjmdnehlodihaa
open Go.RowKit
namespace Eh
open Ab Bm Bt Bb Cm Fz Gm Ca Ea Eb Ec Ed Ee Eg

abbrev bt (s : ByteArray) (a : Nat) : Bool := Bm.bit s.data.toList a
theorem g_in {s : ByteArray} {a : Nat} (h : a + 1 ≤ 8 * s.size) : getV s (a : Int) 1 = (((bt s a).toNat : Int), 0) := by
  rw [getV, if_neg (by rw [decide_eq_true (show (0 : Int) ≤ a by omega)]; decide), if_pos (by omega)]
  show (((val [Bm.bit s.data.toList (a + 0)] : Nat) : Int), (0 : Int)) = _
  simp [val]
theorem g_out {s : ByteArray} {a : Nat} (h : ¬ a + 1 ≤ 8 * s.size) : getV s (a : Int) 1 = (0, 2) := by
  rw [getV, if_neg (by rw [decide_eq_true (show (0 : Int) ≤ a by omega)]; decide), if_neg (by omega)]
theorem tk_hit (s : ByteArray) : ∀ k f j a : Nat, k < f → a + k + 1 ≤ 8 * s.size → (∀ i, i < k → bt s (a + i) = true) → bt s (a + k) = false → tkF s f j (a : Int) = (j + k, ((a + k + 1 : Nat) : Int), 0)
  | 0, f, j, a, hf, h1, _, h3 => by
    have g := g_in (s := s) (a := a) (by omega)
    rw [Nat.add_zero] at h3
    rw [h3] at g
    rw [tk_n (by omega) (by rw [g]) (by rw [g]; rfl)]; rfl
  | k + 1, f, j, a, hf, h1, h2, h3 => by
    have g := g_in (s := s) (a := a) (by omega)
    have h4 := h2 0 (by omega)
    rw [Nat.add_zero] at h4
    rw [h4] at g
    have ih := tk_hit s k (f - 1) (j + 1) (a + 1) (by omega) (by omega) (fun i hi => by rw [show a + 1 + i = a + (i + 1) by omega]; exact h2 _ (by omega)) (by rw [show a + 1 + k = a + (k + 1) by omega]; exact h3)
    rw [tk_o (by omega) (by rw [g]) (by rw [g]; decide), show (a : Int) + 1 = ((a + 1 : Nat) : Int) by omega, ih, show j + 1 + k = j + (k + 1) by omega, show a + 1 + k + 1 = a + (k + 1) + 1 by omega]
theorem tk_full (s : ByteArray) : ∀ f j a : Nat, a + f ≤ 8 * s.size → (∀ i, i < f → bt s (a + i) = true) → tkF s f j (a : Int) = (0, 0, 3)
  | 0, j, a, _, _ => tk_0 _ _ _
  | f + 1, j, a, h1, h2 => by
    have g := g_in (s := s) (a := a) (by omega)
    have h4 := h2 0 (by omega)
    rw [Nat.add_zero] at h4
    rw [h4] at g
    rw [tk_o (by omega) (by rw [g]) (by rw [g]; decide), show (a : Int) + 1 = ((a + 1 : Nat) : Int) by omega]
    exact tk_full s f (j + 1) (a + 1) (by omega) (fun i hi => by rw [show a + 1 + i = a + (i + 1) by omega]; exact h2 _ (by omega))
/-- the bits stand there -/
def hasAt (s : ByteArray) (a : Nat) (b : List Bool) : Prop := a + b.length ≤ 8 * s.size ∧ ∀ i, i < b.length → bt s (a + i) = b.getD i false
theorem has_app {s : ByteArray} {a : Nat} {b c : List Bool} : hasAt s a (b ++ c) ↔ hasAt s a b ∧ hasAt s (a + b.length) c := by
  unfold hasAt
  rw [List.length_append]
  constructor
  · rintro ⟨h1, h2⟩
    refine ⟨⟨by omega, fun i hi => ?_⟩, by omega, fun i hi => ?_⟩
    · rw [h2 i (by omega), List.getD_eq_getElem?_getD, List.getElem?_append_left hi, ← List.getD_eq_getElem?_getD]
    · rw [Nat.add_assoc, h2 (b.length + i) (by omega), List.getD_eq_getElem?_getD, List.getElem?_append_right (by omega), Nat.add_sub_cancel_left, ← List.getD_eq_getElem?_getD]
  · rintro ⟨⟨h1, h2⟩, h3, h4⟩
    refine ⟨by omega, fun i hi => ?_⟩
    by_cases h : i < b.length
    · rw [h2 i h, List.getD_eq_getElem?_getD, List.getD_eq_getElem?_getD, List.getElem?_append_left h]
    · have := h4 (i - b.length) (by omega)
      rw [show a + b.length + (i - b.length) = a + i by omega] at this
      rw [this, List.getD_eq_getElem?_getD, List.getD_eq_getElem?_getD, List.getElem?_append_right (by omega)]
theorem has_pack (x b y : List Bool) : hasAt (pack (x ++ b ++ y)) x.length b := by
  refine ⟨by rw [pack_size]; simp only [List.length_append]; omega, fun i hi => ?_⟩
  show Bm.bit (pack (x ++ b ++ y)).data.toList (x.length + i) = _
  rw [pack_list, enc_bit, List.append_assoc, List.getD_eq_getElem?_getD, List.getElem?_append_right (by omega), Nat.add_sub_cancel_left, List.getElem?_append_left hi, ← List.getD_eq_getElem?_getD]
theorem un_1 (k i : Nat) (h : i < k) : (unB k).getD i false = true := by
  unfold unB
  rw [List.getD_eq_getElem?_getD, List.getElem?_append_left (by rw [List.length_replicate]; exact h), List.getElem?_replicate, if_pos h]; rfl
theorem un_0 (k : Nat) : (unB k).getD k false = false := by
  unfold unB
  rw [List.getD_eq_getElem?_getD, List.getElem?_append_right (by rw [List.length_replicate]; omega), List.length_replicate, Nat.sub_self]; rfl
theorem tk_un {s : ByteArray} {a k f : Nat} (j : Nat) (h : hasAt s a (unB k)) (hk : k < f) : tkF s f j (a : Int) = (j + k, ((a + k + 1 : Nat) : Int), 0) := by
  obtain ⟨h1, h2⟩ := h
  rw [unB_len] at h1 h2
  exact tk_hit s k f j a hk (by omega) (fun i hi => by rw [h2 i (by omega), un_1 k i hi]) (by rw [h2 k (by omega), un_0])
theorem tk_inv {s : ByteArray} : ∀ f j (a : Nat), (tkF s f j (a : Int)).2.2 = 0 → ∃ k, k < f ∧ hasAt s a (unB k) ∧ tkF s f j (a : Int) = (j + k, ((a + k + 1 : Nat) : Int), 0)
  | 0, j, a, h => by rw [tk_0] at h; exact absurd h (by decide)
  | f + 1, j, a, h => by
    by_cases hb : a + 1 ≤ 8 * s.size
    · have g := g_in hb
      cases hv : bt s a with
      | false =>
        have hu : hasAt s a (unB 0) := ⟨by rw [unB_len]; omega, fun i hi => by
          rw [unB_len] at hi
          obtain rfl : i = 0 := by omega
          rw [Nat.add_zero, hv, un_0]⟩
        exact ⟨0, by omega, hu, tk_un j hu (by omega)⟩
      | true =>
        rw [hv] at g
        have e : tkF s (f + 1) j (a : Int) = tkF s f (j + 1) ((a + 1 : Nat) : Int) := by
          rw [tk_o (by omega) (by rw [g]) (by rw [g]; decide), show (a : Int) + 1 = ((a + 1 : Nat) : Int) by omega]; rfl
        rw [e] at h
        obtain ⟨k, hk, h1, h2⟩ := tk_inv f (j + 1) (a + 1) h
        have hu : hasAt s a (unB (k + 1)) := ⟨by have := h1.1; rw [unB_len] at this ⊢; omega, fun i hi => by
          rw [unB_len] at hi
          cases i with
          | zero => rw [Nat.add_zero, hv, un_1 _ _ (by omega)]
          | succ i =>
            have := h1.2 i (by rw [unB_len]; omega)
            rw [show a + 1 + i = a + (i + 1) by omega] at this
            rw [this]
            by_cases h3 : i < k
            · rw [un_1 _ _ h3, un_1 _ _ (by omega)]
            · obtain rfl : i = k := by omega
              rw [un_0, un_0]⟩
        exact ⟨k + 1, by omega, hu, tk_un j hu (by omega)⟩
    · have g := g_out hb
      rw [tk_e (by omega) (by rw [g]; decide), g] at h
      exact absurd h (by decide)
theorem bsF_s (c : List Int) (t : Int) (k : Nat) : bsF c t (k + 1) = bsF c t k ++ unB (idxI (stL (iniL t.toNat) c k) (c.getD k 0)) := by
  rw [bsF, bsF, bsL, List.flatten_append]; simp
theorem tk_all {s : ByteArray} {a : Nat} {c : List Int} {t : Int} (ht : 2 ≤ t ∧ t ≤ 6) (hok : okC c t) : ∀ k, k ≤ c.length → hasAt s a (bsF c t k) → fE s t a k = 0 ∧ tN s t a k = ((a + (bsF c t k).length : Nat) : Int) ∧ tL s t a k = stL (iniL t.toNat) c k ∧ tC s t a k = c.take k
  | 0, _, _ => ⟨fE_0 _ _ _, by rw [tN_0, bsF_0]; rfl, by rw [tL_0, stL_0], by rw [tC_0]; rfl⟩
  | k + 1, hk, h => by
    rw [bsF_s] at h
    obtain ⟨h1, h2⟩ := has_app.1 h
    obtain ⟨e1, e2, e3, e4⟩ := tk_all ht hok k (by omega) h1
    have hid : idxI (stL (iniL t.toNat) c k) (c.getD k 0) < t.toNat := by
      have h3 := st_pl ht hok k (by omega)
      have h4 := front_in (abc_right t.toNat (by omega)) (cs_in ht hok)
      have h5 := okB_pl (cs_in ht hok) k (by rw [plL_len, cs_size]; omega)
      rw [cs_size, h3] at h5
      have hs := (abc_all t.toNat (by omega)).2.1
      rw [ByteArray.size, ← Array.length_toList] at hs
      omega
    have h6 := tk_un 0 h2 hid
    rw [Nat.zero_add] at h6
    have hv := hok k (by omega)
    have hm := idxI_at (st_mem ht (k := k) (fun j hj => hok j (by omega)) hv.1 hv.2)
    refine ⟨?_, ?_, ?_, ?_⟩
    · rw [fE_1 e1, e2, h6]
    · rw [tN, e2, h6, bsF_s, List.length_append, unB_len]; simp only []; omega
    · rw [tL, e2, h6, e3, tkL, if_pos rfl, stL]
    · rw [tC, e2, h6, e3, e4, tkV, if_pos rfl, take_snoc c k 0 (by omega), hm]
theorem take_put {s : ByteArray} {a : Nat} {c : List Int} {t : Int} (ht : 2 ≤ t ∧ t ≤ 6) (hok : okC c t) (k : Nat) (hk : k ≤ c.length) (hc : c.length ≤ 1000) (h : hasAt s a (bsF c t k)) : takeV s (a : Int) (k : Int) t = (c.take k, ((a + (bsF c t k).length : Nat) : Int), 0) := by
  obtain ⟨e1, e2, e3, e4⟩ := tk_all ht hok k hk h
  rw [take_ok (by omega) (k := k) (by omega) e1, e2, e4]

/-! what is read is put -/
theorem tC_ok {s : ByteArray} {t : Int} {a : Nat} {n : Nat} (ht : 2 ≤ t ∧ t ≤ 6) (h : fE s t a n = 0) : okC (tC s t a n) t := fun k hk => by
  rw [tC_len] at hk
  have h1 := tk_lt h k hk
  have hl := bkL_perm (l := (abc t.toNat).data.toList) (p := pP s t a n) k (fun j hj => pP_ok ht h j (by rw [pP_len]; omega))
  have hs := (abc_all t.toNat (by omega)).2.1
  rw [ByteArray.size, ← Array.length_toList] at hs
  have hz := hl.length_eq
  rw [tC_at n k hk, tkV, if_pos h1.1, tL_bk ht h k (by omega), at_map _ _ _ (by omega)]
  have hm : (bkL (abc t.toNat).data.toList (pP s t a n) k).getD (tkF s t.toNat 0 (tN s t a k)).1 0 ∈ (abc t.toNat).data.toList := hl.mem_iff.1 (by rw [getD_lt _ _ _ (by omega)]; exact List.getElem_mem _)
  have := abc_lt (by omega) hm
  unfold toI; omega
theorem put_take {s : ByteArray} {t : Int} {a n : Nat} (ht : 2 ≤ t ∧ t ≤ 6) (ha : a ≤ 8 * s.size) (h : fE s t a n = 0) : ∀ k, k ≤ n → stL (iniL t.toNat) (tC s t a n) k = tL s t a k ∧ hasAt s a (bsF (tC s t a n) t k) ∧ tN s t a k = ((a + (bsF (tC s t a n) t k).length : Nat) : Int)
  | 0, _ => ⟨by rw [stL_0, tL_0], by
      rw [bsF_0]
      exact ⟨ha, fun i hi => absurd hi (Nat.not_lt_zero _)⟩, by rw [tN_0, bsF_0]; rfl⟩
  | k + 1, hk => by
    obtain ⟨e1, e2, e3⟩ := put_take ht ha h k (by omega)
    have h1 := tk_lt h k (by omega)
    have hp := bkL_perm (l := (abc t.toNat).data.toList) (p := pP s t a n) k (fun j hj => pP_ok ht h j (by rw [pP_len]; omega))
    have hs := (abc_all t.toNat (by omega)).2.1
    rw [ByteArray.size, ← Array.length_toList] at hs
    have hz := hp.length_eq
    have hn := hp.nodup_iff.2 (abc_all t.toNat (by omega)).2.2
    have hid : idxI (tL s t a k) ((tC s t a n).getD k 0) = (tkF s t.toNat 0 (tN s t a k)).1 := by
      rw [tC_at n k (by omega), tkV, if_pos h1.1, tL_bk ht h k (by omega), at_map _ _ _ (by omega)]
      have h2 := idx_map _ (List.replicate (6 - t.toNat) 0) _ (show (bkL (abc t.toNat).data.toList (pP s t a n) k).getD (tkF s t.toNat 0 (tN s t a k)).1 0 ∈ bkL (abc t.toNat).data.toList (pP s t a n) k by rw [getD_lt _ _ _ (by omega)]; exact List.getElem_mem _)
      rw [idx_nodup hn (by omega)] at h2
      omega
    obtain ⟨d, hd, h3, h4⟩ := tk_inv t.toNat 0 (a + (bsF (tC s t a n) t k).length) (by rw [← e3]; exact h1.1)
    rw [← e3, Nat.zero_add] at h4
    rw [h4] at hid
    refine ⟨?_, ?_, ?_⟩
    · rw [stL, e1, hid, tL, tkL, if_pos h1.1, h4]
    · rw [bsF_s, e1, hid]
      exact has_app.2 ⟨e2, h3⟩
    · rw [tN, h4, bsF_s, e1, hid, List.length_append, unB_len]; simp only []; omega

/-! more tables than are told of; the first table alone; to and fro -/
theorem st_gen {c : List Int} {t : Int} (z : List Int) (ht : 2 ≤ t ∧ t ≤ 6) (h : okC c t) : ∀ k, k ≤ c.length → stL ((abc t.toNat).data.toList.map toI ++ z) c k = (frL (abc t.toNat).data.toList (csS c) k).map toI ++ z ∧ bsL ((abc t.toNat).data.toList.map toI ++ z) c k = (List.range k).map (fun j => unB (idx (frL (abc t.toNat).data.toList (csS c) j) (bat (csS c) (j : Int))).toNat)
  | 0, _ => ⟨by rw [stL_0, frL_0], by rw [bsL_0]; rfl⟩
  | k + 1, hk => by
    obtain ⟨ih, ih2⟩ := st_gen z ht h k (by omega)
    have hm : bat (csS c) (k : Int) ∈ frL (abc t.toNat).data.toList (csS c) k := (frL_perm k (fun j hj => cs_in ht h j (by rw [cs_size]; omega))).mem_iff.2 (cs_in ht h k (by rw [cs_size]; omega))
    have hx := idx_map _ z _ hm
    have hlt := idx_lt (frL (abc t.toNat).data.toList (csS c) k) (bat (csS c) (k : Int))
    constructor
    · rw [stL, ih, ← cs_toI ht.2 h k (by omega), mtf_map _ _ _ (by omega), ← frL_1, show Lib.indexByte (frL (abc t.toNat).data.toList (csS c) k) (bat (csS c) (k : Int)) = idx (frL (abc t.toNat).data.toList (csS c) k) (bat (csS c) (k : Int)) from rfl, ← hx, Int.toNat_natCast]
    · rw [bsL, ih, ih2, ← cs_toI ht.2 h k (by omega), List.range_succ, List.map_append]
      congr 1
      show [unB _] = [unB _]
      rw [← hx, Int.toNat_natCast]
theorem ini_more : ∀ t u : Nat, 2 ≤ t → t ≤ u → u ≤ 6 → iniL u = (abc t).data.toList.map toI ++ (iniL u).drop t := by
  intro t u h1 h2 h3
  rw [ini_form u h3, (abc_all t (by omega)).1]
  have ht : t = 2 ∨ t = 3 ∨ t = 4 ∨ t = 5 ∨ t = 6 := by omega
  have hu : u = 2 ∨ u = 3 ∨ u = 4 ∨ u = 5 ∨ u = 6 := by omega
  rcases ht with rfl | rfl | rfl | rfl | rfl <;> rcases hu with rfl | rfl | rfl | rfl | rfl <;> first | (exfalso; omega) | decide
theorem bs_more {c : List Int} {t u : Int} (ht : 2 ≤ t ∧ t ≤ 6) (hu : t ≤ u ∧ u ≤ 6) (h : okC c t) : bsF c u c.length = bsF c t c.length := by
  unfold bsF
  rw [ini_more t.toNat u.toNat (by omega) (by omega) (by omega), (st_gen _ ht h _ (Nat.le_refl _)).2, ini_abc t.toNat (by omega), (st_gen _ ht h _ (Nat.le_refl _)).2]
theorem put_more {c : List Int} {t u : Int} (ht : 2 ≤ t ∧ t ≤ 6) (hu : t ≤ u ∧ u ≤ 6) (h : okC c t) : putV c u = putV c t := by
  rw [put_0 ht h, put_0 ⟨by omega, hu.2⟩ (fun k hk => by have := h k hk; omega), putL, putL]
  have := bs_more ht hu h
  unfold bsF at this
  rw [this]
theorem ini_two (t : Int) (ht : 2 ≤ t ∧ t ≤ 6) : ∃ r, iniL t.toNat = 0 :: 1 :: r := by
  rw [ini_form t.toNat (by omega)]
  obtain ⟨d, hd⟩ : ∃ d, t.toNat = d + 2 := ⟨t.toNat - 2, by omega⟩
  rw [hd, List.range_succ_eq_map, List.range_succ_eq_map]
  exact ⟨_, rfl⟩
theorem zero_bs {c : List Int} {t : Int} (ht : 2 ≤ t ∧ t ≤ 6) (hz : ∀ k, c.getD k 0 = 0) : ∀ k, stL (iniL t.toNat) c k = iniL t.toNat ∧ bsF c t k = List.replicate k false
  | 0 => ⟨by rw [stL_0], by rw [bsF_0]; rfl⟩
  | k + 1 => by
    obtain ⟨e1, e2⟩ := zero_bs ht hz k
    obtain ⟨r, hr⟩ := ini_two t ht
    rw [bsF_s, stL, e1, e2, hz, hr]
    refine ⟨rfl, ?_⟩
    rw [List.replicate_succ']; rfl
theorem fro_bs {c : List Int} {t : Int} (ht : 2 ≤ t ∧ t ≤ 6) (n : Nat) (hz : ∀ k, k < n → c.getD k 0 = ((k : Int) + 1) % 2) {r : List Int} (hr : iniL t.toNat = 0 :: 1 :: r) : ∀ k, k ≤ n → stL (iniL t.toNat) c k = (if k % 2 = 0 then 0 :: 1 :: r else 1 :: 0 :: r) ∧ (bsF c t k).length = 2 * k
  | 0, _ => ⟨by rw [stL_0, hr]; rfl, by rw [bsF_0]; rfl⟩
  | k + 1, hk => by
    obtain ⟨e1, e2⟩ := fro_bs ht n hz hr k (by omega)
    rw [bsF_s, stL, List.length_append, e2, e1, hz k (by omega), unB_len]
    rcases Nat.mod_two_eq_zero_or_one k with h | h
    · rw [if_pos h, if_neg (by omega), show ((k : Int) + 1) % 2 = 1 by omega]
      exact ⟨rfl, by show 2 * k + (1 + 1) = _; omega⟩
    · rw [if_neg (by omega), if_pos (by omega), show ((k : Int) + 1) % 2 = 0 by omega]
      exact ⟨rfl, by show 2 * k + (1 + 1) = _; omega⟩

/-! cut off; ones -/
theorem bt_cut {s : ByteArray} {K a : Nat} (hK : K ≤ s.size) (h : a + 1 ≤ 8 * K) : bt (s.extract 0 K) a = bt s a := by
  unfold bt Bm.bit
  congr 1
  have := bat_extract s 0 K (a / 8) (by omega) hK
  rw [Nat.zero_add] at this
  exact this
theorem tk_cut {s : ByteArray} {K : Nat} (hK : K ≤ s.size) : ∀ f j a : Nat, tkF (s.extract 0 K) f j (a : Int) = tkF s f j (a : Int) ∨ tkF (s.extract 0 K) f j (a : Int) = (0, 0, 2)
  | 0, j, a => by rw [tk_0, tk_0]; exact .inl rfl
  | f + 1, j, a => by
    have hz : (s.extract 0 K).size = K := by rw [ByteArray.size_extract]; omega
    by_cases hb : a + 1 ≤ 8 * K
    · have g1 := g_in (s := s.extract 0 K) (a := a) (by omega)
      have g2 := g_in (s := s) (a := a) (by omega)
      rw [bt_cut hK hb] at g1
      cases hv : bt s a with
      | false =>
        rw [hv] at g1 g2
        rw [tk_n (s := s.extract 0 K) (f := f + 1) (k := j) (a := (a : Int)) (by omega) (by rw [g1]) (by rw [g1]; rfl), tk_n (s := s) (f := f + 1) (k := j) (a := (a : Int)) (by omega) (by rw [g2]) (by rw [g2]; rfl)]
        exact .inl rfl
      | true =>
        rw [hv] at g1 g2
        rw [tk_o (s := s.extract 0 K) (f := f + 1) (k := j) (a := (a : Int)) (by omega) (by rw [g1]) (by rw [g1]; decide), tk_o (s := s) (f := f + 1) (k := j) (a := (a : Int)) (by omega) (by rw [g2]) (by rw [g2]; decide), show (a : Int) + 1 = ((a + 1 : Nat) : Int) by omega]
        exact tk_cut hK f (j + 1) (a + 1)
    · have g := g_out (s := s.extract 0 K) (a := a) (by omega)
      rw [tk_e (by omega) (by rw [g]; decide), g]
      exact .inr rfl
theorem fE_cut {s : ByteArray} {t : Int} {a K n : Nat} (ht : 2 ≤ t ∧ t ≤ 6) (hK : K ≤ s.size) (h : fE s t a n = 0) (h0 : ∀ k, k ≤ n → 0 ≤ tN s t a k) : ∀ k, k ≤ n → (fE (s.extract 0 K) t a k = 0 ∧ tN (s.extract 0 K) t a k = tN s t a k) ∨ fE (s.extract 0 K) t a k = 2
  | 0, _ => .inl ⟨fE_0 _ _ _, by rw [tN_0, tN_0]⟩
  | k + 1, hk => by
    rcases fE_cut ht hK h h0 k (by omega) with ⟨e1, e2⟩ | e
    · have h1 := tk_lt h k (by omega)
      have h2 := h0 k (by omega)
      obtain ⟨p, hp⟩ : ∃ p : Nat, tN s t a k = (p : Int) := ⟨(tN s t a k).toNat, by omega⟩
      have h3 := tk_cut hK t.toNat 0 p
      rw [← hp] at h3
      rcases h3 with h3 | h3
      · exact .inl ⟨by rw [fE_1 e1, e2, h3]; exact h1.1, by rw [tN, e2, h3, tN]⟩
      · exact .inr (by rw [fE_1 e1, e2, h3])
    · exact .inr (by rw [fE, e, if_neg (by decide)])
theorem tN_le {s : ByteArray} {t a : Int} {n : Nat} (h : fE s t a (n + 1) = 0) : tN s t a (n + 1) ≤ 8 * s.size := by
  have h1 := tk_lt h n (by omega)
  have := tk_bd s t.toNat 0 (tN s t a n) h1.1
  rw [tN]; omega
theorem ext_all (s : ByteArray) : s.extract 0 s.size = s := by
  apply ba_ext
  rw [ByteArray.data_extract]
  simp only [Array.toList_extract, List.extract_eq_take_drop]
  exact List.take_of_length_le (Nat.le_of_eq rfl)
theorem bs_pre (c : List Int) (t : Int) (k : Nat) : ∀ d, ∃ r, bsF c t (k + d) = bsF c t k ++ r
  | 0 => ⟨[], by rw [List.append_nil]; rfl⟩
  | d + 1 => by
    obtain ⟨r, hr⟩ := bs_pre c t k d
    exact ⟨r ++ unB (idxI (stL (iniL t.toNat) c (k + d)) (c.getD (k + d) 0)), by rw [← Nat.add_assoc, bsF_s, hr, List.append_assoc]⟩
/-- what is put, and cut off -/
theorem cut_put {c : List Int} {t : Int} (ht : 2 ≤ t ∧ t ≤ 6) (hok : okC c t) (hc : c.length ≤ 1000) (K : Nat) (hK : K ≤ (pack (putL c t)).size) :
    takeV ((pack (putL c t)).extract 0 K) 0 (c.length : Int) t = (if K = (pack (putL c t)).size then (c, ((putL c t).length : Int), 0) else ([], 0, 2)) := by
  have hh : hasAt (pack (putL c t)) 0 (bsF c t c.length) := by
    have := has_pack [] (bsF c t c.length) []
    rw [List.nil_append, List.append_nil] at this
    exact this
  by_cases e : K = (pack (putL c t)).size
  · rw [if_pos e, e, show (pack (putL c t)).extract 0 (pack (putL c t)).size = pack (putL c t) from ext_all _]
    have := take_put ht hok c.length (Nat.le_refl _) hc hh
    rw [List.take_length, Nat.zero_add] at this
    exact this
  · rw [if_neg e]
    have h1 := tk_all ht hok c.length (Nat.le_refl _) hh
    have h0 : ∀ k, k ≤ c.length → 0 ≤ tN (pack (putL c t)) t (0 : Nat) k := fun k hk => by
      have hx : hasAt (pack (putL c t)) 0 (bsF c t k) := by
        obtain ⟨r, h2⟩ := bs_pre c t k (c.length - k)
        rw [show k + (c.length - k) = c.length by omega] at h2
        rw [h2] at hh
        exact (has_app.1 hh).1
      rw [(tk_all ht hok k hk hx).2.1]; omega
    have hz : ((pack (putL c t)).extract 0 K).size = K := by rw [ByteArray.size_extract]; omega
    have hps := pack_size (putL c t)
    have he : fE ((pack (putL c t)).extract 0 K) t (0 : Nat) c.length = 2 := by
      rcases fE_cut (K := K) ht hK h1.1 h0 c.length (Nat.le_refl _) with ⟨e1, e2⟩ | h3
      · exfalso
        rw [h1.2.1] at e2
        have hl : (bsF c t c.length).length = (putL c t).length := rfl
        cases hcl : c.length with
        | zero =>
          rw [hcl, bsF_0] at hl
          rw [← hl] at hps
          rw [hps] at hK e
          simp at hK e
          omega
        | succ m =>
          rw [hcl] at e1 e2 hl
          have := tN_le e1
          rw [hz, e2] at this
          omega
      · exact h3
    rw [takeV, if_neg (by omega), Int.toNat_natCast]
    rw [show ((0 : Nat) : Int) = 0 from rfl] at he
    rw [he, if_neg (by decide)]
theorem num_ones (t : Nat) (h : t ≤ 6) : num 63 t = List.replicate t true := by
  have : t = 0 ∨ t = 1 ∨ t = 2 ∨ t = 3 ∨ t = 4 ∨ t = 5 ∨ t = 6 := by omega
  rcases this with rfl | rfl | rfl | rfl | rfl | rfl | rfl <;> decide
theorem ones_put {c : List Int} {t : Int} (ht : 2 ≤ t ∧ t ≤ 6) (hok : okC c t) (hc : c.length ≤ 1000) :
    takeV (pack (putL c t ++ num 63 t.toNat)) 0 (c.length : Int) t = (c, ((putL c t).length : Int), 0) ∧ takeV (pack (putL c t ++ num 63 t.toNat)) 0 ((c.length : Int) + 1) t = ([], 0, 3) := by
  have hh : hasAt (pack (putL c t ++ num 63 t.toNat)) 0 (bsF c t c.length ++ num 63 t.toNat) := by
    have := has_pack [] (bsF c t c.length ++ num 63 t.toNat) []
    rw [List.nil_append, List.append_nil] at this
    exact this
  obtain ⟨h1, h2⟩ := has_app.1 hh
  have h3 := take_put ht hok c.length (Nat.le_refl _) hc h1
  rw [List.take_length, Nat.zero_add] at h3
  refine ⟨h3, ?_⟩
  obtain ⟨e1, e2, _, _⟩ := tk_all ht hok c.length (Nat.le_refl _) h1
  rw [num_ones t.toNat (by omega)] at h2
  have h4 := tk_full _ t.toNat 0 (0 + (bsF c t c.length).length) (by have := h2.1; rw [List.length_replicate] at this; omega) (fun i hi => by
    rw [h2.2 i (by rw [List.length_replicate]; exact hi), List.getD_eq_getElem?_getD, List.getElem?_replicate, if_pos hi]; rfl)
  rw [takeV, if_neg (by omega), show ((c.length : Int) + 1).toNat = c.length + 1 by omega]
  rw [← e2, ← num_ones t.toNat (by omega)] at h4
  rw [show ((0 : Nat) : Int) = 0 from rfl] at e1 h4
  rw [fE_1 e1, h4, if_neg (by decide)]

/-! how many bits there are -/
theorem st_hd (c : List Int) (t : Int) (ht : 2 ≤ t ∧ t ≤ 6) (hok : okC c t) : ∀ k, k ≤ c.length → (stL (iniL t.toNat) c k).getD 0 0 = (if k = 0 then 0 else c.getD (k - 1) 0)
  | 0, _ => by
    obtain ⟨r, hr⟩ := ini_two t ht
    rw [stL_0, hr]; rfl
  | k + 1, hk => by
    have hv := hok k (by omega)
    have hm := idxI_at (st_mem ht (k := k) (fun j hj => hok j (by omega)) hv.1 hv.2)
    rw [stL, if_neg (by omega), Nat.add_sub_cancel]
    exact hm
theorem id_bd {c : List Int} {t : Int} (ht : 2 ≤ t ∧ t ≤ 6) (hok : okC c t) (k : Nat) (hk : k < c.length) : idxI (stL (iniL t.toNat) c k) (c.getD k 0) < t.toNat := by
  have h3 := st_pl ht hok k hk
  have h5 := okB_pl (cs_in ht hok) k (by rw [plL_len, cs_size]; omega)
  rw [cs_size, h3] at h5
  have hs := (abc_all t.toNat (by omega)).2.1
  rw [ByteArray.size, ← Array.length_toList] at hs
  omega
theorem id_zero {c : List Int} {t : Int} (ht : 2 ≤ t ∧ t ≤ 6) (hok : okC c t) (k : Nat) (hk : k < c.length) : idxI (stL (iniL t.toNat) c k) (c.getD k 0) = 0 ↔ c.getD k 0 = (if k = 0 then 0 else c.getD (k - 1) 0) := by
  have hv := hok k hk
  have hm := idxI_at (st_mem ht (k := k) (fun j hj => hok j (by omega)) hv.1 hv.2)
  have hh := st_hd c t ht hok k (by omega)
  constructor
  · intro h
    rw [h, hh] at hm
    exact hm.symm
  · intro h
    rw [← hh] at h
    rcases Nat.eq_zero_or_pos (idxI (stL (iniL t.toNat) c k) (c.getD k 0)) with h1 | h1
    · exact h1
    · exact absurd h.symm (idxI_ne h1)
/-- how many are as the one ahead -/
def alF (c : List Int) : Nat → Int
  | 0 => 0
  | k + 1 => alF c k + if c.getD k 0 = (if k = 0 then 0 else c.getD (k - 1) 0) then 1 else 0
  termination_by k => k
theorem alF_0 (c : List Int) : alF c 0 = 0 := by rw [alF]
theorem alF_y {c : List Int} {k : Nat} (h : c.getD k 0 = (if k = 0 then 0 else c.getD (k - 1) 0)) : alF c (k + 1) = alF c k + 1 := by rw [alF, if_pos h]
theorem alF_n {c : List Int} {k : Nat} (h : ¬ c.getD k 0 = (if k = 0 then 0 else c.getD (k - 1) 0)) : alF c (k + 1) = alF c k := by rw [alF, if_neg h]; omega
theorem alF_bd (c : List Int) : ∀ k, 0 ≤ alF c k ∧ alF c k ≤ k
  | 0 => by rw [alF_0]; exact ⟨Int.le_refl _, Int.le_refl _⟩
  | k + 1 => by
    have := alF_bd c k
    rw [alF]; split <;> omega
theorem long_bd {c : List Int} {t : Int} (ht : 2 ≤ t ∧ t ≤ 6) (hok : okC c t) : ∀ k : Nat, k ≤ c.length → alF c k + 2 * ((k : Int) - alF c k) ≤ (bsF c t k).length ∧ ((bsF c t k).length : Int) ≤ alF c k + t * ((k : Int) - alF c k)
  | 0, _ => by rw [alF_0, bsF_0]; simp
  | k + 1, hk => by
    obtain ⟨h1, h2⟩ := long_bd ht hok k (by omega)
    have hz := id_zero ht hok k (by omega)
    have hb := id_bd ht hok k (by omega)
    have hbd := alF_bd c k
    rw [bsF_s, List.length_append, unB_len]
    by_cases h : c.getD k 0 = (if k = 0 then 0 else c.getD (k - 1) 0)
    · rw [alF_y h, hz.2 h, show ((k + 1 : Nat) : Int) - (alF c k + 1) = (k : Int) - alF c k by omega]
      omega
    · have hn : 0 < idxI (stL (iniL t.toNat) c k) (c.getD k 0) := Nat.pos_of_ne_zero (fun e => h (hz.1 e))
      rw [alF_n h, show ((k + 1 : Nat) : Int) - alF c k = ((k : Int) - alF c k) + 1 by omega, Int.mul_add t, Int.mul_one]
      omega
end Eh
end Go.Proofs.Ytkjmdnehlodihaa
