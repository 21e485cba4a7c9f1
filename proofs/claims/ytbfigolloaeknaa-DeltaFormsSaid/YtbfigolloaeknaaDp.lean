/-
  MATHS of stage 9: what is put is taken.
-/
import Derived.Test.YtbfigolloaeknaaRows
import Derived.Test.YtbfigolloaeknaaMgc
import Derived.Test.YtbfigolloaeknaaDd
import Derived.Test.YtbfigolloaeknaaDa
import Derived.Test.YtbfigolloaeknaaDb
import Derived.Test.YtbfigolloaeknaaDc
import Derived.Test.YtbfigolloaeknaaDe
import Derived.Test.YtbfigolloaeknaaDf
import Derived.Test.YtbfigolloaeknaaDg
import Derived.Test.YtbfigolloaeknaaMha
import Derived.Test.YtbfigolloaeknaaCa
import Derived.Test.YtbfigolloaeknaaCm
import Derived.Test.YtbfigolloaeknaaDm
import Derived.Test.YtbfigolloaeknaaDn
namespace Go.Proofs.Ytbfigolloaeknaa
open Go.RowKit
namespace Dp
open Ab Bm Bt Dd Da Db Dc De Df Dg Bb Ca Cm Dm Dn

theorem g1_in {s : ByteArray} {p : Nat} (h : p + 1 ≤ 8 * s.size) : getV s (p : Int) 1 = ((((Bm.bit s.data.toList p).toNat : Nat) : Int), 0) := by
  rw [gv_0 (by omega) (by omega) (k := 1) rfl, Int.toNat_natCast]
  have : bitsAt s.data.toList p 1 = [Bm.bit s.data.toList p] := rfl
  rw [this]; simp [val]
theorem g1_out {s : ByteArray} {p : Nat} (h : 8 * s.size < p + 1) : getV s (p : Int) 1 = (0, 2) := gv_2 (by omega) (by omega)
def Has (s : ByteArray) (p : Nat) (b : List Bool) : Prop := p + b.length ≤ 8 * s.size ∧ ∀ j, j < b.length → Bm.bit s.data.toList (p + j) = b.getD j false
theorem Has.cons {s : ByteArray} {p : Nat} {x : Bool} {b : List Bool} (h : Has s p (x :: b)) : p + 1 ≤ 8 * s.size ∧ Bm.bit s.data.toList p = x ∧ Has s (p + 1) b := by
  obtain ⟨h1, h2⟩ := h
  rw [List.length_cons] at h1 h2
  refine ⟨by omega, h2 0 (by omega), by omega, fun j hj => ?_⟩
  have := h2 (j + 1) (by omega)
  rw [show p + 1 + j = p + (j + 1) by omega, this]; rfl
theorem Has.app {s : ByteArray} {p : Nat} {b c : List Bool} (h : Has s p (b ++ c)) : Has s p b ∧ Has s (p + b.length) c := by
  obtain ⟨h1, h2⟩ := h
  rw [List.length_append] at h1 h2
  refine ⟨⟨by omega, fun j hj => ?_⟩, by omega, fun j hj => ?_⟩
  · rw [h2 j (by omega), List.getD_eq_getElem?_getD, List.getElem?_append_left hj, ← List.getD_eq_getElem?_getD]
  · rw [Nat.add_assoc, h2 (b.length + j) (by omega), List.getD_eq_getElem?_getD, List.getElem?_append_right (by omega), show b.length + j - b.length = j by omega, ← List.getD_eq_getElem?_getD]
theorem chg_cons (x : Bool) : ∀ n, chg (n + 1) x = true :: x :: chg n x
  | 0 => rfl
  | n + 1 => (congrArg (· ++ [true, x]) (chg_cons x n)).trans rfl
def mv (x : Bool) (a : Int) (n : Nat) : Int := if x = true then a - n else a + n
theorem mv_0 (x : Bool) (a : Int) : mv x a 0 = a := by cases x <;> simp [mv]
theorem mv_s (x : Bool) (a : Int) (n : Nat) : mv x (mv x a 1) n = mv x a (n + 1) := by cases x <;> simp [mv] <;> omega
theorem mv_g {x : Bool} {a : Int} {n : Nat} (h : Da.good a) (h2 : Da.good (mv x a (n + 1))) : Da.good (mv x a 1) := by
  cases x <;> simp [mv, Da.good] at * <;> omega
theorem ln_run {s : ByteArray} (x : Bool) : ∀ (n p : Nat) (a : Int), Da.good a → Da.good (mv x a n) → Has s p (chg n x ++ [false]) → lnV s (p : Int) a = (mv x a n, ((p + 2 * n + 1 : Nat) : Int), 0)
  | 0, p, a, _, _, h => by
    obtain ⟨h1, h2, _⟩ := Has.cons (b := []) h
    have hg := g1_in h1
    rw [h2] at hg
    rw [ln_2 (by rw [hg]) (by rw [hg]; rfl), mv_0]
    rfl
  | n + 1, p, a, ha, hb, h => by
    rw [chg_cons] at h
    obtain ⟨h1, h2, h⟩ := Has.cons h
    obtain ⟨h3, h4, h⟩ := Has.cons h
    have hg := g1_in h1
    have hg2 := g1_in h3
    rw [h2] at hg
    rw [h4] at hg2
    have hst : stM s (p : Int) a = mv x a 1 := by
      have e : ((p : Int) + 1) = ((p + 1 : Nat) : Int) := rfl
      cases x
      · rw [st_0 (by rw [e, hg2]; rfl)]; rfl
      · rw [st_1 (by rw [e, hg2]; rfl)]; rfl
    have ih := ln_run x n (p + 2) (mv x a 1) (mv_g ha hb) (by rw [mv_s]; exact hb) h
    rw [ln_5 (by rw [hg]) (by rw [hg]; decide) (by rw [show ((p : Int) + 1) = ((p + 1 : Nat) : Int) from rfl, hg2]) (by rw [hst]; exact mv_g ha hb), hst, show ((p : Int) + 2) = ((p + 2 : Nat) : Int) from rfl, ih, mv_s, show p + 2 + 2 * n + 1 = p + 2 * (n + 1) + 1 by omega]
theorem ln_chg {s : ByteArray} {p : Nat} {a b : Int} (ha : Da.good a) (hb : Da.good b) (h : Has s p (chgB a b)) : lnV s (p : Int) a = (b, ((p + (chgB a b).length : Nat) : Int), 0) := by
  rw [chgB_len]
  by_cases hab : a ≤ b
  · have e : chgB a b = chg (b - a).toNat false ++ [false] := by
      unfold chgB; rw [show (a - b).toNat = 0 by omega]; simp [chg]
    rw [e] at h
    have hm : mv false a (b - a).toNat = b := by simp [mv]; omega
    rw [ln_run false _ p a ha (by rw [hm]; exact hb) h, hm, show p + 2 * (b - a).toNat + 1 = p + (2 * (b - a).toNat + 2 * (a - b).toNat + 1) by omega]
  · have e : chgB a b = chg (a - b).toNat true ++ [false] := by
      unfold chgB; rw [show (b - a).toNat = 0 by omega]; simp [chg]
    rw [e] at h
    have hm : mv true a (a - b).toNat = b := by simp [mv]; omega
    rw [ln_run true _ p a ha (by rw [hm]; exact hb) h, hm, show p + 2 * (a - b).toNat + 1 = p + (2 * (b - a).toNat + 2 * (a - b).toNat + 1) by omega]
def chs (l : List Int) (k : Nat) : List Bool := ((List.range k).map fun i => chgB (l.getD (i - 1) 0) (l.getD i 0)).flatten
theorem chs_s (l : List Int) (k : Nat) : chs l (k + 1) = chs l k ++ chgB (l.getD (k - 1) 0) (l.getD k 0) := by
  unfold chs; rw [List.range_succ, List.map_append, List.flatten_append]; simp
theorem dB_chs (l : List Int) : dB l = num (l.getD 0 0).toNat 5 ++ chs l l.length := rfl
theorem tsk_has {s : ByteArray} {l : List Int} (hg : ∀ j, j < l.length → Da.good (l.getD j 0)) (q : Nat) : ∀ k, k ≤ l.length → Has s q (chs l k) → tsk s (l.getD 0 0) (q : Int) k = (l.take k, l.getD (k - 1) 0, ((q + (chs l k).length : Nat) : Int), 0)
  | 0, _, _ => rfl
  | k + 1, hk, h => by
    rw [chs_s] at h
    obtain ⟨h1, h2⟩ := Has.app h
    have ih := tsk_has hg q k (by omega) h1
    have hl := ln_chg (hg (k - 1) (by omega)) (hg k (by omega)) h2
    have e1 : (tsk s (l.getD 0 0) (q : Int) k).2.2.2 = 0 := by rw [ih]
    have e2 : lnV s (tsk s (l.getD 0 0) (q : Int) k).2.2.1 (tsk s (l.getD 0 0) (q : Int) k).2.1 = (l.getD k 0, ((q + (chs l k).length + (chgB (l.getD (k - 1) 0) (l.getD k 0)).length : Nat) : Int), 0) := by rw [ih]; exact hl
    have e3 : l.take (k + 1) = l.take k ++ [l.getD k 0] := by
      rw [List.take_succ_eq_append_getElem (show k < l.length by omega), List.getD_eq_getElem?_getD, List.getElem?_eq_getElem (show k < l.length by omega)]; rfl
    rw [ts_s e1 (by rw [e2]), e2, ih, chs_s, List.length_append, e3, Nat.add_assoc]
    rfl
theorem Has.at_ {s : ByteArray} {p : Nat} {b : List Bool} (h : Has s p b) : bitsAt s.data.toList p b.length = b := by
  apply List.ext_getElem (by rw [bitsAt_len])
  intro j h1 h2
  have := h.2 j h2
  rw [List.getD_eq_getElem?_getD, List.getElem?_eq_getElem h2] at this
  simp only [bitsAt, List.getElem_map, List.getElem_range]
  exact this
theorem val_num5 {v : Nat} (h : v ≤ 20) : val (num v 5) = v := by
  have : ∀ v : Fin 21, val (num v.1 5) = v.1 := by decide
  exact this ⟨v, by omega⟩
theorem get5 {s : ByteArray} {p : Nat} {x : Int} (hx : Da.good x) (h : Has s p (num x.toNat 5)) : getV s (p : Int) 5 = (x, 0) := by
  have hx : 1 ≤ x ∧ x ≤ 20 := hx
  have h1 := h.1
  rw [num_len] at h1
  have h2 := h.at_
  rw [num_len] at h2
  rw [gv_0 (by omega) (by omega) (k := 5) rfl, Int.toNat_natCast, h2, val_num5 (by omega), Int.toNat_of_nonneg (by omega)]
theorem take_has {s : ByteArray} {l : List Int} {p : Nat} (h2 : 2 ≤ l.length) (h3 : l.length ≤ 258) (hg : ∀ x ∈ l, Da.good x) (h : Has s p (dB l)) : takeD s (p : Int) (l.length : Int) = (l, ((p + (dB l).length : Nat) : Int), 0) := by
  have hal := gd_at hg
  rw [dB_chs] at h
  obtain ⟨ha, hb⟩ := Has.app h
  rw [num_len] at hb
  have h5 := get5 (hal 0 (by omega)) ha
  rw [td_4 (by omega) (by rw [h5]) (by rw [h5]; exact hal 0 (by omega)), h5, Int.toNat_natCast]
  have ht := tsk_has hal (p + 5) l.length (Nat.le_refl _) hb
  rw [show ((p : Int) + 5) = ((p + 5 : Nat) : Int) from rfl, ht, List.take_length, dB_chs, List.length_append, num_len, Nat.add_assoc]
theorem has_mid (a b c : List Bool) : Has (pack (a ++ b ++ c)) a.length b := by
  have h := bitsAt_enc a b c
  have hs := pack_size (a ++ b ++ c)
  rw [List.length_append, List.length_append] at hs
  refine ⟨by omega, fun j hj => ?_⟩
  have e : (bitsAt (enc (a ++ b ++ c)) a.length b.length)[j]? = b[j]? := by rw [h]
  rw [pack_list, List.getD_eq_getElem?_getD, ← e]
  simp [bitsAt, hj]
/-- a text that another one begins with -/
def Pre (s t : ByteArray) : Prop := s.size ≤ t.size ∧ ∀ j, j < 8 * s.size → Bm.bit s.data.toList j = Bm.bit t.data.toList j
theorem g1_pre {s t : ByteArray} (hp : Pre s t) {p : Nat} (h : p + 1 ≤ 8 * s.size) : getV s (p : Int) 1 = getV t (p : Int) 1 := by
  rw [g1_in h, g1_in (s := t) (by have := hp.1; omega), hp.2 p (by omega)]
theorem g1_ok {t : ByteArray} {p : Nat} (h : (getV t (p : Int) 1).2 = 0) : p + 1 ≤ 8 * t.size := by
  have := gvE t _ 1 h; omega
theorem ln_cut {s t : ByteArray} (hp : Pre s t) : ∀ (f p : Nat) (a : Int), Da.good a → (stp t f (p : Int) a).2.2 = 0 → lnV s (p : Int) a = if (stp t f (p : Int) a).2.1 ≤ 8 * s.size then stp t f (p : Int) a else (0, 0, 2)
  | 0, _, _, _, h => by simp [stp] at h
  | f + 1, p, a, ha, h => by
    have hin := ln_in (f + 1) (p : Int) a (by omega) ha h
    by_cases c1 : (getV t (p : Int) 1).2 = 0
    · by_cases d1 : p + 1 ≤ 8 * s.size
      · have hg := g1_pre hp d1
        by_cases c2 : (getV t (p : Int) 1).1 = 0
        · have e : stp t (f + 1) (p : Int) a = (a, (p : Int) + 1, 0) := by rw [stp, if_neg (by simpa using c1), if_pos c2]
          rw [e, if_pos (by simp only; omega), ln_2 (by rw [hg]; exact c1) (by rw [hg]; exact c2)]
        · by_cases c3 : (getV t ((p : Int) + 1) 1).2 = 0
          · by_cases d2 : p + 2 ≤ 8 * s.size
            · have hg2 : getV s ((p : Int) + 1) 1 = getV t ((p : Int) + 1) 1 := g1_pre hp (p := p + 1) (by omega)
              have hst : stM s (p : Int) a = stM t (p : Int) a := by unfold Db.stM; rw [hg2]
              by_cases c4 : Da.good (stM t (p : Int) a)
              · have e : stp t (f + 1) (p : Int) a = stp t f ((p + 2 : Nat) : Int) (stM t (p : Int) a) := by
                  rw [stp, if_neg (by simpa using c1), if_neg c2, if_neg (by simpa using c3), if_neg (by simpa using c4)]; rfl
                rw [e] at h ⊢
                rw [ln_5 (by rw [hg]; exact c1) (by rw [hg]; exact c2) (by rw [hg2]; exact c3) (by rw [hst]; exact c4), hst]
                exact ln_cut hp f (p + 2) _ c4 h
              · rw [stp, if_neg (by simpa using c1), if_neg c2, if_neg (by simpa using c3), if_pos c4] at h
                simp at h
            · have ho : getV s ((p : Int) + 1) 1 = (0, 2) := g1_out (p := p + 1) (by omega)
              have h5 : (p : Int) + 3 ≤ (stp t (f + 1) (p : Int) a).2.1 := by
                by_cases c4 : Da.good (stM t (p : Int) a)
                · rw [stp, if_neg (by simpa using c1), if_neg c2, if_neg (by simpa using c3), if_neg (by simpa using c4)] at h ⊢
                  have := ln_in f _ _ (by omega) c4 h
                  omega
                · rw [stp, if_neg (by simpa using c1), if_neg c2, if_neg (by simpa using c3), if_pos c4] at h
                  simp at h
              rw [if_neg (by omega), ln_3 (by rw [hg]; exact c1) (by rw [hg]; exact c2) (by rw [ho]; decide), ho]
          · rw [stp, if_neg (by simpa using c1), if_neg c2, if_pos c3] at h
            exact absurd h c3
      · have ho : getV s (p : Int) 1 = (0, 2) := g1_out (by omega)
        rw [if_neg (by omega), ln_1 (by omega) (by rw [ho]; decide), ho]
    · rw [stp, if_pos c1] at h
      exact absurd h c1
theorem tsk_cut {s t : ByteArray} (hp : Pre s t) {v : Int} (hv : Da.good v) (q : Nat) (hq : q ≤ 8 * s.size) : ∀ k, (tsk t v (q : Int) k).2.2.2 = 0 → tsk s v (q : Int) k = if (tsk t v (q : Int) k).2.2.1 ≤ 8 * s.size then tsk t v (q : Int) k else ([], 0, 0, 2)
  | 0, _ => by rw [if_pos (by simp only [tsk]; omega)]; rfl
  | k + 1, h => by
    by_cases c1 : (tsk t v (q : Int) k).2.2.2 = 0
    · have ih := tsk_cut hp hv q hq k c1
      have hin := ts_in (s := t) (v := v) (a := (q : Int)) (by have := hp.1; omega) hv k c1
      by_cases c2 : (lnV t (tsk t v (q : Int) k).2.2.1 (tsk t v (q : Int) k).2.1).2.2 = 0
      · have hst := ts_s c1 c2
        obtain ⟨p, hpe⟩ := Int.eq_ofNat_of_zero_le (show 0 ≤ (tsk t v (q : Int) k).2.2.1 by omega)
        have hc := ln_cut hp _ p _ hin.2.1 (by rw [← hpe]; exact c2)
        rw [← hpe] at hc
        have hli := ln_in _ _ _ (by omega) hin.2.1 c2
        have hc : lnV s (tsk t v (q : Int) k).2.2.1 (tsk t v (q : Int) k).2.1 = if (lnV t (tsk t v (q : Int) k).2.2.1 (tsk t v (q : Int) k).2.1).2.1 ≤ 8 * s.size then lnV t (tsk t v (q : Int) k).2.2.1 (tsk t v (q : Int) k).2.1 else (0, 0, 2) := hc
        rw [hst]
        simp only
        have hle : (tsk t v (q : Int) k).2.2.1 + 1 ≤ (lnV t (tsk t v (q : Int) k).2.2.1 (tsk t v (q : Int) k).2.1).2.1 := hli.2.1
        by_cases d1 : (tsk t v (q : Int) k).2.2.1 ≤ 8 * s.size
        · rw [if_pos d1] at ih
          by_cases d2 : (lnV t (tsk t v (q : Int) k).2.2.1 (tsk t v (q : Int) k).2.1).2.1 ≤ 8 * s.size
          · rw [if_pos d2] at hc ⊢
            rw [ts_s (by rw [ih]; exact c1) (by rw [ih, hc]; exact c2), ih, hc]
          · rw [if_neg d2] at hc ⊢
            rw [ts_e (by rw [ih]; exact c1) (by rw [ih, hc]; decide), ih, hc]
        · rw [if_neg d1] at ih
          rw [if_neg (by omega), ts_more (k := k) (by rw [ih]; decide) 1, ih]
      · rw [ts_e c1 c2] at h; exact absurd h c2
    · rw [tsk, if_pos c1] at h; exact absurd h c1
theorem pre_cut (t : ByteArray) (k : Nat) (hk : k ≤ t.size) : Pre (t.extract 0 k) t ∧ (t.extract 0 k).size = k := by
  have hs : (t.extract 0 k).size = k := by rw [ByteArray.size_extract]; omega
  refine ⟨⟨by omega, fun j hj => ?_⟩, hs⟩
  have hd : (t.extract 0 k).data.toList = t.data.toList.take k := by
    rw [ByteArray.data_extract]; simp
  rw [hd]
  unfold Bm.bit
  rw [List.getD_eq_getElem?_getD, List.getElem?_take, if_pos (by omega), ← List.getD_eq_getElem?_getD]
theorem take_cut {l : List Int} (h2 : 2 ≤ l.length) (h3 : l.length ≤ 258) (hg : ∀ x ∈ l, Da.good x) {k : Nat} (hk : k ≤ (pack (dB l)).size) : (takeD ((pack (dB l)).extract 0 k) 0 (l.length : Int)).2.2 = if k = (pack (dB l)).size then 0 else 2 := by
  have hps := pack_size (dB l)
  have h5 := dps_5 l l.length
  rw [show (dps l l.length).flatten = dB l from rfl] at h5
  obtain ⟨hp, hs⟩ := pre_cut (pack (dB l)) k hk
  have hh := has_mid [] (dB l) []
  rw [List.nil_append, List.append_nil, List.length_nil] at hh
  have hal := gd_at hg
  rw [dB_chs l] at hh
  rw [← dB_chs l] at hh
  have hh2 : Has (pack (dB l)) 0 (num (l.getD 0 0).toNat 5 ++ chs l l.length) := hh
  obtain ⟨ha, hb⟩ := Has.app hh2
  rw [num_len] at hb
  by_cases k0 : k = 0
  · subst k0
    rw [if_neg (by omega), td_2 (n := (l.length : Int)) (by omega) (by rw [gv_2 (by omega) (by omega)]; decide), gv_2 (by omega) (by omega)]
  · have ha5 : Has ((pack (dB l)).extract 0 k) 0 (num (l.getD 0 0).toNat 5) := ⟨by rw [num_len]; omega, fun j hj => by
      have hj5 : j < 5 := by rw [num_len] at hj; exact hj
      rw [hp.2 _ (by omega)]; exact ha.2 j hj⟩
    have hg5 := get5 (hal 0 (by omega)) ha5
    have hg5 : getV ((pack (dB l)).extract 0 k) 0 5 = (l.getD 0 0, 0) := hg5
    have ht := tsk_has hal 5 l.length (Nat.le_refl _) hb
    have hc := tsk_cut hp (hal 0 (by omega)) 5 (by omega) l.length (by rw [show ((0 + 5 : Nat) : Int) = ((5 : Nat) : Int) from rfl] at *; rw [ht])
    rw [td_4 (n := (l.length : Int)) (by omega) (by rw [hg5]) (by rw [hg5]; exact hal 0 (by omega)), hg5, Int.toNat_natCast]
    show (tsk ((pack (dB l)).extract 0 k) (l.getD 0 0) ((5 : Nat) : Int) l.length).2.2.2 = _
    have hn : (dB l).length = 5 + (chs l l.length).length := by rw [dB_chs, List.length_append, num_len]
    rw [hc, ht]
    simp only
    by_cases e : k = (pack (dB l)).size
    · rw [if_pos (by omega), if_pos e]
    · rw [if_neg (by omega), if_neg e]
end Dp
end Go.Proofs.Ytbfigolloaeknaa
