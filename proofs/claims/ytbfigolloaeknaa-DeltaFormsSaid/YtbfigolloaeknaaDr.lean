/-
  MATHS of stage 9: what is taken, put again.
-/
import Derived.Test.YtbfigolloaeknaaRows
import Derived.Test.YtbfigolloaeknaaMgc
import Derived.Test.YtbfigolloaeknaaDd
import Derived.Test.YtbfigolloaeknaaDa
import Derived.Test.YtbfigolloaeknaaDb
import Derived.Test.YtbfigolloaeknaaDc
import Derived.Test.YtbfigolloaeknaaDe
import Derived.Test.YtbfigolloaeknaaDf
import Derived.Test.YtbfigolloaeknaaDg
import Derived.Test.YtbfigolloaeknaaMha
import Derived.Test.YtbfigolloaeknaaCa
import Derived.Test.YtbfigolloaeknaaCm
import Derived.Test.YtbfigolloaeknaaDm
import Derived.Test.YtbfigolloaeknaaDn
import Derived.Test.YtbfigolloaeknaaDp
namespace Go.Proofs.Ytbfigolloaeknaa
open Go.RowKit
namespace Dr
open Ab Bm Bt Dd Da Db Dc De Df Dg Bb Ca Cm Dm Dn Dp

theorem gv_err {s : ByteArray} {a n : Int} (ha : 0 ≤ a) (hn : 0 ≤ n ∧ n ≤ 64) : (getV s a n).2 = 0 ∨ (getV s a n).2 = 2 := by
  by_cases h : 8 * (s.size : Int) - n < a
  · rw [gv_2 (by omega) h]; exact .inr rfl
  · rw [gv_0 (by omega) h rfl]; exact .inl rfl
theorem st_err {s : ByteArray} : ∀ (f : Nat) (a n : Int), 0 ≤ a → ((stp s f a n).2.2 = 0 ∨ (stp s f a n).2.2 = 2 ∨ (stp s f a n).2.2 = 3) ∧ ((stp s f a n).2.2 ≠ 0 → (stp s f a n).1 = 0 ∧ (stp s f a n).2.1 = 0)
  | 0, _, _, _ => ⟨.inr (.inl rfl), fun _ => ⟨rfl, rfl⟩⟩
  | f + 1, a, n, ha => by
    rw [stp]
    split
    · rename_i h
      refine ⟨?_, fun _ => ⟨rfl, rfl⟩⟩
      rcases gv_err (s := s) (n := 1) ha (by decide) with h1 | h1
      · exact absurd h1 h
      · exact .inr (.inl h1)
    split
    · exact ⟨.inl rfl, fun h => absurd rfl h⟩
    split
    · rename_i h
      refine ⟨?_, fun _ => ⟨rfl, rfl⟩⟩
      rcases gv_err (s := s) (a := a + 1) (n := 1) (by omega) (by decide) with h1 | h1
      · exact absurd h1 h
      · exact .inr (.inl h1)
    split
    · exact ⟨.inr (.inr rfl), fun _ => ⟨rfl, rfl⟩⟩
    · exact st_err f (a + 2) _ (by omega)
theorem ts_bad {s : ByteArray} {v a : Int} (ha : 0 ≤ a ∧ a ≤ 8 * s.size) (hv : Da.good v) : ∀ k, (tsk s v a k).2.2.2 ≠ 0 → tsk s v a k = ([], 0, 0, (tsk s v a k).2.2.2) ∧ ((tsk s v a k).2.2.2 = 2 ∨ (tsk s v a k).2.2.2 = 3)
  | 0, h => absurd rfl h
  | k + 1, h => by
    by_cases c1 : (tsk s v a k).2.2.2 = 0
    · by_cases c2 : (lnV s (tsk s v a k).2.2.1 (tsk s v a k).2.1).2.2 = 0
      · rw [ts_s c1 c2] at h; exact absurd rfl h
      · have hin := ts_in ha hv k c1
        have he := st_err (s := s) (8 * (s.size : Int) + 2 - (tsk s v a k).2.2.1).toNat (tsk s v a k).2.2.1 (tsk s v a k).2.1 (by omega)
        rw [ts_e c1 c2]
        refine ⟨rfl, ?_⟩
        rcases he.1 with h1 | h1
        · exact absurd h1 c2
        · exact h1
    · have ih := ts_bad ha hv k c1
      rw [show tsk s v a (k + 1) = tsk s v a k from ts_more c1 1]
      exact ih
theorem ts_down {s : ByteArray} {v a : Int} {k n : Nat} (hk : k ≤ n) (h : (tsk s v a n).2.2.2 = 0) : (tsk s v a k).2.2.2 = 0 := by
  refine Classical.byContradiction fun h1 => ?_
  have := ts_more h1 (n - k)
  rw [show k + (n - k) = n by omega] at this
  rw [this] at h; exact h1 h
theorem ts_up {s : ByteArray} {v a : Int} {k n : Nat} (hk : k ≤ n) (h : (tsk s v a k).2.2.2 ≠ 0) : tsk s v a n = tsk s v a k := by
  have := ts_more h (n - k)
  rwa [show k + (n - k) = n by omega] at this
theorem ts_pre {s : ByteArray} {v a : Int} (ha : 0 ≤ a ∧ a ≤ 8 * s.size) (hv : Da.good v) {k : Nat} : ∀ d, (tsk s v a (k + d)).2.2.2 = 0 → (tsk s v a k).1 = (tsk s v a (k + d)).1.take k ∧ (tsk s v a k).2.2.1 ≤ (tsk s v a (k + d)).2.2.1
  | 0, h => by
    have : (tsk s v a k).1.length = k := (ts_in ha hv k h).1
    exact ⟨(List.take_of_length_le (by omega)).symm, Int.le_refl _⟩
  | d + 1, h => by
    have c1 : (tsk s v a (k + d)).2.2.2 = 0 := ts_down (n := k + (d + 1)) (by omega) h
    have ih := ts_pre ha hv d c1
    have hin := ts_in ha hv (k + d) c1
    by_cases c2 : (lnV s (tsk s v a (k + d)).2.2.1 (tsk s v a (k + d)).2.1).2.2 = 0
    · have hli := ln_in _ _ _ (by omega) hin.2.1 c2
      have hle : (tsk s v a (k + d)).2.2.1 + 1 ≤ (lnV s (tsk s v a (k + d)).2.2.1 (tsk s v a (k + d)).2.1).2.1 := hli.2.1
      rw [← Nat.add_assoc, ts_s c1 c2]
      refine ⟨?_, by simp only; omega⟩
      show (tsk s v a k).1 = ((tsk s v a (k + d)).1 ++ [_]).take k
      rw [List.take_append_of_le_length (by omega), ih.1]
    · rw [← Nat.add_assoc, ts_e c1 c2] at h; exact absurd h c2
theorem st_min {s : ByteArray} : ∀ (f : Nat) (a n : Int), 0 ≤ a → Da.good n → (stp s f a n).2.2 = 0 → a + 2 * (df n (stp s f a n).1 : Int) + 1 ≤ (stp s f a n).2.1
  | 0, _, _, _, _, h => by simp [stp] at h
  | f + 1, a, n, ha, hn, h => by
    rw [stp] at h ⊢
    by_cases c1 : (getV s a 1).2 ≠ 0
    · rw [if_pos c1] at h; exact absurd h c1
    rw [if_neg c1] at h ⊢
    by_cases c2 : (getV s a 1).1 = 0
    · rw [if_pos c2]; simp only [df_self]; omega
    rw [if_neg c2] at h ⊢
    by_cases c3 : (getV s (a + 1) 1).2 ≠ 0
    · rw [if_pos c3] at h; exact absurd h c3
    rw [if_neg c3] at h ⊢
    by_cases c4 : Da.good (Db.stM s a n)
    · rw [if_neg (by simpa using c4)] at h ⊢
      have ih := st_min f (a + 2) _ (by omega) c4 h
      have hs : Db.stM s a n = n + 1 ∨ Db.stM s a n = n - 1 := by unfold Db.stM; split <;> simp
      generalize (stp s f (a + 2) (Db.stM s a n)) = r at *
      unfold df at *
      rcases hs with hs | hs <;> rw [hs] at ih <;> omega
    · rw [if_pos c4] at h; simp at h
theorem chgB_up {a b : Int} (h : a < b) : chgB a b = true :: false :: chgB (a + 1) b := by
  unfold chgB
  rw [show (a - b).toNat = 0 by omega, show (a + 1 - b).toNat = 0 by omega, show (b - a).toNat = (b - (a + 1)).toNat + 1 by omega, chg_cons]; rfl
theorem chgB_dn {a b : Int} (h : b < a) : chgB a b = true :: true :: chgB (a - 1) b := by
  unfold chgB
  rw [show (b - a).toNat = 0 by omega, show (b - (a - 1)).toNat = 0 by omega, show (a - b).toNat = (a - 1 - b).toNat + 1 by omega, chg_cons]; rfl
theorem chgB_eq (a : Int) : chgB a a = [false] := by
  unfold chgB
  rw [show (a - a).toNat = 0 by omega]; rfl
theorem Has.mk_cons {s : ByteArray} {p : Nat} {x : Bool} {b : List Bool} (_h1 : p + 1 ≤ 8 * s.size) (h2 : Bm.bit s.data.toList p = x) (h3 : Has s (p + 1) b) : Has s p (x :: b) := by
  refine ⟨by have := h3.1; rw [List.length_cons]; omega, fun j hj => ?_⟩
  cases j with
  | zero => exact h2
  | succ j =>
    have := h3.2 j (by rw [List.length_cons] at hj; omega)
    rw [show p + (j + 1) = p + 1 + j by omega, this]; rfl
theorem Has.mk_app {s : ByteArray} {p : Nat} : ∀ {b c : List Bool}, Has s p b → Has s (p + b.length) c → Has s p (b ++ c)
  | [], _, _, h => h
  | x :: b, c, h, h2 => by
    obtain ⟨h3, h4, h5⟩ := Has.cons h
    exact Has.mk_cons h3 h4 (Has.mk_app h5 (by rw [List.length_cons] at h2; rwa [show p + 1 + b.length = p + (b.length + 1) by omega]))
theorem bit_of {s : ByteArray} {p : Nat} (h : (getV s (p : Int) 1).2 = 0) : p + 1 ≤ 8 * s.size ∧ (((Bm.bit s.data.toList p).toNat : Nat) : Int) = (getV s (p : Int) 1).1 := by
  have h1 := g1_ok h
  refine ⟨h1, ?_⟩
  rw [g1_in h1]
theorem bit_f {b : Bool} {x : Int} (h : ((b.toNat : Nat) : Int) = x) (h0 : x = 0) : b = false := by
  cases b
  · rfl
  · rw [← h] at h0; simp at h0
theorem bit_t {b : Bool} {x : Int} (h : ((b.toNat : Nat) : Int) = x) (h0 : ¬ x = 0) : b = true := by
  cases b
  · exact absurd h.symm h0
  · rfl
theorem st_eq {s : ByteArray} : ∀ (f p : Nat) (n : Int), Da.good n → (stp s f (p : Int) n).2.2 = 0 → (stp s f (p : Int) n).2.1 = (p : Int) + 2 * (df n (stp s f (p : Int) n).1 : Int) + 1 → Has s p (chgB n (stp s f (p : Int) n).1)
  | 0, _, _, _, h, _ => by simp [stp] at h
  | f + 1, p, n, hn, h, he => by
    rw [stp] at h he ⊢
    by_cases c1 : (getV s (p : Int) 1).2 ≠ 0
    · rw [if_pos c1] at h; exact absurd h c1
    rw [if_neg c1] at h he ⊢
    obtain ⟨hb1, hb2⟩ := bit_of (by simpa using c1)
    by_cases c2 : (getV s (p : Int) 1).1 = 0
    · rw [if_pos c2]
      show Has s p (chgB n n)
      rw [chgB_eq]
      exact Has.mk_cons hb1 (bit_f hb2 c2) ⟨by show p + 1 + 0 ≤ _; omega, fun j hj => by simp at hj⟩
    rw [if_neg c2] at h he ⊢
    by_cases c3 : (getV s ((p : Int) + 1) 1).2 ≠ 0
    · rw [if_pos c3] at h; exact absurd h c3
    rw [if_neg c3] at h he ⊢
    obtain ⟨hb3, hb4⟩ := bit_of (p := p + 1) (by simpa using c3)
    by_cases c4 : Da.good (Db.stM s (p : Int) n)
    · rw [if_neg (by simpa using c4)] at h he ⊢
      have hm := st_min f ((p : Int) + 2) _ (by omega) c4 h
      have ih := st_eq f (p + 2) _ c4 h
      rw [show ((p + 2 : Nat) : Int) = (p : Int) + 2 from rfl] at ih
      by_cases c5 : (getV s ((p : Int) + 1) 1).1 = 0
      · have hs : Db.stM s (p : Int) n = n + 1 := st_0 c5
        rw [hs] at hm ih he ⊢
        generalize stp s f ((p : Int) + 2) (n + 1) = r at *
        have hlt : n < r.1 := by unfold df at *; omega
        rw [chgB_up hlt]
        exact Has.mk_cons hb1 (bit_t hb2 c2) (Has.mk_cons hb3 (bit_f hb4 c5) (ih (by unfold df at *; omega)))
      · have hs : Db.stM s (p : Int) n = n - 1 := st_1 ((gv1 s _).resolve_left c5)
        rw [hs] at hm ih he ⊢
        generalize stp s f ((p : Int) + 2) (n - 1) = r at *
        have hlt : r.1 < n := by unfold df at *; omega
        rw [chgB_dn hlt]
        exact Has.mk_cons hb1 (bit_t hb2 c2) (Has.mk_cons hb3 (bit_t hb4 c5) (ih (by unfold df at *; omega)))
    · rw [if_pos c4] at h; simp at h
theorem chs_cong {l m : List Int} : ∀ k, (∀ j, j < k → l.getD j 0 = m.getD j 0) → chs l k = chs m k
  | 0, _ => rfl
  | k + 1, h => by
    rw [chs_s l, chs_s m, chs_cong k (fun j hj => h j (by omega)), h k (by omega), h (k - 1) (by omega)]
theorem chs_n (l : List Int) : ∀ k, (chs l k).length = k + 2 * smK l k
  | 0 => rfl
  | k + 1 => by
    rw [chs_s, List.length_append, chs_n l k, chgB_len, smK]; unfold df; omega
theorem ts_all {s : ByteArray} {v : Int} {p : Nat} (hp : p ≤ 8 * s.size) (hv : Da.good v) : ∀ k, (tsk s v (p : Int) k).2.2.2 = 0 → (∀ x ∈ (tsk s v (p : Int) k).1, Da.good x) ∧ (0 < k → (tsk s v (p : Int) k).2.1 = (tsk s v (p : Int) k).1.getD (k - 1) 0) ∧ (k = 0 → (tsk s v (p : Int) k).2.1 = v) ∧ (p : Int) + k + 2 * (smK (tsk s v (p : Int) k).1 k : Int) ≤ (tsk s v (p : Int) k).2.2.1 ∧
    ((tsk s v (p : Int) k).2.2.1 = (p : Int) + k + 2 * (smK (tsk s v (p : Int) k).1 k : Int) → Has s p (chs (tsk s v (p : Int) k).1 k) ∧ (0 < k → v = (tsk s v (p : Int) k).1.getD 0 0))
  | 0, _ => ⟨fun x hx => by simp [tsk] at hx, fun h => absurd h (by omega), fun _ => rfl, by simp [tsk, smK], fun _ => ⟨⟨hp, fun j hj => by simp [chs] at hj⟩, fun h => absurd h (by omega)⟩⟩
  | k + 1, h => by
    by_cases c1 : (tsk s v (p : Int) k).2.2.2 = 0
    · have ih := ts_all hp hv k c1
      have hin := ts_in (s := s) (v := v) (a := (p : Int)) (by omega) hv k c1
      by_cases c2 : (lnV s (tsk s v (p : Int) k).2.2.1 (tsk s v (p : Int) k).2.1).2.2 = 0
      · rw [ts_s c1 c2]
        simp only
        have hli := ln_in _ _ _ (by omega) hin.2.1 c2
        have hmn := st_min _ _ _ (by omega) hin.2.1 c2
        obtain ⟨q, hq⟩ := Int.eq_ofNat_of_zero_le (show 0 ≤ (tsk s v (p : Int) k).2.2.1 by omega)
        have heq := st_eq (8 * (s.size : Int) + 2 - (q : Int)).toNat q _ hin.2.1 (by rw [← hq]; exact c2)
        rw [← hq] at heq
        generalize hL : (tsk s v (p : Int) k).1 = L at *
        generalize hw : (tsk s v (p : Int) k).2.1 = w at *
        generalize hE : (tsk s v (p : Int) k).2.2.1 = E at *
        have hlv : stp s (8 * (s.size : Int) + 2 - E).toNat E w = lnV s E w := rfl
        rw [hlv] at hmn heq hli
        generalize lnV s E w = r at *
        obtain ⟨hx1, hx2, hx3⟩ := hli
        obtain ⟨i1, i2, i3, i4, i5⟩ := ih
        have hLk : L.length = k := hin.1
        have hge : (L ++ [r.1]).getD k 0 = r.1 := by have := gd_e L r.1; rwa [hLk] at this
        have hsm : smK (L ++ [r.1]) k = smK L k := smK_cong k (fun j hj => gd_l L r.1 (by omega))
        have hch : chs (L ++ [r.1]) k = chs L k := chs_cong k (fun j hj => gd_l L r.1 (by omega))
        have hcn := chs_n L k
        by_cases k0 : k = 0
        · subst k0
          have hw0 := i3 rfl
          have hs1 : smK (L ++ [r.1]) (0 + 1) = 0 := by
            rw [smK, show (0 - 1 : Nat) = 0 from rfl, df_self]; rfl
          have hs0 : smK L 0 = 0 := rfl
          rw [hs0] at i4 i5
          refine ⟨gd_snoc i1 hx1, fun _ => hge.symm, fun h => absurd h (by omega), by rw [hs1]; omega, fun he => ?_⟩
          rw [hs1] at he
          have hd0 : df w r.1 = 0 := by omega
          have hwr := df_zero hd0
          have h5 := (i5 (by omega)).1
          have h6 := heq (by omega)
          refine ⟨?_, fun _ => by rw [hge, ← hwr, hw0]⟩
          rw [chs_s, hch, show (0 - 1 : Nat) = 0 from rfl, hge]
          rw [hwr] at h6
          refine Has.mk_app h5 ?_
          rw [hcn, show p + (0 + 2 * smK L 0) = q by rw [hs0]; omega]
          exact h6
        · have hw1 := i2 (by omega)
          have hgp : (L ++ [r.1]).getD (k - 1) 0 = w := by rw [gd_l L r.1 (by omega), hw1]
          have hg0 : (L ++ [r.1]).getD 0 0 = L.getD 0 0 := gd_l L r.1 (by omega)
          have hs1 : smK (L ++ [r.1]) (k + 1) = smK L k + df w r.1 := by
            rw [smK, hsm, hgp, hge]
          refine ⟨gd_snoc i1 hx1, fun _ => hge.symm, fun h => absurd h (by omega), by rw [hs1]; omega, fun he => ?_⟩
          rw [hs1] at he
          have h5 := i5 (by omega)
          have h6 := heq (by omega)
          refine ⟨?_, fun _ => by rw [hg0]; exact h5.2 (by omega)⟩
          rw [chs_s, hch, hgp, hge]
          refine Has.mk_app h5.1 ?_
          rw [hcn, show p + (k + 2 * smK L k) = q by omega]
          exact h6
      · rw [ts_e c1 c2] at h; exact absurd h c2
    · rw [tsk, if_pos c1] at h; exact absurd h c1
theorem take_in {s : ByteArray} {n : Nat} (hn : 2 ≤ n ∧ n ≤ 258) (h : (getV s 0 5).2 = 0 ∧ Da.good (getV s 0 5).1) : takeD s 0 (n : Int) = ((tsk s (getV s 0 5).1 ((5 : Nat) : Int) n).1, (tsk s (getV s 0 5).1 ((5 : Nat) : Int) n).2.2.1, (tsk s (getV s 0 5).1 ((5 : Nat) : Int) n).2.2.2) := by
  rw [td_4 (by omega) h.1 h.2]; rfl
theorem take_out {s : ByteArray} (h : ¬ ((getV s 0 5).2 = 0 ∧ Da.good (getV s 0 5).1)) : ∃ e : Int, (e = 2 ∨ e = 3) ∧ ∀ n : Nat, 2 ≤ n ∧ n ≤ 258 → takeD s 0 (n : Int) = ([], 0, e) := by
  by_cases h1 : (getV s 0 5).2 = 0
  · exact ⟨3, .inr rfl, fun n hn => td_3 (by omega) h1 (fun h2 => h ⟨h1, h2⟩)⟩
  · refine ⟨(getV s 0 5).2, .inl ?_, fun n hn => td_2 (by omega) h1⟩
    rcases gv_err (s := s) (a := 0) (n := 5) (by decide) (by decide) with h2 | h2
    · exact absurd h2 h1
    · exact h2
theorem get_5 {s : ByteArray} (h : (getV s 0 5).2 = 0) : 5 ≤ 8 * s.size := by
  have := gvE s 0 5 h; omega
theorem take_bad {s : ByteArray} {n : Nat} (hn : 2 ≤ n ∧ n ≤ 258) (h : (takeD s 0 (n : Int)).2.2 ≠ 0) : (takeD s 0 (n : Int)).1 = [] ∧ (takeD s 0 (n : Int)).2.1 = 0 ∧ ((takeD s 0 (n : Int)).2.2 = 2 ∨ (takeD s 0 (n : Int)).2.2 = 3) := by
  by_cases hg : (getV s 0 5).2 = 0 ∧ Da.good (getV s 0 5).1
  · have h5 := get_5 hg.1
    rw [take_in hn hg] at h ⊢
    obtain ⟨h1, h2⟩ := ts_bad (s := s) (v := (getV s 0 5).1) (a := ((5 : Nat) : Int)) (by omega) hg.2 n h
    refine ⟨?_, ?_, h2⟩ <;> rw [h1]
  · obtain ⟨e, he, ht⟩ := take_out hg
    rw [ht n hn]; exact ⟨rfl, rfl, he⟩
theorem take_ok {s : ByteArray} {n : Nat} (hn : 2 ≤ n ∧ n ≤ 258) (h : (takeD s 0 (n : Int)).2.2 = 0) : (takeD s 0 (n : Int)).1.length = n ∧ (∀ x ∈ (takeD s 0 (n : Int)).1, Da.good x) ∧ ((dB (takeD s 0 (n : Int)).1).length : Int) ≤ (takeD s 0 (n : Int)).2.1 ∧ (((dB (takeD s 0 (n : Int)).1).length : Int) = (takeD s 0 (n : Int)).2.1 → same s.data.toList 0 (dB (takeD s 0 (n : Int)).1) = true) := by
  by_cases hg : (getV s 0 5).2 = 0 ∧ Da.good (getV s 0 5).1
  · have h5 := get_5 hg.1
    rw [take_in hn hg] at h ⊢
    have hin := ts_in (s := s) (v := (getV s 0 5).1) (a := ((5 : Nat) : Int)) (by omega) hg.2 n h
    obtain ⟨h1, _, _, h4, h6⟩ := ts_all (s := s) (p := 5) (by omega) hg.2 n h
    have hn2 := dB_n (tsk s (getV s 0 5).1 ((5 : Nat) : Int) n).1
    rw [hin.1] at hn2
    refine ⟨hin.1, h1, by simp only; omega, fun he => ?_⟩
    simp only at he ⊢
    obtain ⟨h7, h8⟩ := h6 (by omega)
    have h8 := h8 (by omega)
    generalize (tsk s (getV s 0 5).1 ((5 : Nat) : Int) n).1 = l at *
    have hx : 1 ≤ (getV s 0 5).1 ∧ (getV s 0 5).1 ≤ 20 := hg.2
    have hb5 : bitsAt s.data.toList 0 5 = num (l.getD 0 0).toNat 5 := by
      have e1 := gv_0 (s := s) (a := 0) (n := 5) (by omega) (by omega) (k := 5) rfl
      have e2 : ((val (bitsAt s.data.toList 0 5) : Nat) : Int) = l.getD 0 0 := by
        rw [← h8, e1]; rfl
      have e3 := num_val (bitsAt s.data.toList 0 5)
      rw [bitsAt_len] at e3
      rw [← e2, Int.toNat_natCast, e3]
    have hH : Has s 0 (num (l.getD 0 0).toNat 5) := by
      refine ⟨by rw [num_len]; omega, fun j hj => ?_⟩
      rw [← hb5]
      rw [num_len] at hj
      rw [List.getD_eq_getElem?_getD]; simp [bitsAt, hj]
    have hD : Has s 0 (dB l) := by
      rw [dB_chs, hin.1]
      exact Has.mk_app hH (by rw [num_len]; exact h7)
    have ha := hD.at_
    unfold same
    rw [show (0 : Int).toNat = 0 from rfl, ha, decide_eq_true (show (0 : Int) ≤ 0 by decide), decide_eq_true rfl, decide_eq_true (show 0 + (dB l).length ≤ 8 * s.data.toList.length from hD.1)]; rfl
  · obtain ⟨e, he, ht⟩ := take_out hg
    rw [ht n hn] at h
    simp only at h; omega
theorem take_few {s : ByteArray} {m k : Nat} (hk : 2 ≤ k ∧ k ≤ m) (hm : m ≤ 258) : ((takeD s 0 (m : Int)).2.2 = 0 → (takeD s 0 (k : Int)).2.2 = 0 ∧ (takeD s 0 (k : Int)).1 = (takeD s 0 (m : Int)).1.take k ∧ (takeD s 0 (k : Int)).2.1 ≤ (takeD s 0 (m : Int)).2.1) ∧ ((takeD s 0 (k : Int)).2.2 ≠ 0 → (takeD s 0 (k : Int)).2.2 = (takeD s 0 (m : Int)).2.2) := by
  by_cases hg : (getV s 0 5).2 = 0 ∧ Da.good (getV s 0 5).1
  · have h5 := get_5 hg.1
    rw [take_in (n := m) (by omega) hg, take_in (n := k) (by omega) hg]
    simp only
    refine ⟨fun h => ?_, fun h => ?_⟩
    · have h1 := ts_down hk.2 h
      have h2 := ts_pre (s := s) (v := (getV s 0 5).1) (a := ((5 : Nat) : Int)) (by omega) hg.2 (k := k) (m - k) (by rw [show k + (m - k) = m by omega]; exact h)
      rw [show k + (m - k) = m by omega] at h2
      exact ⟨h1, h2⟩
    · rw [ts_up hk.2 h]
  · obtain ⟨e, he, ht⟩ := take_out hg
    rw [ht m (by omega), ht k (by omega)]
    refine ⟨fun h => ?_, fun _ => rfl⟩
    simp only at h; omega
end Dr
end Go.Proofs.Ytbfigolloaeknaa
