/-
  THE WALK of BitsGet.
-/
import Derived.Test.YtkmkogkfahepjaaWBack
namespace Go.Proofs.Ytkmkogkfahepjaa
open Go.RowKit
namespace BitsGet
open Bm Bt
theorem val_split (t : List UInt8) (i p m : Nat) (h : p ≤ m) : val (bitsAt t i m) = val (bitsAt t i p) * 2 ^ (m - p) + val (bitsAt t (i + p) (m - p)) := by
  have := bitsAt_split t i p (m - p)
  rw [show p + (m - p) = m by omega] at this
  rw [this, val_append, bitsAt_len]
set_option maxRecDepth 100000 in
set_option maxHeartbeats 4000000 in
theorem walk {w : World} (s : ByteArray) (at_ : Int) (a1 : -9223372036854775808 ≤ at_) (a2 : at_ ≤ 9223372036854775807) (n : Int) (n1 : -9223372036854775808 ≤ n) (n2 : n ≤ 9223372036854775807) (k : Int) (k1 : -9223372036854775808 ≤ k) (k2 : k ≤ 9223372036854775807) :
    Calls Try.prog 5 #[.string s, .int .i64 at_, .int .i64 n, .int .i64 k] w fun e w' => e = .returned (.bool true) ∧ Below w.heap.size w w' := by
  go_enter Try.func5, Try.ntmps5
  go_wp2_with fail
  refine (awake_at w).mono ?_
  rintro e w1 ⟨rfl, hb1⟩
  have Hb1 := Lib.hid hb1
  clear hb1
  go_wp2_with (refine Kit.wpList_min rfl (.tmp 24) (.const (.int .i64 60)) 3 rfl s.size 60 rfl rfl ?_; intro q hq1 hq2 hq3)
  obtain ⟨t, ht⟩ : ∃ t : ByteArray, s.extract 0 q = t := ⟨_, rfl⟩
  have hts : t.size ≤ 60 := by rw [← ht, ByteArray.size_extract]; omega
  rw [ht]
  have Hts := Lib.hid hts
  have ht60 : (t.size : Int) ≤ 60 := by omega
  clear hts ht hq1 hq2 hq3
  refine (pick_at at_ 480 _ a1 a2 (by omega) (by omega)).mono ?_
  rintro e w2 ⟨⟨i, hi, rfl⟩, rfl⟩
  go_wp2_with fail
  refine (pick_at n 65 _ n1 n2 (by omega) (by omega)).mono ?_
  rintro e w2 ⟨⟨m, hm, rfl⟩, rfl⟩
  go_wp2_with fail
  refine (pick_at k _ _ k1 k2 (by omega) (by omega)).mono ?_
  rintro e w2 ⟨⟨p, hp, rfl⟩, rfl⟩
  have hpm : p ≤ m := by omega
  obtain ⟨r, hr⟩ : ∃ r, m - p = r := ⟨_, rfl⟩
  have hX : (m : Int) - (p : Int) = (r : Int) := by omega
  have Hr := Lib.hid hr
  have Hpm := Lib.hid hpm
  have hm64 : (m : Int) ≤ 64 := by omega
  clear hr hpm
  by_cases hfit : i + m ≤ 8 * t.size
  · have hfit2 : ¬ 8 * (t.size : Int) < (i : Int) + (m : Int) := by omega
    have hsz : t.size * 8 ≤ 9223372036854775807 := by have := Hts.out; omega
    obtain ⟨V, hV⟩ : ∃ V, val (bitsAt t.data.toList i m) = V := ⟨_, rfl⟩
    obtain ⟨A, hA⟩ : ∃ A, val (bitsAt t.data.toList i p) = A := ⟨_, rfl⟩
    obtain ⟨B, hB⟩ : ∃ B, val (bitsAt t.data.toList (i + p) r) = B := ⟨_, rfl⟩
    have hVAB : V = A * 2 ^ r + B := by
      have := val_split t.data.toList i p m Hpm.out
      rw [Hr.out, hV, hA, hB] at this
      exact this
    have hVm : V < 2 ^ m := by
      have := val_lt (bitsAt t.data.toList i m)
      rwa [bitsAt_len, hV] at this
    have hA0 : p = 0 → A = 0 := by
      intro h
      rw [← hA, h]; rfl
    have Hfit := Lib.hid hfit
    have HA0 := Lib.hid hA0
    have Hsum := Lib.hid hVAB
    have HVm := Lib.hid hVm
    have g1 := fun w0 => get_closed t (i : Int) (m : Int) i m V w0 rfl rfl (by omega) hsz hfit hV
    have g2 := fun w0 => get_closed t (i : Int) (p : Int) i p A w0 rfl rfl (by omega) hsz (by have := Hpm.out; omega) hA
    have g3 := fun w0 => get_closed t ((i : Int) + (p : Int)) (r : Int) (i + p) r B w0 (by omega) rfl (by have := Hr.out; omega) hsz (by have := Hr.out; have := Hpm.out; omega) hB
    have G1 := Lib.hid g1
    have G2 := Lib.hid g2
    have G3 := Lib.hid g3
    clear hfit hV hA hB hVAB hVm hA0 g1 g2 g3
    go_wp2_with fail
    refine (G1.out _).mono ?_
    rintro e w3 ⟨rfl, hb3⟩
    have Hb3 := Lib.hid (Hb1.out.trans (hb3.mono Hb1.out.size))
    clear hb3 Hb1
    go_wp2_with fail
    refine (G2.out _).mono ?_
    rintro e w4 ⟨rfl, hb4⟩
    have Hb4 := Lib.hid (Hb3.out.trans (hb4.mono Hb3.out.size))
    clear hb4 Hb3
    go_wp2_with fail
    refine (G3.out _).mono ?_
    rintro e w5 ⟨rfl, hb5⟩
    have Hb5 := Lib.hid (Hb4.out.trans (hb5.mono Hb4.out.size))
    clear hb5 Hb4 G1 G2 G3
    by_cases hr64 : r < 64
    · have hr2 : (r : Int) < 64 := by omega
      have hV64 : A * 2 ^ r + B < 2 ^ 64 := by
        rw [← Hsum.out]
        exact Nat.lt_of_lt_of_le HVm.out (Nat.pow_le_pow_right (by omega) (by omega))
      have hsh := shl_val A r (by omega)
      obtain ⟨S, hS⟩ : ∃ S, A * 2 ^ r = S := ⟨_, rfl⟩
      rw [hS] at hsh hV64
      have HS := Lib.hid hS
      have hBS : (B : Int) + (S : Int) ≤ 18446744073709551615 := by omega
      have hBS0 : 0 ≤ (B : Int) + (S : Int) := by omega
      have hVV : ((V : Int) == (B : Int) + (S : Int)) = true := by rw [beq_iff_eq, Hsum.out, hS]; omega
      clear hS hV64
      by_cases hm2 : m = 64
      · have hmm : ((m : Int) == 64) = true := by rw [beq_iff_eq]; omega
        have Hm2 := Lib.hid hm2
        clear hm2
        go_wp2
        go_ret
        exact ⟨rfl, Hb5.out⟩
      · have hmm : ((m : Int) == 64) = false := by rw [beq_eq_false_iff_ne]; omega
        have hw : IntKind.u64.wrap ((2 : Int) ^ m) = ((2 ^ m : Nat) : Int) := by
          have h2 : 2 ^ m < 2 ^ 64 := Nat.pow_lt_pow_right (by omega) (by omega)
          rw [show ((2 : Int) ^ m) = ((2 ^ m : Nat) : Int) by simp, u64_id _ h2]
        obtain ⟨P, hP⟩ : ∃ P, 2 ^ m = P := ⟨_, rfl⟩
        rw [hP] at hw
        have hlt : V < P := by
          have := HVm.out
          rwa [hP] at this
        have Hlt := Lib.hid hlt
        have Hm2 := Lib.hid hm2
        clear hm2 hP hlt
        go_wp2
        go_ret
        exact ⟨Kit.ret_bool (decide_eq_true Hlt.out), Hb5.out⟩
    · have hr2 : ¬ (r : Int) < 64 := by omega
      have hr3 : r = 64 := by have := Hr.out; omega
      have hm3 : m = 64 := by have := Hr.out; omega
      have hA : A = 0 := HA0.out (by have := Hr.out; omega)
      have hVB : V = B := by rw [Hsum.out, hA]; omega
      have hmm : ((m : Int) == 64) = true := by rw [beq_iff_eq]; omega
      have hA1 : ((A : Int) != 0) = false := by rw [hA]; rfl
      have hVB2 : ((V : Int) == (B : Int)) = true := by rw [beq_iff_eq]; omega
      clear hr3 hm3 hA hVB hr64
      go_wp2
      go_ret
      exact ⟨rfl, Hb5.out⟩
  · have hfit2 : 8 * (t.size : Int) < (i : Int) + (m : Int) := by omega
    have hsz : t.size * 8 ≤ 9223372036854775807 := by have := Hts.out; omega
    have g1 := fun w0 => get_short t (i : Int) (m : Int) i m w0 rfl rfl (by omega) hsz (by omega) (by omega)
    have g2 : ∀ w0, Calls Try.prog 12 #[.string t, .int .i64 (i : Int), .int .i64 (p : Int)] w0 fun e w' => (∃ x y : Int, e = .returned (.tuple #[.int .u64 x, .int .i64 y])) ∧ Below w0.heap.size w0 w' := by
      intro w0
      by_cases hp2 : i + p ≤ 8 * t.size
      · exact (get_ok t (i : Int) (p : Int) i p w0 rfl rfl (by have := Hpm.out; omega) hsz hp2).mono fun e w' ⟨h1, h2⟩ => ⟨⟨_, _, h1⟩, h2⟩
      · exact (get_short t (i : Int) (p : Int) i p w0 rfl rfl (by have := Hpm.out; omega) hsz (by omega) (by omega)).mono fun e w' ⟨h1, h2⟩ => ⟨⟨_, _, h1⟩, h2⟩
    have g3 := fun w0 => get_short t ((i : Int) + (p : Int)) (r : Int) (i + p) r w0 (by omega) rfl (by have := Hr.out; omega) hsz (by have := Hpm.out; omega) (by have := Hr.out; have := Hpm.out; omega)
    have G1 := Lib.hid g1
    have G2 := Lib.hid g2
    have G3 := Lib.hid g3
    clear hfit g1 g2 g3
    go_wp2_with fail
    refine (G1.out _).mono ?_
    rintro e w3 ⟨rfl, hb3⟩
    have Hb3 := Lib.hid (Hb1.out.trans (hb3.mono Hb1.out.size))
    clear hb3 Hb1
    go_wp2_with fail
    refine (G2.out _).mono ?_
    rintro e w4 ⟨⟨x, y, rfl⟩, hb4⟩
    have Hb4 := Lib.hid (Hb3.out.trans (hb4.mono Hb3.out.size))
    clear hb4 Hb3
    go_wp2_with fail
    refine (G3.out _).mono ?_
    rintro e w5 ⟨rfl, hb5⟩
    have Hb5 := Lib.hid (Hb4.out.trans (hb5.mono Hb4.out.size))
    clear hb5 Hb4 G1 G2 G3
    go_wp2
    go_ret
    exact ⟨rfl, Hb5.out⟩
theorem whole {W : World} (s : ByteArray) (_ : s.size ≤ maxLen) (a : Int) (wa : (Lit.int .i64 a).wf = true) (n : Int) (wn : (Lit.int .i64 n).wf = true) (k : Int) (wk : (Lit.int .i64 k).wf = true) :
    Calls Try.prog 5 #[.string s, .int .i64 a, .int .i64 n, .int .i64 k] W fun e w' => e = .returned (.bool true) ∧ Below W.heap.size W w' :=
  walk s a (BitsBack.in64 a wa).1 (BitsBack.in64 a wa).2 n (BitsBack.in64 n wn).1 (BitsBack.in64 n wn).2 k (BitsBack.in64 k wk).1 (BitsBack.in64 k wk).2
end BitsGet
end Go.Proofs.Ytkmkogkfahepjaa
