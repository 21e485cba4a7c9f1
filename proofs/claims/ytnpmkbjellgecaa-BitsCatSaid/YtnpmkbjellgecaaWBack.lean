/-
  THE WALK of BitsBack.
-/
import Derived.Test.YtnpmkbjellgecaaBw
namespace Go.Proofs.Ytnpmkbjellgecaa
open Go.RowKit
namespace BitsBack
open Bm Bt
theorem same_front (a b : List Bool) : same (pack (a ++ b)).data.toList ((0 : Nat) : Int) a = true := by
  unfold same
  have h := bitsAt_enc [] a b
  simp only [List.nil_append, List.length_nil] at h
  rw [pack_list, Int.toNat_natCast, h, enc_len, List.length_append]
  simp; omega
theorem get_end (a b : List Bool) : bitsAt (pack (a ++ b)).data.toList a.length b.length = b := by
  have h := bitsAt_enc a b []
  rw [pack_list]
  simpa using h
theorem vn (v : Int) (h : (Lit.int .u64 v).wf = true) : ∃ n : Nat, v = (n : Int) ∧ n < 2 ^ 64 := by
  have h2 : 0 ≤ v ∧ v ≤ 18446744073709551615 := by simpa [Lit.wf, IntKind.min, IntKind.max, IntKind.signed, IntKind.bits] using h
  exact ⟨v.toNat, by omega, by omega⟩
theorem in64 (v : Int) (h : (Lit.int .i64 v).wf = true) : -9223372036854775808 ≤ v ∧ v ≤ 9223372036854775807 := by
  simpa [Lit.wf, IntKind.min, IntKind.max, IntKind.signed, IntKind.bits] using h
set_option maxRecDepth 100000 in
set_option maxHeartbeats 4000000 in
theorem walk {w : World} (v : Value) (n : Nat) (z : List Int) (s : Kit.Sl w 1 v n (z.map (Value.int .i64))) (hz : ∀ x ∈ z, -9223372036854775808 ≤ x ∧ x ≤ 9223372036854775807)
    (x : Nat) (hx : x < 2 ^ 64) (c : Int) (c1 : -9223372036854775808 ≤ c) (c2 : c ≤ 9223372036854775807) :
    Calls Try.prog 3 #[v, .int .u64 (x : Int), .int .i64 c] w fun e w' => e = .returned (.bool true) ∧ Below w.heap.size w w' := by
  have Hx := Lib.hid hx
  clear hx
  go_enter Try.func3, Try.ntmps3
  go_wp2_with fail
  refine (awake_at w).mono ?_
  rintro e w1 ⟨rfl, hb1⟩
  have Hb1 := Lib.hid hb1
  clear hb1
  go_wp2_with fail
  refine (lawbits_at v n z 200 w1 (s.below Hb1.out) hz (by omega)).mono ?_
  rintro e w2 ⟨⟨b, hbl, rfl⟩, hb2⟩
  have Hb2 := Lib.hid (Hb1.out.trans (hb2.mono Hb1.out.size))
  have Hbl := Lib.hid hbl
  clear hb2 Hb1 hbl
  unfold bv
  go_wp2_with fail
  refine (pick_at c 65 _ c1 c2 (by omega) (by omega)).mono ?_
  rintro e w3 ⟨⟨k, hk, rfl⟩, rfl⟩
  have Hk : Hid (k ≤ 64) := (by omega : k ≤ 64)
  clear hk
  go_wp2_with fail
  refine (put_ok b _ _ _ x k _ rfl rfl rfl Hx.out Hk.out (by have := Hbl.out; omega)).mono ?_
  rintro e w4 ⟨rfl, hb4⟩
  obtain ⟨hc4, hn4⟩ := kept_new hb4
  have a0 := hn4 0 (.string (pack b)) rfl
  have a1 := hn4 1 (.int .i64 (b.length : Int)) rfl
  have Hb4 := Lib.hid (Hb2.out.trans (hc4.mono Hb2.out.size))
  clear hb4 hc4 hn4 Hb2
  obtain ⟨C, hC⟩ : ∃ C, b ++ num x k = C := ⟨_, rfl⟩
  have hCl : C.length = b.length + k := by rw [← hC, List.length_append, num_len]
  rw [hC]
  have HC := Lib.hid hC
  have HCl := Lib.hid hCl
  clear hC hCl
  have l2 := Kit.lt_of_cell a0
  have hb200 : (b.length : Int) ≤ 200 := by have := Hbl.out; omega
  have hk64 : (k : Int) ≤ 64 := by have := Hk.out; omega
  unfold bv
  go_wp2_with fail
  have hpC : (pack C).size * 8 ≤ 9223372036854775807 ∧ b.length + k ≤ 8 * (pack C).size := by
    rw [pack_size]; have := HCl.out; omega
  have hval : val (bitsAt (pack C).data.toList b.length k) = x % 2 ^ k := by
    have h := get_end b (num x k)
    rw [num_len, HC.out] at h
    rw [h, val_num]
  refine (get_closed (pack C) _ _ b.length k (x % 2 ^ k) _ rfl rfl Hk.out hpC.1 hpC.2 hval).mono ?_
  rintro e w5 ⟨rfl, hb5⟩
  obtain ⟨hc5, hn5⟩ := kept_new hb5
  have d0 := hn5 0 (.string (pack C)) rfl
  have d1 := hn5 1 (.int .i64 (C.length : Int)) rfl
  have e0 := keep a0 hc5
  have e1 := keep a1 hc5
  have Hb5 := Lib.hid (Hb4.out.trans (hc5.mono Hb4.out.size))
  clear hb5 hc5 hn5 Hb4 hpC hval a0 a1 l2
  have hN : ((C.length : Int) == (b.length : Int) + (k : Int)) = true := by rw [beq_iff_eq, HCl.out]; omega
  have hpos : 0 < 2 ^ k := Nat.two_pow_pos k
  by_cases hk : k < 64
  · have hk2 : decide ((k : Int) < 64) = true := by simp; omega
    have hw : IntKind.u64.wrap ((2 : Int) ^ k) = ((2 ^ k : Nat) : Int) := by
      have h2 : 2 ^ k < 2 ^ 64 := Nat.pow_lt_pow_right (by omega) hk
      rw [show ((2 : Int) ^ k) = ((2 ^ k : Nat) : Int) by simp, u64_id _ h2]
    obtain ⟨P, hP⟩ : ∃ P, 2 ^ k = P := ⟨_, rfl⟩
    rw [hP] at hpos hw
    rw [hP]
    have hP0 : ¬ (P : Int) = 0 := by omega
    clear hP
    go_wp2_with fail
    refine (right_ok C _ (by have := HCl.out; omega)).mono ?_
    rintro e w6 ⟨rfl, hb6⟩
    have f0 := keep d0 hb6
    have f1 := keep d1 hb6
    have g0 := keep e0 hb6
    have g1 := keep e1 hb6
    have Hb6 := Lib.hid (Hb5.out.trans (hb6.mono Hb5.out.size))
    clear hb6 Hb5 d0 d1 e0 e1
    go_wp2_with fail
    have hsame := same_front b (num x k)
    rw [HC.out] at hsame
    refine (same_closed (pack C) (pack b) 0 _ b true _ rfl (by rw [pack_size]; have := HCl.out; omega) (by omega) (by omega) hsame).mono ?_
    rintro e w7 ⟨rfl, hb7⟩
    have Hb7 := Lib.hid (Hb6.out.trans (hb7.mono Hb6.out.size))
    clear hb7 Hb6
    go_wp2
    go_ret
    exact ⟨rfl, Hb7.out⟩
  · have hk2 : decide ((k : Int) < 64) = false := by simp; omega
    have hk3 : x % 2 ^ k = x := by
      have e : k = 64 := by have := Hk.out; omega
      rw [e]; exact Nat.mod_eq_of_lt Hx.out
    rw [hk3]
    clear hk3 hpos
    go_wp2_with fail
    refine (right_ok C _ (by have := HCl.out; omega)).mono ?_
    rintro e w6 ⟨rfl, hb6⟩
    have f0 := keep d0 hb6
    have f1 := keep d1 hb6
    have g0 := keep e0 hb6
    have g1 := keep e1 hb6
    have Hb6 := Lib.hid (Hb5.out.trans (hb6.mono Hb5.out.size))
    clear hb6 Hb5 d0 d1 e0 e1
    go_wp2_with fail
    have hsame := same_front b (num x k)
    rw [HC.out] at hsame
    refine (same_closed (pack C) (pack b) 0 _ b true _ rfl (by rw [pack_size]; have := HCl.out; omega) (by omega) (by omega) hsame).mono ?_
    rintro e w7 ⟨rfl, hb7⟩
    have Hb7 := Lib.hid (Hb6.out.trans (hb7.mono Hb6.out.size))
    clear hb7 Hb6
    go_wp2
    go_ret
    exact ⟨rfl, Hb7.out⟩
theorem whole {W : World} (v : Value) (n : Nat) (z : List Int) (s : Kit.Sl W 1 v n (z.map (Value.int .i64))) (_l : z.length = n) (hz : ∀ x ∈ z, (Lit.int .i64 x).wf = true)
    (x : Int) (wx : (Lit.int .u64 x).wf = true) (c : Int) (wc : (Lit.int .i64 c).wf = true) :
    Calls Try.prog 3 #[v, .int .u64 x, .int .i64 c] W fun e w' => e = .returned (.bool true) ∧ Below W.heap.size W w' := by
  obtain ⟨X, rfl, hX⟩ := vn x wx
  exact walk v n z s (fun y hy => in64 y (hz y hy)) X hX c (in64 c wc).1 (in64 c wc).2
end BitsBack
end Go.Proofs.Ytnpmkbjellgecaa
