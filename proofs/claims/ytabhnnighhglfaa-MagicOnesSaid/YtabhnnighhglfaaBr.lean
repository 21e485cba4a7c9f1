/-
  CONTRACTS of package bits: Right.
-/
import Derived.Test.YtabhnnighhglfaaBt
namespace Go.Proofs.Ytabhnnighhglfaa
open Go.RowKit
namespace Bt
open Bm
def right (s : List UInt8) (n : Int) : Bool := decide (0 ≤ n) && decide (s.length = (n.toNat + 7) / 8) && decide (enc (bitsAt s 0 n.toNat) = s)
theorem right_mod (s : List UInt8) (n : Nat) (hl : s.length = (n + 7) / 8) (h0 : n % 8 = 0) : enc (bitsAt s 0 n) = s :=
  enc_of_right s n hl (fun j hj => bit_out s j (by omega))
theorem right_last (s : List UInt8) (n : Nat) (hl : s.length = (n + 7) / 8) (_h0 : n % 8 ≠ 0) :
    (((s.getD (n / 8) 0).toNat : Int) * (2 : Int) ^ (n % 8) % 256 == 0) = decide (enc (bitsAt s 0 n) = s) := by
  have e : ((s.getD (n / 8) 0).toNat : Int) * (2 : Int) ^ (n % 8) % 256 = (((s.getD (n / 8) 0).toNat * 2 ^ (n % 8) % 256 : Nat) : Int) := by simp
  rw [e, Bool.eq_iff_iff, beq_iff_eq, decide_eq_true_eq]
  generalize hb : s.getD (n / 8) 0 = b
  constructor
  · intro h
    have h' : b.toNat * 2 ^ (n % 8) % 256 = 0 := by omega
    refine enc_of_right s n hl (fun j hj => ?_)
    by_cases hj8 : j / 8 = n / 8
    · unfold bit bitAt
      rw [hj8, hb]
      have h1 : (b.toNat * 2 ^ (n % 8)).testBit (7 - j % 8 + n % 8) = b.toNat.testBit (7 - j % 8) := by
        rw [Nat.testBit_mul_two_pow]; simp
      rw [← h1]
      have h2 : (b.toNat * 2 ^ (n % 8) % 2 ^ 8).testBit (7 - j % 8 + n % 8) = false := by
        rw [show (2 ^ 8 : Nat) = 256 from rfl, h']; simp
      rw [Nat.testBit_mod_two_pow] at h2
      simpa [show 7 - j % 8 + n % 8 < 8 by omega] using h2
    · exact bit_out s j (by omega)
  · intro h
    have hz : ∀ j, n ≤ j → bit s j = false := by
      intro j hj
      rw [← h, enc_bit, List.getD_eq_getElem?_getD, List.getElem?_eq_none (by rw [bitsAt_len]; exact hj)]; rfl
    have : b.toNat * 2 ^ (n % 8) % 2 ^ 8 = 0 := by
      apply Nat.eq_of_testBit_eq
      intro i
      rw [Nat.testBit_mod_two_pow, Nat.testBit_mul_two_pow, Nat.zero_testBit]
      by_cases h1 : i < 8 ∧ n % 8 ≤ i
      · have := hz (8 * (n / 8) + (7 - (i - n % 8))) (by omega)
        unfold bit bitAt at this
        rw [show (8 * (n / 8) + (7 - (i - n % 8))) / 8 = n / 8 by omega, hb, show 7 - (8 * (n / 8) + (7 - (i - n % 8))) % 8 = i - n % 8 by omega] at this
        simp [this]
      · by_cases h2 : i < 8
        · simp [show ¬ n % 8 ≤ i by omega]
        · simp [h2]
    omega
set_option maxRecDepth 100000 in
set_option maxHeartbeats 1000000 in
theorem right_at (s : ByteArray) (n : Int) (w : World) (hs : s.size * 8 ≤ 9223372036854775807) (hn1 : -9223372036854775808 ≤ n) (hn2 : n ≤ 9223372036854775807) :
    Calls Try.prog 39 #[.agg #[.string s, .int .i64 n]] w fun e w' => e = .returned (.bool (right s.data.toList n)) ∧ Below w.heap.size w w' := by
  by_cases h0 : n < 0
  · have hd : right s.data.toList n = false := by unfold right; rw [decide_eq_false (by omega)]; rfl
    have Hd := Lib.hid hd
    clear hd
    have ht : decide (n < 0) = true := by simpa using h0
    go_enter Try.func39, Try.ntmps39
    go_wp2_with fail
    go_quiet (fail)
    go_wp2
    go_ret
    refine ⟨Kit.ret_bool Hd.out.symm, ?_⟩
    exact ((Below.refl _ _).alloc (Nat.le_refl _) _).trans ((Kit.Dr.below ⟨_, rfl⟩ _))
  · obtain ⟨m, rfl⟩ := Int.eq_ofNat_of_zero_le (show 0 ≤ n by omega)
    have ht : decide ((m : Int) < 0) = false := by simp
    by_cases hl : s.size = (m + 7) / 8
    · have htest : ((s.size : Int) != (((m + 7) / 8 : Nat) : Int)) = false := by rw [bne_eq_false_iff_eq]; omega
      by_cases hm : m % 8 = 0
      · have hd : right s.data.toList m = true := by
          unfold right
          rw [decide_eq_true (by omega), decide_eq_true (by simp; exact hl), Int.toNat_natCast, decide_eq_true (right_mod _ _ (by simp; exact hl) hm)]; rfl
        have Hd := Lib.hid hd
        have Hl := Lib.hid hl
        have htm : ((m : Int) % 8 == 0) = true := by rw [beq_iff_eq]; omega
        clear hd hl hm h0
        go_enter Try.func39, Try.ntmps39
        go_wp2_with fail
        go_quiet ((go_at_call 41; exact Kit.q_same (holding_at m _ _ rfl (by omega))))
        go_wp2
        go_ret
        refine ⟨Kit.ret_bool (Hd.out.symm), ?_⟩
        exact ((Below.refl _ _).alloc (Nat.le_refl _) _).trans ((Kit.Dr.below ⟨_, rfl⟩ _))
      · have hd : right s.data.toList m = decide (enc (bitsAt s.data.toList 0 m) = s.data.toList) := by
          unfold right
          rw [decide_eq_true (by omega), decide_eq_true (by simp; exact hl)]; simp
        have hb : (m + 7) / 8 - 1 = m / 8 := by omega
        have hls : m / 8 < s.size := by omega
        have hX0 : 0 ≤ (s.size : Int) - 1 := by omega
        have hX1 : (s.size : Int) - 1 < (s.size : Int) := by omega
        have hm8 : 0 ≤ (m : Int) % 8 := by omega
        have Hl := Lib.hid hl
        have Hm := Lib.hid hm
        have htm : ((m : Int) % 8 == 0) = false := by rw [beq_eq_false_iff_ne]; omega
        have Hd := Lib.hid hd
        clear hd hl hm h0 hb hls
        go_enter Try.func39, Try.ntmps39
        go_wp2_with fail
        go_quiet ((go_at_call 41; exact Kit.q_same (holding_at m _ _ rfl (by omega))))
        go_wp2
        go_ret
        refine ⟨Kit.ret_bool ?_, ?_⟩
        · rw [Hd.out, ← right_last s.data.toList m (by simp; exact Hl.out) Hm.out]
          have e : s.data.toList.getD (m / 8) 0 = s[s.size - 1]'(by omega) := by
            have e2 : m / 8 = s.size - 1 := by have := Hl.out; have := Hm.out; omega
            rw [e2, List.getD_eq_getElem?_getD, List.getElem?_eq_getElem (by simp; omega)]
            rfl
          rw [e]
        · exact ((Below.refl _ _).alloc (Nat.le_refl _) _).trans ((Kit.Dr.below ⟨_, rfl⟩ _))
    · have hd : right s.data.toList m = false := by
        unfold right
        rw [decide_eq_true (by omega), decide_eq_false (by simp; exact hl)]; simp
      have Hd := Lib.hid hd
      have htest : ((s.size : Int) != (((m + 7) / 8 : Nat) : Int)) = true := by rw [bne_iff_ne]; omega
      clear hd hl h0
      go_enter Try.func39, Try.ntmps39
      go_wp2_with fail
      go_quiet ((go_at_call 41; exact Kit.q_same (holding_at m _ _ rfl (by omega))))
      go_wp2
      go_ret
      refine ⟨Kit.ret_bool Hd.out.symm, ?_⟩
      exact ((Below.refl _ _).alloc (Nat.le_refl _) _).trans ((Kit.Dr.below ⟨_, rfl⟩ _))
end Bt
end Go.Proofs.Ytabhnnighhglfaa
