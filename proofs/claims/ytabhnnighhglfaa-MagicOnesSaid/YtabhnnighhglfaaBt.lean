/-
  CONTRACTS of package bits, the plain ones: holding, has, take, Right.
-/
import Derived.Test.YtabhnnighhglfaaBm
import Derived.Test.YtabhnnighhglfaaKit
import Derived.Test.YtabhnnighhglfaaSched
import Derived.Test.YtabhnnighhglfaaRows
namespace Go.Proofs.Ytabhnnighhglfaa
open Go.RowKit
namespace Bt
open Bm
set_option maxHeartbeats 400000 in
theorem holding_at (n : Nat) (x : Int) (w : World) (hx : x = (n : Int)) (hn : (n : Int) ≤ 9223372036854775807) :
    Calls Try.prog 41 #[.int .i64 x] w fun e w' => e = .returned (.int .i64 (((n + 7) / 8 : Nat) : Int)) ∧ w = w' := by
  subst hx
  by_cases h : n % 8 = 0
  · have ht : ((n : Int) % 8 == 0) = true := by rw [beq_iff_eq]; omega
    have H := Lib.hid h
    clear h
    go_enter Try.func41, Try.ntmps41
    go_wp2
    go_ret
    exact ⟨Kit.ret_int (by have := H.out; omega), rfl⟩
  · have ht : ((n : Int) % 8 == 0) = false := by rw [beq_eq_false_iff_ne]; omega
    have H := Lib.hid h
    clear h
    go_enter Try.func41, Try.ntmps41
    go_wp2
    go_ret
    exact ⟨Kit.ret_int (by have := H.out; omega), rfl⟩
set_option maxHeartbeats 400000 in
theorem has_at (s : ByteArray) (a n : Int) (w : World) (hs : s.size * 8 ≤ 9223372036854775807) (h0 : 0 ≤ a) (ha : a ≤ 9223372036854775807) :
    Calls Try.prog 34 #[.string s, .int .i64 a, .int .i64 n] w fun e w' => e = .returned (.bool (decide (n ≤ 8 * (s.size : Int) - a))) ∧ w = w' := by
  go_enter Try.func34, Try.ntmps34
  go_wp2
  go_ret
  exact ⟨rfl, rfl⟩
theorem u64_id (n : Nat) (h : n < 2 ^ 64) : IntKind.u64.wrap (n : Int) = (n : Int) := IntWalk.u64_in _ ⟨by omega, by omega⟩
theorem mask (k : Nat) (h : k ≤ 63) : IntKind.u64.wrap (IntKind.u64.wrap ((2 : Int) ^ k) - 1) = ((2 ^ k - 1 : Nat) : Int) := by
  have h1 : 2 ^ k < 2 ^ 64 := Nat.pow_lt_pow_right (by omega) (by omega)
  have h2 : 1 ≤ 2 ^ k := Nat.one_le_two_pow
  have e : ((2 : Int) ^ k) = ((2 ^ k : Nat) : Int) := by simp
  rw [e, u64_id _ h1, show ((2 ^ k : Nat) : Int) - 1 = ((2 ^ k - 1 : Nat) : Int) by omega, u64_id _ (by omega)]
theorem shl_val (v k : Nat) (h : v * 2 ^ k < 2 ^ 64) : IntKind.u64.wrap ((v : Int) * (2 : Int) ^ k) = ((v * 2 ^ k : Nat) : Int) := by
  have e : (v : Int) * (2 : Int) ^ k = ((v * 2 ^ k : Nat) : Int) := by simp
  rw [e, u64_id _ h]
theorem low_val (x j k : Nat) (hx : x < 2 ^ 64) (hk : k ≤ 63) :
    bits BinOp.and IntKind.u64 ((x : Int) / (2 : Int) ^ j) (IntKind.u64.wrap (IntKind.u64.wrap ((2 : Int) ^ k) - 1)) = ((x / 2 ^ j % 2 ^ k : Nat) : Int) := by
  have h1 : 2 ^ k < 2 ^ 64 := Nat.pow_lt_pow_right (by omega) (by omega)
  have e : (x : Int) / (2 : Int) ^ j = ((x / 2 ^ j : Nat) : Int) := by simp
  have hd : x / 2 ^ j ≤ x := Nat.div_le_self _ _
  rw [mask k hk, e, u64_and_nat _ _ (by omega) (by omega), Nat.and_two_pow_sub_one_eq_mod]
theorem step_val (v b q k : Nat) (hb : b < 256) (hk : k ≤ 63) (hv : v * 2 ^ k + 2 ^ k ≤ 2 ^ 64) :
    bits BinOp.or IntKind.u64 (IntKind.u64.wrap ((v : Int) * (2 : Int) ^ k)) (bits BinOp.and IntKind.u64 (IntKind.u64.wrap (b : Int) / (2 : Int) ^ (q - k)) (IntKind.u64.wrap (IntKind.u64.wrap ((2 : Int) ^ k) - 1))) =
    ((v * 2 ^ k + b / 2 ^ (q - k) % 2 ^ k : Nat) : Int) := by
  have h2 : 1 ≤ 2 ^ k := Nat.one_le_two_pow
  have hm : b / 2 ^ (q - k) % 2 ^ k < 2 ^ k := Nat.mod_lt _ (by omega)
  rw [u64_id b (by omega), low_val b (q - k) k (by omega) hk, shl_val v k (by omega), u64_or_nat _ _ (by omega) (by omega), nat_join k _ _ (by simp) hm]
set_option maxRecDepth 100000 in
set_option maxHeartbeats 1000000 in
theorem take_at (s : ByteArray) (x y : Int) (a n : Nat) (w : World) (hx : x = (a : Int)) (hy : y = (n : Int)) (hn : n ≤ 64) (hs : s.size * 8 ≤ 9223372036854775807) (han : a + n ≤ 8 * s.size) :
    Calls Try.prog 35 #[.string s, .int .i64 x, .int .i64 y] w fun e w' => e = .returned (.int .u64 ((val (bitsAt s.data.toList a n) : Nat) : Int)) ∧ Kit.Dr w w' := by
  subst hx hy
  go_enter Try.func35, Try.ntmps35
  go_wp2
  go_loopw [1, 2, 7, 8, 9] (fun p q v _ _ wr => ∃ m : Nat, m ≤ n ∧ p = .int .i64 ((a + m : Nat) : Int) ∧ q = .int .i64 ((n - m : Nat) : Int) ∧ v = .int .u64 ((val (bitsAt s.data.toList a m) : Nat) : Int) ∧ Kit.Dr w wr) (fun _ q _ _ _ _ => (intOf q).toNat)
  case atStart => exact ⟨0, by omega, by simp, by simp, rfl, Kit.Dr.refl _⟩
  case round =>
    obtain ⟨m, hm, rfl, rfl, rfl, hdr⟩ := hrel
    have Hdr := Lib.hid hdr
    clear hdr
    by_cases hlt : m < n
    · obtain ⟨b, hb⟩ : ∃ b, a + m = b := ⟨_, rfl⟩
      obtain ⟨r, hr⟩ : ∃ r, n - m = r := ⟨_, rfl⟩
      rw [hb, hr]
      have hbs : b / 8 < s.size := by omega
      have hbi : (b : Int) / 8 < (s.size : Int) := by omega
      have hb0 : 0 ≤ (b : Int) / 8 := by omega
      have hr0 : 0 < r := by omega
      have hr64 : r ≤ 64 := by omega
      have hb2 : (b : Int) ≤ 9223372036854775807 := by omega
      obtain ⟨v, hv⟩ : ∃ v, val (bitsAt s.data.toList a m) = v := ⟨_, rfl⟩
      have hv64 : v < 2 ^ m := by rw [← hv]; have := val_lt (bitsAt s.data.toList a m); rwa [bitsAt_len] at this
      rw [hv]
      have Hv := Lib.hid hv
      have Hv64 := Lib.hid hv64
      have Hb := Lib.hid hb
      have Hr := Lib.hid hr
      clear hv hv64 hb hr
      obtain ⟨q, hq⟩ : ∃ q : Nat, 8 - b % 8 = q := ⟨_, rfl⟩
      have hX : 8 - (b : Int) % 8 = (q : Int) := by omega
      have hq1 : 1 ≤ q := by omega
      have hq8 : q ≤ 8 := by omega
      have Hq := Lib.hid hq
      clear hq
      go_wp2_with (refine Kit.wpList_min rfl (.tmp 15) (.tmp 16) 3 rfl q r rfl rfl ?_; intro k hk1 hk2 hk3)
      refine Sched.region_n 18 (by kernel_rfl) (by kernel_rfl) ?_
      simp only [List.take_succ_cons, List.take_nil, List.drop_succ_cons, List.drop_nil]
      repeat (first | go_big_quiet_skip | (go_big_quiet_want; go_big_quiet_op; go_big_quiet_on))
      refine wpQuiet_nil ?_
      go_wp2
      refine NoPanic.normal ?_
      go_wp2
      go_roundw
      case rel =>
        refine ⟨m + k, by have := Hr.out; omega, ?_, ?_, ?_, Hdr.out.drew⟩
        · congr 1; have := Hb.out; omega
        · congr 1; have := Hr.out; omega
        · congr 1
          have hm64 : m + k ≤ 64 := by have := Hr.out; omega
          have hvk : v * 2 ^ k + 2 ^ k ≤ 2 ^ 64 := by
            have h1 : v * 2 ^ k + 2 ^ k = (v + 1) * 2 ^ k := by rw [Nat.add_mul, Nat.one_mul]
            have h2 : (v + 1) * 2 ^ k ≤ 2 ^ m * 2 ^ k := Nat.mul_le_mul_right _ (by have := Hv64.out; omega)
            rw [← Nat.pow_add] at h2
            have h3 : 2 ^ (m + k) ≤ 2 ^ 64 := Nat.pow_le_pow_right (by omega) hm64
            omega
          have hbb := s[b / 8].toNat_lt
          rw [step_val v _ q k hbb (by omega) hvk, bitsAt_split, val_append, Hv.out, bitsAt_len, Hb.out, val_byte _ _ _ (by have := Hq.out; omega)]
          rw [show 8 - b % 8 - k = q - k by have := Hq.out; omega, List.getD_eq_getElem?_getD, List.getElem?_eq_getElem (by simpa using hbs)]
          rfl
      case measure => simp [intOf]; omega
    · obtain rfl : m = n := by omega
      have e0 : ((m - m : Nat) : Int) = 0 := by omega
      rw [e0]
      go_wp2
      go_ret
      exact ⟨rfl, Hdr.out⟩
end Bt
end Go.Proofs.Ytabhnnighhglfaa
