/-
  THE DOCUMENT'S OWN ANSWERS for sums, and THE WALK of CrcTells.
-/
import Derived.Test.YtlfbkkfcbpallaaWLine
import Derived.Test.YtlfbkkfcbpallaaBits
namespace Go.Proofs.Ytlfbkkfcbpallaa
open Go.RowKit
namespace CrcTells
open Crc CrcMore CrcLine
theorem mul2 (c : BitVec 32) : (2 : Int) * (c.toNat : Int) % (4294967296 : Int) = ((c <<< 1).toNat : Int) := by
  rw [Int.mul_comm]; exact shl1 c
theorem top_test (c : BitVec 32) (b : Bool) : ((c.toNat : Int) / 2147483648 != (b.toNat : Int)) = (c.msb ^^ b) := by
  rw [BitVec.msb_eq_decide]
  have := c.isLt
  by_cases h : 2 ^ (32 - 1) ≤ c.toNat
  · have e : (c.toNat : Int) / 2147483648 = 1 := by omega
    rw [e, decide_eq_true h]; cases b <;> rfl
  · have e : (c.toNat : Int) / 2147483648 = 0 := by omega
    rw [e, decide_eq_false h]; cases b <;> rfl
theorem stepb_eq (c : BitVec 32) (b : Bool) : stepb c b = if (c.msb ^^ b) = true then (c <<< 1) ^^^ poly else c <<< 1 := by
  unfold stepb Crc.step
  have e1 : (c ^^^ hi b 31).msb = (c.msb ^^ b) := by
    rw [BitVec.msb_xor]
    have : ∀ b, (hi b 31).msb = b := by decide
    rw [this]
  have e2 : (c ^^^ hi b 31) <<< 1 = c <<< 1 := by
    rw [BitVec.shiftLeft_xor_distrib]
    have : ∀ b, hi b 31 <<< 1 = 0#32 := by decide
    rw [this, BitVec.xor_zero]
  rw [e1, e2]
set_option maxHeartbeats 400000 in
theorem up_at (x y : Int) (c : BitVec 32) (b : Bool) (w : World) (hx : x = (c.toNat : Int)) (hy : y = (b.toNat : Int)) :
    Calls Try.prog 23 #[.int .u32 x, .int .u32 y] w fun e w' => e = .returned (.int .u32 ((stepb c b).toNat : Int)) ∧ w = w' := by
  have ht := top_test c b
  have hs := stepb_eq c b
  rw [← hx, ← hy] at ht
  have x0 : 0 ≤ x := by omega
  have x1 : x ≤ 4294967295 := by have := c.isLt; omega
  have h2 := mul2 c
  rw [← hx] at h2
  have Hs := Lib.hid hs
  have H2 := Lib.hid h2
  clear hx hy hs h2
  cases hb : (c.msb ^^ b) with
  | true =>
    rw [hb] at ht Hs
    clear hb
    go_enter Try.func23, Try.ntmps23
    go_wp2
    go_ret
    refine ⟨Kit.ret_int ?_, rfl⟩
    rw [Hs.out, H2.out, show (79764919 : Int) = ((poly.toNat : Nat) : Int) from rfl, xor_u]
    rfl
  | false =>
    rw [hb] at ht Hs
    clear hb
    go_enter Try.func23, Try.ntmps23
    go_wp2
    go_ret
    refine ⟨Kit.ret_int ?_, rfl⟩
    rw [Hs.out, H2.out]
    rfl

theorem bit_val (b : UInt8) (k : Nat) (hk : k ≤ 7) : ((b.toNat : Int) / (2 : Int) ^ k).tmod 2 = ((bitAt b (7 - k)).toNat : Int) := by
  have e : (b.toNat : Int) / (2 : Int) ^ k = ((b.toNat / 2 ^ k : Nat) : Int) := by simp
  have e2 : bitAt b (7 - k) = decide (b.toNat / 2 ^ k % 2 = 1) := by
    unfold bitAt
    rw [show 7 - (7 - k) = k by omega, BitVec.getLsbD, Nat.testBit_eq_decide_div_mod_eq]; rfl
  rw [e, e2]
  generalize b.toNat / 2 ^ k = q
  rw [Int.tmod_eq_emod_of_nonneg (by omega)]
  by_cases h : q % 2 = 1
  · rw [decide_eq_true h]; simp; omega
  · rw [decide_eq_false h]; simp; omega

set_option maxRecDepth 100000 in
set_option maxHeartbeats 1000000 in
theorem refMore_at (x : Int) (c : BitVec 32) (s : ByteArray) (w : World) (hx : x = (c.toNat : Int)) (hs : s.size ≤ maxLen) :
    Calls Try.prog 13 #[.int .u32 x, .string s] w fun e w' => e = .returned (.int .u32 ((more c s.data.toList).toNat : Int)) ∧ w = w' := by
  unfold maxLen at hs
  have h0 : bits BinOp.xor IntKind.u32 x 4294967295 = ((~~~ c).toNat : Int) := by
    rw [hx, show (4294967295 : Int) = (((4294967295#32 : BitVec 32).toNat : Nat) : Int) from rfl, xor_u]
    rw [BitVec.xor_comm]; rfl
  have H0 := Lib.hid h0
  clear h0 hx
  go_enter Try.func13, Try.ntmps13
  go_wp2_with fail
  go_loop [5, 6, 7] (fun n i _ => ∃ k : Nat, k ≤ s.size ∧ i = .int .i64 k ∧ n = .int .u32 ((takes (~~~ c) (s.data.toList.take k)).toNat : Int)) (fun _ i _ => s.size - (intOf i).toNat)
  case atStart => exact ⟨0, by omega, rfl, by rw [H0.out]; rfl⟩
  case round =>
    obtain ⟨k, hk, rfl, rfl⟩ := hrel
    by_cases hlt : k < s.size
    · have hn := Lib.hid (takes_snoc (~~~ c) (s.data.toList.take k) s[k])
      have ht := Lib.hid (Crc.take_snoc s k hlt)
      obtain ⟨n, en⟩ : ∃ n, takes (~~~ c) (s.data.toList.take k) = n := ⟨_, rfl⟩
      rw [en] at hn ⊢
      have hb8 := take_bits n s[k]
      have Hb8 := Lib.hid hb8
      clear en hb8
      go_wp2_with fail
      go_loop [5, 7] (fun c' j => ∃ q : Nat, q ≤ 8 ∧ j = .int .i64 (7 - (q : Int)) ∧ c' = .int .u32 ((F n (bitAt s[k]) q).toNat : Int)) (fun _ j => (intOf j + 1).toNat)
      case atStart => exact ⟨0, by omega, rfl, rfl⟩
      case round =>
        obtain ⟨q, hq, rfl, rfl⟩ := hrel
        by_cases hq8 : q < 8
        · have hv := bit_val s[k] (7 - q) (by omega)
          rw [show 7 - (7 - q) = q by omega] at hv
          have Hv := Lib.hid hv
          clear hv
          obtain ⟨r, hr⟩ : ∃ r : Nat, 7 - q = r := ⟨_, rfl⟩
          rw [hr] at Hv
          have hqr : (7 : Int) - (q : Int) = (r : Int) := by omega
          rw [hqr]
          have hr7 : r ≤ 7 := by omega
          have Hqr := Lib.hid hqr
          clear hqr hr
          go_wp2_with fail
          refine (up_at _ _ (F n (bitAt s[k]) q) (bitAt s[k] q) _ rfl (by rw [Hv.out]; cases bitAt s[k] q <;> rfl)).mono ?_
          rintro e w' ⟨rfl, rfl⟩
          go_wp2_with fail
          go_round
          case rel => exact ⟨q + 1, by omega, by rw [← Hqr.out]; congr 1; omega, rfl⟩
          case measure => simp [intOf]
        · have hq8' : q = 8 := by omega
          subst hq8'
          go_wp2_with fail
          go_round
          case rel => exact ⟨k + 1, by omega, by go_num, by rw [ht.out, hn.out, Hb8.out]⟩
          case measure => simp [intOf]; omega
    · obtain rfl : k = s.size := by omega
      go_wp2_with fail
      go_ret
      refine ⟨Kit.ret_int ?_, rfl⟩
      rw [Kit.take_all, show (4294967295 : Int) = (((4294967295#32 : BitVec 32).toNat : Nat) : Int) from rfl, xor_u, BitVec.xor_comm]
      rfl
theorem refSum_at (s : ByteArray) (w : World) (hs : s.size ≤ maxLen) :
    Calls Try.prog 11 #[.string s] w fun e w' => e = .returned (.int .u32 ((more 0#32 s.data.toList).toNat : Int)) ∧ w = w' := by
  go_enter Try.func11, Try.ntmps11
  go_wp2_with (go_at_call 13; refine (refMore_at _ 0#32 _ _ rfl hs).mono ?_; rintro e w1 ⟨rfl, rfl⟩)
  go_ret
  exact ⟨rfl, rfl⟩
theorem rl_nat (a : BitVec 32) : (rl a).toNat = (2 * a.toNat % 2 ^ 32) + a.toNat / 2 ^ 31 := by
  have e : rl a = a <<< 1 ||| a >>> 31 := by unfold rl; rfl
  rw [e, BitVec.toNat_or, BitVec.toNat_shiftLeft, BitVec.toNat_ushiftRight, Nat.shiftLeft_eq, Nat.shiftRight_eq_div_pow, nat_join 1 _ _ (by omega) (by have := a.isLt; omega)]
  omega
theorem rr_nat (a : BitVec 32) : (rr a).toNat = a.toNat / 2 + (a.toNat % 2) * 2 ^ 31 := by
  have e : rr a = a >>> 1 ||| a <<< 31 := by
    unfold rr
    rw [BitVec.or_comm]; rfl
  rw [e, BitVec.or_comm, BitVec.toNat_or, BitVec.toNat_shiftLeft, BitVec.toNat_ushiftRight, Nat.shiftLeft_eq, Nat.shiftRight_eq_div_pow, nat_join 31 _ _ (by omega) (by have := a.isLt; omega)]
  omega
set_option maxHeartbeats 400000 in
theorem refFold_at (x y : Int) (a b : BitVec 32) (w : World) (hx : x = (a.toNat : Int)) (hy : y = (b.toNat : Int)) :
    Calls Try.prog 15 #[.int .u32 x, .int .u32 y] w fun e w' => e = .returned (.int .u32 ((fold a b).toNat : Int)) ∧ w = w' := by
  have hr := rl_nat a
  have x0 : 0 ≤ x := by omega
  have x1 : x ≤ 4294967295 := by have := a.isLt; omega
  have hv : 2 * x % 4294967296 + x / 2147483648 = ((rl a).toNat : Int) := by rw [hx]; omega
  have hv2 : bits BinOp.xor IntKind.u32 ((rl a).toNat : Int) y = ((fold a b).toNat : Int) := by rw [hy, xor_u]; rfl
  have Hv := Lib.hid hv
  have Hv2 := Lib.hid hv2
  clear hx hy hr hv hv2
  by_cases h : 2147483648 ≤ x
  · go_enter Try.func15, Try.ntmps15
    go_wp2
    go_ret
    refine ⟨Kit.ret_int ?_, rfl⟩
    rw [← Hv2.out, ← Hv.out]
    congr 1; omega
  · go_enter Try.func15, Try.ntmps15
    go_wp2
    go_ret
    refine ⟨Kit.ret_int ?_, rfl⟩
    rw [← Hv2.out, ← Hv.out]
    congr 1; omega
set_option maxHeartbeats 400000 in
theorem refUnfold_at (x y : Int) (a b : BitVec 32) (w : World) (hx : x = (a.toNat : Int)) (hy : y = (b.toNat : Int)) :
    Calls Try.prog 17 #[.int .u32 x, .int .u32 y] w fun e w' => e = .returned (.int .u32 ((unfold' a b).toNat : Int)) ∧ w = w' := by
  obtain ⟨z, hz⟩ : ∃ z, a ^^^ b = z := ⟨_, rfl⟩
  have hxy : bits BinOp.xor IntKind.u32 x y = (z.toNat : Int) := by rw [hx, hy, xor_u, hz]
  have hr := rr_nat z
  have hu : unfold' a b = rr z := by unfold unfold'; rw [hz]
  rw [hu]
  have z0 : (0 : Int) ≤ (z.toNat : Int) := by omega
  have z1 : (z.toNat : Int) ≤ 4294967295 := by have := z.isLt; omega
  have Hr := Lib.hid hr
  clear hx hy hz hu hr
  by_cases h : z.toNat % 2 = 1
  · have ht : ((z.toNat : Int) % 2 == 1) = true := by rw [beq_iff_eq]; omega
    have H := Lib.hid h
    clear h
    go_enter Try.func17, Try.ntmps17
    go_wp2
    go_ret
    refine ⟨Kit.ret_int ?_, rfl⟩
    have h1 := Hr.out
    have h2 := H.out
    omega
  · have ht : ((z.toNat : Int) % 2 == 1) = false := by rw [beq_eq_false_iff_ne]; omega
    have H := Lib.hid h
    clear h
    go_enter Try.func17, Try.ntmps17
    go_wp2
    go_ret
    refine ⟨Kit.ret_int ?_, rfl⟩
    have h1 := Hr.out
    have h2 := H.out
    omega
set_option maxHeartbeats 400000 in
theorem refAll_at (v : Value) (n : Nat) (xs : List (BitVec 32)) (w : World) (h : Kit.Sl w 1 v n (xs.map U)) :
    Calls Try.prog 19 #[v] w fun e w' => e = .returned (.int .u32 ((all xs).toNat : Int)) ∧ w = w' := by
  obtain ⟨hl, ⟨rfl, rfl⟩ | ⟨a, c, rfl, h1, h2, hc⟩⟩ := h
  · have hn : xs = [] := List.eq_nil_of_length_eq_zero (by simpa using hl)
    subst hn
    go_enter Try.func19, Try.ntmps19
    go_wp2
    refine wp_loop_rounds 1 ?_
    rw [rounds_succ]
    go_wp2
    go_ret
    exact ⟨rfl, rfl⟩
  · obtain ⟨b, off, sp⟩ := a
    have hl' : xs.length = n := by simpa using hl
    unfold maxLen at h2
    have Hl := Lib.hid hl'
    have Hc := Lib.hid hc
    clear hl hl' hc
    go_enter Try.func19, Try.ntmps19
    go_wp2
    go_loop [3, 4] (fun r i => ∃ k : Nat, k ≤ n ∧ i = .int .i64 k ∧ r = .int .u32 ((all (xs.take k)).toNat : Int)) (fun _ i => n - (intOf i).toNat)
    case atStart => exact ⟨0, by omega, rfl, rfl⟩
    case round =>
      obtain ⟨k, hk, rfl, rfl⟩ := hrel
      by_cases hlt : k < n
      · have hkl : k < xs.length := by have := Hl.out; omega
        have hs : xs.take (k + 1) = xs.take k ++ [xs[k]] := by rw [List.take_succ_eq_append_getElem hkl]
        have hg : (xs.map U)[k]? = some (.int .u32 (xs[k].toNat : Int)) := by simp [hkl, U]
        obtain ⟨hsp, hcell⟩ := Hc.out k _ hg
        subst hsp
        have Hs := Lib.hid hs
        clear hs hg
        go_wp2_with (go_at_call 15; refine (refFold_at _ _ (all (xs.take k)) xs[k] _ rfl rfl).mono ?_; rintro e w1 ⟨rfl, rfl⟩)
        go_round
        case rel => exact ⟨k + 1, by omega, by go_num, by rw [Hs.out, all_snoc]⟩
        case measure => simp [intOf]; omega
      · obtain rfl : k = n := by omega
        have ht : xs.take k = xs := List.take_of_length_le (by have := Hl.out; omega)
        go_wp2
        go_ret
        exact ⟨rfl, rfl⟩

set_option maxRecDepth 100000 in
set_option maxHeartbeats 1000000 in
theorem walk {w : World} (s : ByteArray) (hs : s.size ≤ maxLen) (c d : Int) (C D : BitVec 32) (hc : c = (C.toNat : Int)) (hd : d = (D.toNat : Int)) (v : Value) (n : Nat) (xs : List (BitVec 32)) (hsl : Kit.Sl w 1 v n (xs.map U)) :
    Calls Try.prog 3 #[.string s, .int .u32 c, .int .u32 d, v] w fun e w' => e = .returned (.bool true) ∧ Below w.heap.size w w' := by
  subst hc hd
  unfold maxLen at hs
  have h' := hsl
  obtain ⟨hl, ⟨rfl, rfl⟩ | ⟨a, cap, rfl, h1, h2, hcell⟩⟩ := h'
  case' inl =>
    obtain rfl : xs = [] := List.eq_nil_of_length_eq_zero (by simpa using hl)
    obtain ⟨ys, eys⟩ : ∃ ys : List (BitVec 32), ys = [] := ⟨_, rfl⟩
    obtain ⟨m, em⟩ : ∃ m : Nat, m = 0 := ⟨_, rfl⟩
    have Eys := Lib.hid eys
    have Em := Lib.hid em
    clear hl eys em
    go_enter Try.func3, Try.ntmps3
    go_wp2_with fail
    refine (awake_at _).mono ?_
    rintro e w1 ⟨rfl, hb1⟩
    have HB1 := Lib.hid hb1
    clear hb1
    go_wp2_with (refine Kit.wpList_min rfl (.tmp 15) (.const (.int .i64 100)) 3 rfl s.size 100 rfl rfl ?_; intro p hp1 hp2 hp3)
    have HS : Hid (Kit.Sl w1 1 (.slice none 0 0) m (ys.map U)) := by
      rw [Em.out, Eys.out]; exact Kit.Sl.nil _ _
  case' inr =>
    clear hcell
    have hl' : xs.length = n := by simpa using hl
    have Hl0 := Lib.hid hl'
    clear hl hl'
    unfold maxLen at h2
    go_enter Try.func3, Try.ntmps3
    go_wp2_with fail
    refine (awake_at _).mono ?_
    rintro e w1 ⟨rfl, hb1⟩
    have HB1 := Lib.hid hb1
    clear hb1
    go_wp2_with (first
      | (refine Kit.wpList_min rfl (.tmp 15) (.const (.int .i64 100)) 3 rfl s.size 100 rfl rfl ?_; intro p hp1 hp2 hp3)
      | (refine Kit.wpList_min rfl (.tmp 20) (.const (.int .i64 20)) 3 rfl n 20 rfl rfl ?_; intro m hmn hm20 hm3))
    have HS : Hid (Kit.Sl w1 1 (.slice (some a) m cap) m ((xs.take m).map U)) := by
      have := (hsl.take m hmn).below HB1.out
      rw [Nat.mul_one, ← List.map_take] at this; exact this
    obtain ⟨ys, eys⟩ : ∃ ys, xs.take m = ys := ⟨_, rfl⟩
    rw [eys] at HS
    clear eys
  all_goals
    clear hsl
    have ha : (s.extract 0 p).size ≤ 100 := by simp; omega
    generalize s.extract 0 p = tx at ha ⊢
    refine (sum_at tx _ (by unfold maxLen; omega)).mono ?_
    rintro e w2 ⟨rfl, hb2⟩
    have HB2 : Hid (Below w.heap.size w w2) := HB1.out.trans (hb2.mono HB1.out.size)
    have HC2 : Hid (Below w1.heap.size w1 w2) := hb2
    clear hb2
    go_wp2_with fail
    refine (refSum_at tx _ (by unfold maxLen; omega)).mono ?_
    rintro e wx ⟨rfl, rfl⟩
    go_wp2_with fail
    refine (more_at _ C tx _ rfl (by unfold maxLen; omega)).mono ?_
    rintro e w3 ⟨rfl, hb3⟩
    have HB3 : Hid (Below w.heap.size w w3) := HB2.out.trans (hb3.mono HB2.out.size)
    have HC3 : Hid (Below w1.heap.size w1 w3) := HC2.out.trans (hb3.mono HC2.out.size)
    clear hb3
    go_wp2_with fail
    refine (refMore_at _ C tx _ rfl (by unfold maxLen; omega)).mono ?_
    rintro e wx ⟨rfl, rfl⟩
    go_wp2_with fail
    refine (fold_at _ _ C D _ rfl rfl).mono ?_
    rintro e wx ⟨rfl, rfl⟩
    go_wp2_with fail
    refine (refFold_at _ _ C D _ rfl rfl).mono ?_
    rintro e wx ⟨rfl, rfl⟩
    go_wp2_with fail
    refine (unfold_at _ _ C D _ rfl rfl).mono ?_
    rintro e wx ⟨rfl, rfl⟩
    go_wp2_with fail
    refine (refUnfold_at _ _ C D _ rfl rfl).mono ?_
    rintro e wx ⟨rfl, rfl⟩
    go_wp2_with fail
    refine (all_at _ m ys _ (HS.out.below HC3.out)).mono ?_
    rintro e wx ⟨rfl, rfl⟩
    go_wp2_with fail
    refine (refAll_at _ m ys _ (HS.out.below HC3.out)).mono ?_
    rintro e wx ⟨rfl, rfl⟩
    go_wp2_with fail
    go_ret
    exact ⟨rfl, HB3.out⟩
theorem toU (z : List Int) (hz : ∀ x ∈ z, (Lit.int .u32 x).wf = true) : ∃ xs : List (BitVec 32), z.map (Value.int .u32) = xs.map U := by
  refine ⟨z.map (BitVec.ofInt 32), ?_⟩
  rw [List.map_map]
  apply List.map_congr_left
  intro x hx
  have h := hz x hx
  simp [Lit.wf, IntKind.min, IntKind.max, IntKind.signed, IntKind.bits] at h
  simp only [Function.comp, U, BitVec.toNat_ofInt]
  congr 1
  omega
theorem whole {w : World} (s : ByteArray) (hs : s.size ≤ maxLen) (c : Int) (wc : (Lit.int .u32 c).wf = true) (d : Int) (wd : (Lit.int .u32 d).wf = true)
    (v : Value) (n : Nat) (z : List Int) (h : Kit.Sl w 1 v n (z.map (Value.int .u32))) (_l : z.length = n) (hz : ∀ x ∈ z, (Lit.int .u32 x).wf = true) :
    Calls Try.prog 3 #[.string s, .int .u32 c, .int .u32 d, v] w fun e w' => e = .returned (.bool true) ∧ Below w.heap.size w w' := by
  obtain ⟨xs, hx⟩ := toU z hz
  obtain ⟨C, hC⟩ := wf_u c wc
  obtain ⟨D, hD⟩ := wf_u d wd
  rw [hx] at h
  exact walk s hs c d C D hC hD v n xs h
end CrcTells
end Go.Proofs.Ytlfbkkfcbpallaa
