/-
  WALKS of stage 8: Take.
-/
import Derived.Test.YtnomocicogbdpaaRows
import Derived.Test.YtnomocicogbdpaaOa
import Derived.Test.YtnomocicogbdpaaOb
import Derived.Test.YtnomocicogbdpaaOc
import Derived.Test.YtnomocicogbdpaaOd
import Derived.Test.YtnomocicogbdpaaOe
import Derived.Test.YtnomocicogbdpaaOf
import Derived.Test.YtnomocicogbdpaaMha
namespace Go.Proofs.Ytnomocicogbdpaa
open Go.RowKit
namespace Og
open Ab Bm Bt Oa Ob Oc Od Oe Of Bb
theorem ag32 (w : World) : (isAgg 32).run Try.prog w = .ok false w := by kernel_rfl
theorem sz32 (w : World) : (sizeOf 32).run Try.prog w = .ok 1 w := by kernel_rfl
theorem sz57 (w : World) : (sizeOf 57).run Try.prog w = .ok 21 w := by kernel_rfl
theorem zv57 (w : World) : (zeroValue 57).run Try.prog w = .ok (.agg #[(Value.int .u64 0), (Value.int .u64 0), (Value.int .u64 0), (Value.int .u64 0), (Value.int .u64 0), (Value.int .u64 0), (Value.int .u64 0), (Value.int .u64 0), (Value.int .u64 0), (Value.int .u64 0), (Value.int .u64 0), (Value.int .u64 0), (Value.int .u64 0), (Value.int .u64 0), (Value.int .u64 0), (Value.int .u64 0), (Value.int .u64 0), (Value.int .u64 0), (Value.int .u64 0), (Value.int .u64 0), (Value.int .u64 0)]) w := by kernel_rfl
theorem getD_mem' {l : List Int} {i : Nat} (h : i < l.length) : l.getD i 0 ∈ l := by
  rw [List.getD_eq_getElem?_getD, List.getElem?_eq_getElem h]; exact List.getElem_mem h
theorem gv_in {s : ByteArray} {a : Int} {m : Nat} (h0 : 0 ≤ a) (hm : m ≤ 64) (h : a + (m : Int) ≤ 8 * s.size) : getV s a (m : Int) = (((val (bitsAt s.data.toList a.toNat m) : Nat) : Int), 0) := by
  unfold getV
  rw [if_neg (by simp; omega), if_pos h, Int.toNat_natCast]
theorem gv_out {s : ByteArray} {a : Int} {m : Nat} (h0 : 0 ≤ a) (hm : m ≤ 64) (h : ¬ a + (m : Int) ≤ 8 * s.size) : getV s a (m : Int) = (0, 2) := by
  unfold getV
  rw [if_neg (by simp; omega), if_neg h]
theorem gv_succ {s : ByteArray} {a : Int} {n : Nat} (h0 : 0 ≤ a) (hn : n + 1 ≤ 64) (h : (getV s a ((n : Int) + 1)).2 = 0) : 2 * (getV s a (n : Int)).1 ≤ (getV s a ((n : Int) + 1)).1 ∧ a + ((n : Int) + 1) ≤ 8 * s.size := by
  rw [show (n : Int) + 1 = ((n + 1 : Nat) : Int) by omega] at h ⊢
  by_cases hb : a + ((n + 1 : Nat) : Int) ≤ 8 * s.size
  · rw [gv_in h0 hn hb, gv_in h0 (by omega) (by omega)]
    refine ⟨?_, hb⟩
    simp only
    unfold bitsAt
    rw [List.range_succ, List.map_append, val_append]
    simp [val]
    omega
  · rw [gv_out h0 hn hb] at h
    simp at h
def fiS (t : List Int) : Nat → Int
  | 0 => 0
  | k + 1 => 2 * fiS t k + t.getD (k + 1) 0
theorem fiS_bd {t : List Int} (h : ∀ v, 0 ≤ t.getD v 0 ∧ t.getD v 0 ≤ 258) : ∀ k, 0 ≤ fiS t k ∧ fiS t k + 258 ≤ 258 * 2 ^ k
  | 0 => by simp [fiS]
  | k + 1 => by
    have ih := fiS_bd h k
    have := h (k + 1)
    rw [fiS, Int.pow_succ]; omega
def tkR (l : List Int) (s : ByteArray) (a : Int) : Nat → Nat → Int × Int × Int
  | 0, _ => (0, 0, 3)
  | m + 1, k => if (getV s a ((k : Int) + 1)).2 ≠ 0 then (0, 0, (getV s a ((k : Int) + 1)).2) else if (getV s a ((k : Int) + 1)).1 < 2 * fiS (cntV l).1 k + (cntV l).1.getD (k + 1) 0 then (((nthV l ((k : Int) + 1) ((getV s a ((k : Int) + 1)).1 - 2 * fiS (cntV l).1 k).toNat : Nat) : Int), a + ((k : Int) + 1), 0) else tkR l s a m (k + 1)
def takV (l : List Int) (s : ByteArray) (a : Int) : Int × Int × Int := if (sndV l).2 ≠ 0 then (0, 0, (sndV l).2) else if a < 0 then (0, 0, 1) else tkR l s a (mxL l).toNat 0
theorem mx_le {l : List Int} (h : ∀ x ∈ l, good x) (hl : 1 ≤ l.length) : mxL l ≤ 20 := by
  have key : ∀ i, i ≤ l.length → 1 ≤ i → mxA l i ≤ 20 := by
    intro i
    induction i with
    | zero => intro _ h1; omega
    | succ i ih =>
      intro hi _
      have hg := h _ (getD_mem' (l := l) (i := i) (by omega))
      rw [← mxA_s (by omega)]
      unfold good at hg
      by_cases e : i = 0
      · subst e
        have e0 : mxA l 0 = l.getD 0 0 := rfl
        rw [e0]; omega
      · have := ih (by omega) (by omega); omega
  exact key _ (Nat.le_refl _) hl
theorem snd_ok {l : List Int} (h : (sndV l).2 = 0) : (sndV l).1 = (cntV l).1 ∧ (cntV l).2 = true := by
  unfold sndV at h ⊢
  split at h
  · simp at h
  · rename_i h1
    split at h
    · simp at h
    · rename_i h2
      rw [if_neg h1, if_neg h2]; exact ⟨rfl, by simpa using h1⟩

theorem gv_nn (s : ByteArray) (a n : Int) : 0 ≤ (getV s a n).1 ∧ (getV s a n).1 < 18446744073709551616 := by
  unfold getV
  split
  · exact ⟨by decide, by decide⟩
  · rename_i h
    split
    · have h2 := val_lt (bitsAt s.data.toList a.toNat n.toNat)
      rw [show (bitsAt s.data.toList a.toNat n.toNat).length = n.toNat by simp [bitsAt]] at h2
      have h3 : 2 ^ n.toNat ≤ 2 ^ 64 := Nat.pow_le_pow_right (by omega) (by simp at h; omega)
      simp only
      omega
    · exact ⟨by decide, by decide⟩
theorem tak_1 {l : List Int} {s : ByteArray} {a : Int} (h : ¬ (sndV l).2 = 0) : takV l s a = (0, 0, (sndV l).2) := by rw [takV, if_pos h]
theorem tak_2 {l : List Int} {s : ByteArray} {a : Int} (h : (sndV l).2 = 0) (ha : a < 0) : takV l s a = (0, 0, 1) := by rw [takV, if_neg (by simpa using h), if_pos ha]
theorem tak_3 {l : List Int} {s : ByteArray} {a : Int} (h : (sndV l).2 = 0) (ha : ¬ a < 0) : takV l s a = tkR l s a ((mxL l).toNat - 0) 0 := by rw [takV, if_neg (by simpa using h), if_neg ha]; rfl
theorem tk_e {l : List Int} {s : ByteArray} {a : Int} {k : Nat} (hk : (k : Int) + 1 ≤ mxL l) (h : takV l s a = tkR l s a ((mxL l).toNat - k) k) (he : ¬ (getV s a ((k : Int) + 1)).2 = 0) : takV l s a = (0, 0, (getV s a ((k : Int) + 1)).2) := by
  rw [h, show (mxL l).toNat - k = ((mxL l).toNat - k - 1) + 1 by omega, tkR, if_pos he]
theorem tk_y {l : List Int} {s : ByteArray} {a : Int} {k : Nat} (hk : (k : Int) + 1 ≤ mxL l) (h : takV l s a = tkR l s a ((mxL l).toNat - k) k) (he : (getV s a ((k : Int) + 1)).2 = 0) (hv : (getV s a ((k : Int) + 1)).1 < 2 * fiS (cntV l).1 k + (cntV l).1.getD (k + 1) 0) : takV l s a = (((nthV l ((k : Int) + 1) ((getV s a ((k : Int) + 1)).1 - 2 * fiS (cntV l).1 k).toNat : Nat) : Int), a + ((k : Int) + 1), 0) := by
  rw [h, show (mxL l).toNat - k = ((mxL l).toNat - k - 1) + 1 by omega, tkR, if_neg (by simpa using he), if_pos hv]
theorem tk_n {l : List Int} {s : ByteArray} {a : Int} {k : Nat} (hk : (k : Int) + 1 ≤ mxL l) (h : takV l s a = tkR l s a ((mxL l).toNat - k) k) (he : (getV s a ((k : Int) + 1)).2 = 0) (hv : ¬ (getV s a ((k : Int) + 1)).1 < 2 * fiS (cntV l).1 k + (cntV l).1.getD (k + 1) 0) : takV l s a = tkR l s a ((mxL l).toNat - (k + 1)) (k + 1) := by
  rw [h, show (mxL l).toNat - k = ((mxL l).toNat - (k + 1)) + 1 by omega, tkR, if_neg (by simpa using he), if_neg hv]
theorem tk_0 {l : List Int} {s : ByteArray} {a : Int} {k : Nat} (hk : ¬ (k : Int) + 1 ≤ mxL l) (h : takV l s a = tkR l s a ((mxL l).toNat - k) k) : takV l s a = (0, 0, 3) := by
  rw [h, show (mxL l).toNat - k = 0 by omega, tkR]

set_option maxRecDepth 100000 in
set_option maxHeartbeats 1000000 in
theorem take_s (l : List Int) (hin : In64 l) (hl : l.length ≤ 9223372036854775807) (s : ByteArray) (hs : s.size ≤ 100000000000) (a : Int) (ha : -9223372036854775808 ≤ a ∧ a ≤ 9223372036854775807) :
    FPure Try.prog 20 [Sl 1 l.length (l.map (Value.int .i64)), Is (.string s), Is (.int .i64 a)] (Tup [Is (.int .i64 (takV l s a).1), Is (.int .i64 (takV l s a).2.1), Is (.int .i64 (takV l s a).2.2)]) := by
  refine FPure.of Try.func20 Try.ntmps20 rfl (by kernel_rfl) rfl rfl rfl ?_
  refine W_seq ?_
  refine W_regionE (c := 1) (c' := 4) (by kernel_rfl) rfl ?_
  refine Runs_p rfl (Valid.assignk (A := Is _) rfl rfl) rfl rfl ?_ -- code.go:97 assign
  refine Runs_p rfl (Valid.assignk (A := Is _) rfl rfl) rfl rfl ?_ -- code.go:97 assign
  refine Runs_p rfl (Valid.assignk (A := Is _) rfl rfl) rfl rfl ?_ -- code.go:97 assign
  refine Runs_nil ?_
  refine thenQ_n ?_
  refine W_seq ?_
  refine W_regionE (c := 4) (c' := 12) (by kernel_rfl) rfl ?_
  refine Runs_p rfl (Valid.movek (A := Sl 1 _ _) rfl rfl) rfl rfl ?_ -- code.go:98 move
  refine Runs_p rfl (Valid.call rfl (sound_s _ (by assumption) (by omega)) ⟨argle_sl (Reads.sl rfl), trivial⟩) rfl rfl ?_ -- code.go:98 call
  refine Runs_p rfl (Valid.movek (A := Tup [Is _, Is _]) rfl rfl) rfl rfl ?_ -- code.go:98 move
  refine Runs_p rfl (Valid.extract _ rfl rfl rfl) rfl rfl ?_ -- code.go:98 extract
  refine Runs_p rfl (Valid.extract _ rfl rfl rfl) rfl rfl ?_ -- code.go:98 extract
  refine Runs_w rfl (Valid.allocarr (f := Value.int .u64) (zg := 0) (n := 21) rfl zv57 (by kernel_rfl)) rfl rfl ?_ -- code.go:98 alloc
  refine Runs_op rfl (Valid.storeall rfl sz57 rfl rfl (by first | rfl | exact sndV_len l) rfl (by first | rfl | exact sndV_len l) (fun _ => rfl)) rfl ?_ -- code.go:98 store
  refine Runs_p rfl (Valid.assignk (A := Is _) rfl rfl) rfl rfl ?_ -- code.go:98 assign
  refine Runs_nil ?_
  refine thenQ_n ?_
  refine W_seq ?_
  refine W_seq ?_
  refine W_regionE (c := 12) (c' := 14) (by kernel_rfl) rfl ?_
  refine Runs_p rfl (Valid.movek (A := Is _) rfl rfl) rfl rfl ?_ -- code.go:99 move
  refine Runs_p rfl (Valid.neq rfl rfl rfl) rfl rfl ?_ -- code.go:99 binOp
  refine Runs_nil ?_
  refine thenQ_n ?_
  refine W_cond _ rfl (fun hb1 => ?_) (fun hb1 => ?_)
  · try simp only [decide_eq_true_eq, ne_eq] at hb1
    all_goals (
      refine W_seq ?_
      refine W_regionE (c := 14) (c' := 18) (by kernel_rfl) rfl ?_
      refine Runs_p rfl (Valid.movek (A := Is _) rfl rfl) rfl rfl ?_ -- code.go:100 move
      refine Runs_p rfl (Valid.assignk (A := Is _) rfl rfl) rfl rfl ?_ -- code.go:100 assign
      refine Runs_p rfl (Valid.assignk (A := Is _) rfl rfl) rfl rfl ?_ -- code.go:100 assign
      refine Runs_p rfl (Valid.assignk (A := Is _) rfl rfl) rfl rfl ?_ -- code.go:100 assign
      refine Runs_nil ?_
      refine thenQ_n ?_
      refine W_ret ?_
      refine thenQ_r ?_
      refine finQ_r ?_
      refine ResOk.three rfl (RVal.is rfl rfl (by first | (rw [tak_1 (by assumption)]; done) | (rw [tak_2 (by omega) (by assumption)]; done) | (rw [tk_e (by assumption) hi3 (by assumption)]; done) | (rw [tk_0 (by assumption) hi3]; done) | (rw [tk_y (by assumption) hi3 he hv]; done) | (rw [tk_y (by assumption) hi3 he hv]; rfl))) (RVal.is rfl rfl (by first | (rw [tak_1 (by assumption)]; done) | (rw [tak_2 (by omega) (by assumption)]; done) | (rw [tk_e (by assumption) hi3 (by assumption)]; done) | (rw [tk_0 (by assumption) hi3]; done) | (rw [tk_y (by assumption) hi3 he hv]; done) | (rw [tk_y (by assumption) hi3 he hv]; rfl))) (RVal.is rfl rfl (by first | (rw [tak_1 (by assumption)]; done) | (rw [tak_2 (by omega) (by assumption)]; done) | (rw [tk_e (by assumption) hi3 (by assumption)]; done) | (rw [tk_0 (by assumption) hi3]; done) | (rw [tk_y (by assumption) hi3 he hv]; done) | (rw [tk_y (by assumption) hi3 he hv]; rfl)))
      done)
  · try simp only [decide_eq_false_iff_not, ne_eq] at hb1
    all_goals (
      refine W_skip ?_
      refine thenQ_n ?_
      refine W_seq ?_
      refine W_seq ?_
      refine W_regionE (c := 14) (c' := 16) (by kernel_rfl) rfl ?_
      refine Runs_p rfl (Valid.movek (A := Is _) rfl rfl) rfl rfl ?_ -- code.go:102 move
      refine Runs_p rfl (Valid.lss rfl rfl rfl) rfl rfl ?_ -- code.go:102 binOp
      refine Runs_nil ?_
      refine thenQ_n ?_
      refine W_cond _ rfl (fun hb2 => ?_) (fun hb2 => ?_)
      · try simp only [decide_eq_true_eq] at hb2
        all_goals (
          refine W_seq ?_
          refine W_regionE (c := 16) (c' := 19) (by kernel_rfl) rfl ?_
          refine Runs_p rfl (Valid.assignk (A := Is _) rfl rfl) rfl rfl ?_ -- code.go:103 assign
          refine Runs_p rfl (Valid.assignk (A := Is _) rfl rfl) rfl rfl ?_ -- code.go:103 assign
          refine Runs_p rfl (Valid.assignk (A := Is _) rfl rfl) rfl rfl ?_ -- code.go:103 assign
          refine Runs_nil ?_
          refine thenQ_n ?_
          refine W_ret ?_
          refine thenQ_r ?_
          refine finQ_r ?_
          refine ResOk.three rfl (RVal.is rfl rfl (by first | (rw [tak_1 (by assumption)]; done) | (rw [tak_2 (by omega) (by assumption)]; done) | (rw [tk_e (by assumption) hi3 (by assumption)]; done) | (rw [tk_0 (by assumption) hi3]; done) | (rw [tk_y (by assumption) hi3 he hv]; done) | (rw [tk_y (by assumption) hi3 he hv]; rfl))) (RVal.is rfl rfl (by first | (rw [tak_1 (by assumption)]; done) | (rw [tak_2 (by omega) (by assumption)]; done) | (rw [tk_e (by assumption) hi3 (by assumption)]; done) | (rw [tk_0 (by assumption) hi3]; done) | (rw [tk_y (by assumption) hi3 he hv]; done) | (rw [tk_y (by assumption) hi3 he hv]; rfl))) (RVal.is rfl rfl (by first | (rw [tak_1 (by assumption)]; done) | (rw [tak_2 (by omega) (by assumption)]; done) | (rw [tk_e (by assumption) hi3 (by assumption)]; done) | (rw [tk_0 (by assumption) hi3]; done) | (rw [tk_y (by assumption) hi3 he hv]; done) | (rw [tk_y (by assumption) hi3 he hv]; rfl)))
          done)
      · try simp only [decide_eq_false_iff_not] at hb2
        all_goals (
          refine W_skip ?_
          refine thenQ_n ?_
          refine W_seq ?_
          have hok : (sndV l).2 = 0 := by first | assumption | omega
          obtain ⟨hs1, hs2⟩ := snd_bd hok
          obtain ⟨ho1, ho2⟩ := snd_ok hok
          obtain ⟨hc1, _, _, hc4⟩ := cntV_bd ho2
          have hmx := mx_le hc4 (by omega)
          have hcl := cntV_len l
          have hcb : ∀ v, 0 ≤ (cntV l).1.getD v 0 ∧ (cntV l).1.getD v 0 ≤ 258 := fun v => by rw [hc1]; exact tA_bd l l.length v hs1
          rw [ho1]
          refine W_regionE (c := 16) (c' := 19) (by kernel_rfl) rfl ?_
          refine Runs_p rfl (Valid.movek (A := Sl 1 _ _) rfl rfl) rfl rfl ?_ -- code.go:105 move
          refine Runs_p rfl (Valid.call rfl (smax_s _ (by omega) (by omega)) ⟨argle_sl (Reads.sl rfl), trivial⟩) rfl rfl ?_ -- code.go:105 call
          refine Runs_p rfl (Valid.assignk (A := Is _) rfl rfl) rfl rfl ?_ -- code.go:105 assign
          refine Runs_nil ?_
          refine thenQ_n ?_
          refine W_seq ?_
          refine W_regionE (c := 19) (c' := 20) (by kernel_rfl) rfl ?_
          refine Runs_p rfl (Valid.assignk (A := Is _) rfl rfl) rfl rfl ?_ -- code.go:106 assign
          refine Runs_nil ?_
          refine thenQ_n ?_
          refine W_seq ?_
          refine W_seq ?_
          refine W_regionE (c := 20) (c' := 21) (by kernel_rfl) rfl ?_
          refine Runs_p rfl (Valid.assignk (A := Is _) rfl rfl) rfl rfl ?_ -- code.go:107 assign
          refine Runs_nil ?_
          refine thenQ_n ?_
          refine W_block ?_
          refine W_loopx (G := Nat) (fun (k : Nat) => (k : Int) ≤ max (mxL l) 0 ∧ fiS (cntV l).1 k ≤ (getV s a (k : Int)).1 ∧ takV l s a = tkR l s a ((mxL l).toNat - k) k) [(0, Sl 1 _ _), (1, Is _), (2, Is _), (9, Ptr 72 0), (10, Is _)] (fun (k : Nat) => [(12, Is (.int .i64 ((k : Int) + 1))), (11, Is (.int .u64 (fiS (cntV l).1 k)))]) [(72, .var 57 (Arr (Value.int .u64) _))] (fun (k : Nat) => []) 21 (fun (k : Nat) => 21 - k) (0) [] (⟨by omega, (gv_nn s a 0).1, tak_3 hok hb2⟩) ⟨⟨(leq_is rfl rfl (by first | rfl)), (leq_is rfl rfl (by first | rfl)), trivial⟩, ⟨(leq_sl (Reads.sl rfl) rfl rfl rfl), (leq_is rfl rfl rfl), (leq_is rfl rfl rfl), (leq_ptr rfl rfl rfl), (leq_is rfl rfl rfl), trivial⟩, trivial, ⟨hp_arr rfl rfl, trivial⟩, rfl, ⟨supg rfl, supg rfl, trivial⟩, ⟨supg rfl, supg rfl, supg rfl, supg rfl, supg rfl, trivial⟩, trivial, ⟨suph_arr rfl, trivial⟩, rfl, rfl⟩ ?_
          intro k hI1
          obtain ⟨hi1, hi2, hi3⟩ := hI1
          have hfb := fiS_bd hcb k
          have hp2 := pow20 (n := k) (by omega)
          have htb := hcb (k + 1)
          refine W_seq ?_
          refine W_seq ?_
          refine W_regionE (c := 21) (c' := 24) (by kernel_rfl) rfl ?_
          refine Runs_p rfl (Valid.movek (A := Is _) rfl rfl) rfl rfl ?_ -- code.go:107 move
          refine Runs_p rfl (Valid.movek (A := Is _) rfl rfl) rfl rfl ?_ -- code.go:107 move
          refine Runs_p rfl (Valid.leq rfl rfl rfl) rfl rfl ?_ -- code.go:107 binOp
          refine Runs_nil ?_
          refine thenQ_n ?_
          refine W_cond _ rfl (fun hb3 => ?_) (fun hb3 => ?_)
          · try simp only [decide_eq_true_eq] at hb3
            all_goals (
              refine W_skip ?_
              refine thenQ_n ?_
              refine W_seq ?_
              refine W_block ?_
              refine W_seq ?_
              refine W_regionE (c := 24) (c' := 27) (by kernel_rfl) rfl ?_
              refine Runs_p rfl (Valid.movek (A := Is _) rfl rfl) rfl rfl ?_ -- code.go:108 move
              refine Runs_p rfl (Valid.mulw rfl rfl rfl) rfl rfl ?_ -- code.go:108 binOp
              refine Runs_p rfl (Valid.assignk (A := Is _) rfl rfl) rfl rfl ?_ -- code.go:108 assign
              refine Runs_nil ?_
              refine thenQ_n ?_
              refine W_seq ?_
              rw [show IntKind.u64.wrap (fiS (cntV l).1 k * 2) = 2 * fiS (cntV l).1 k by rw [IntKind.wrap_u64, Int.emod_eq_of_lt (by omega) (by omega)]; omega]
              refine W_regionE (c := 27) (c' := 36) (by kernel_rfl) rfl ?_
              refine Runs_p rfl (Valid.movek (A := Is _) rfl rfl) rfl rfl ?_ -- code.go:109 move
              refine Runs_p rfl (Valid.movek (A := Is _) rfl rfl) rfl rfl ?_ -- code.go:109 move
              refine Runs_p rfl (Valid.movek (A := Is _) rfl rfl) rfl rfl ?_ -- code.go:109 move
              refine Runs_p rfl (Valid.call rfl (get_f _ _ _ (by omega) (by omega)) ⟨argle rfl, argle rfl, argle rfl, trivial⟩) rfl rfl ?_ -- code.go:109 call
              refine Runs_p rfl (Valid.movek (A := Tup [Is _, Is _]) rfl rfl) rfl rfl ?_ -- code.go:109 move
              refine Runs_p rfl (Valid.extract _ rfl rfl rfl) rfl rfl ?_ -- code.go:109 extract
              refine Runs_p rfl (Valid.extract _ rfl rfl rfl) rfl rfl ?_ -- code.go:109 extract
              refine Runs_p rfl (Valid.assignk (A := Is _) rfl rfl) rfl rfl ?_ -- code.go:109 assign
              refine Runs_p rfl (Valid.assignk (A := Is _) rfl rfl) rfl rfl ?_ -- code.go:109 assign
              refine Runs_nil ?_
              refine thenQ_n ?_
              refine W_seq ?_
              refine W_seq ?_
              refine W_regionE (c := 36) (c' := 38) (by kernel_rfl) rfl ?_
              refine Runs_p rfl (Valid.movek (A := Is _) rfl rfl) rfl rfl ?_ -- code.go:110 move
              refine Runs_p rfl (Valid.neq rfl rfl rfl) rfl rfl ?_ -- code.go:110 binOp
              refine Runs_nil ?_
              refine thenQ_n ?_
              refine W_cond _ rfl (fun hb4 => ?_) (fun hb4 => ?_)
              · try simp only [decide_eq_true_eq, ne_eq] at hb4
                all_goals (
                  refine W_seq ?_
                  refine W_regionE (c := 38) (c' := 42) (by kernel_rfl) rfl ?_
                  refine Runs_p rfl (Valid.movek (A := Is _) rfl rfl) rfl rfl ?_ -- code.go:111 move
                  refine Runs_p rfl (Valid.assignk (A := Is _) rfl rfl) rfl rfl ?_ -- code.go:111 assign
                  refine Runs_p rfl (Valid.assignk (A := Is _) rfl rfl) rfl rfl ?_ -- code.go:111 assign
                  refine Runs_p rfl (Valid.assignk (A := Is _) rfl rfl) rfl rfl ?_ -- code.go:111 assign
                  refine Runs_nil ?_
                  refine thenQ_n ?_
                  refine W_ret ?_
                  refine thenQ_r ?_
                  refine blockQ_r ?_
                  refine thenQ_r ?_
                  refine loopQ_r ?_
                  refine blockQ_r ?_
                  refine thenQ_r ?_
                  refine finQ_r ?_
                  refine ResOk.three rfl (RVal.is rfl rfl (by first | (rw [tak_1 (by assumption)]; done) | (rw [tak_2 (by omega) (by assumption)]; done) | (rw [tk_e (by assumption) hi3 (by assumption)]; done) | (rw [tk_0 (by assumption) hi3]; done) | (rw [tk_y (by assumption) hi3 he hv]; done) | (rw [tk_y (by assumption) hi3 he hv]; rfl))) (RVal.is rfl rfl (by first | (rw [tak_1 (by assumption)]; done) | (rw [tak_2 (by omega) (by assumption)]; done) | (rw [tk_e (by assumption) hi3 (by assumption)]; done) | (rw [tk_0 (by assumption) hi3]; done) | (rw [tk_y (by assumption) hi3 he hv]; done) | (rw [tk_y (by assumption) hi3 he hv]; rfl))) (RVal.is rfl rfl (by first | (rw [tak_1 (by assumption)]; done) | (rw [tak_2 (by omega) (by assumption)]; done) | (rw [tk_e (by assumption) hi3 (by assumption)]; done) | (rw [tk_0 (by assumption) hi3]; done) | (rw [tk_y (by assumption) hi3 he hv]; done) | (rw [tk_y (by assumption) hi3 he hv]; rfl)))
                  done)
              · try simp only [decide_eq_false_iff_not, ne_eq] at hb4
                all_goals (
                  refine W_skip ?_
                  refine thenQ_n ?_
                  refine W_seq ?_
                  refine W_seq ?_
                  refine W_regionE (c := 38) (c' := 45) (by kernel_rfl) rfl ?_
                  refine Runs_p rfl (Valid.movek (A := Is _) rfl rfl) rfl rfl ?_ -- code.go:114 move
                  refine Runs_p rfl (Valid.movek (A := Is _) rfl rfl) rfl rfl ?_ -- code.go:114 move
                  refine Runs_p rfl (Valid.movek (A := Is _) rfl rfl) rfl rfl ?_ -- code.go:114 move
                  refine Runs_p rfl (Valid.idxarr1 rfl Try.underlying57 sz32 rfl rfl (by first | omega | (simp only [Int.toNat_natCast, toNat_add, toNat_add1, List.length_append, List.length_cons, List.length_nil, List.length_replicate]; omega))) rfl rfl ?_ -- code.go:114 indexAddr
                  refine Runs_p rfl (Valid.loadarr 0 rfl ag32 rfl rfl (by first | omega | (simp only [Int.toNat_natCast, toNat_add, toNat_add1, List.length_append, List.length_cons, List.length_nil, List.length_replicate]; omega))) rfl rfl ?_ -- code.go:114 load
                  refine Runs_p rfl (Valid.addw rfl rfl rfl) rfl rfl ?_ -- code.go:114 binOp
                  refine Runs_p rfl (Valid.lss rfl rfl rfl) rfl rfl ?_ -- code.go:114 binOp
                  refine Runs_nil ?_
                  refine thenQ_n ?_
                  refine W_cond _ rfl (fun hb5 => ?_) (fun hb5 => ?_)
                  · try simp only [toNat_add1, decide_eq_true_eq] at hb5
                    all_goals (
                      refine W_seq ?_
                      have he : (getV s a ((k : Int) + 1)).2 = 0 := by omega
                      obtain ⟨hg1, hg2⟩ := gv_succ (n := k) (by omega) (by omega) he
                      have hgn := gv_nn s a ((k : Int) + 1)
                      have hw : IntKind.u64.wrap (2 * fiS (cntV l).1 k + (cntV l).1.getD (k + 1) 0) = 2 * fiS (cntV l).1 k + (cntV l).1.getD (k + 1) 0 := by rw [IntKind.wrap_u64, Int.emod_eq_of_lt (by omega) (by omega)]
                      have hv : (getV s a ((k : Int) + 1)).1 < 2 * fiS (cntV l).1 k + (cntV l).1.getD (k + 1) 0 := by rw [← hw]; assumption
                      have hsub : Value.int .u64 (IntKind.u64.wrap ((getV s a ((k : Int) + 1)).1 - 2 * fiS (cntV l).1 k)) = .int .u64 ((((getV s a ((k : Int) + 1)).1 - 2 * fiS (cntV l).1 k).toNat : Nat) : Int) := congrArg (Value.int .u64) (by rw [IntKind.wrap_u64, Int.emod_eq_of_lt (by omega) (by omega)]; omega)
                      refine W_regionE (c := 45) (c' := 57) (by kernel_rfl) rfl ?_
                      refine Runs_p rfl (Valid.movek (A := Sl 1 _ _) rfl rfl) rfl rfl ?_ -- code.go:115 move
                      refine Runs_p rfl (Valid.movek (A := Is _) rfl rfl) rfl rfl ?_ -- code.go:115 move
                      refine Runs_p rfl (Valid.movek (A := Is _) rfl rfl) rfl rfl ?_ -- code.go:115 move
                      refine Runs_p rfl (Valid.movek (A := Is _) rfl rfl) rfl rfl ?_ -- code.go:115 move
                      refine Runs_p rfl (Valid.weak (A' := Is (.int .u64 ((((getV s a ((k : Int) + 1)).1 - 2 * fiS (cntV l).1 k).toNat : Nat) : Int))) (Valid.subw rfl rfl rfl) (fun _ _ _ h => Eq.trans h hsub) rfl) rfl rfl ?_ -- code.go:115 binOp
                      refine Runs_p rfl (Valid.call rfl (nth_s _ _ _ (by omega) (by omega)) ⟨argle_sl (Reads.sl rfl), argle rfl, argle rfl, trivial⟩) rfl rfl ?_ -- code.go:115 call
                      refine Runs_p rfl (Valid.movek (A := Is _) rfl rfl) rfl rfl ?_ -- code.go:115 move
                      refine Runs_p rfl (Valid.movek (A := Is _) rfl rfl) rfl rfl ?_ -- code.go:115 move
                      refine Runs_p rfl (Valid.add rfl rfl rfl (room64 (by first | omega | (simp only [Int.toNat_natCast, toNat_add, toNat_add1, List.length_append, List.length_cons, List.length_nil, List.length_replicate]; omega)) (by first | omega | (simp only [Int.toNat_natCast, toNat_add, toNat_add1, List.length_append, List.length_cons, List.length_nil, List.length_replicate]; omega)))) rfl rfl ?_ -- code.go:115 binOp
                      refine Runs_p rfl (Valid.assignk (A := Is _) rfl rfl) rfl rfl ?_ -- code.go:115 assign
                      refine Runs_p rfl (Valid.assignk (A := Is _) rfl rfl) rfl rfl ?_ -- code.go:115 assign
                      refine Runs_p rfl (Valid.assignk (A := Is _) rfl rfl) rfl rfl ?_ -- code.go:115 assign
                      refine Runs_nil ?_
                      refine thenQ_n ?_
                      refine W_ret ?_
                      refine thenQ_r ?_
                      refine blockQ_r ?_
                      refine thenQ_r ?_
                      refine loopQ_r ?_
                      refine blockQ_r ?_
                      refine thenQ_r ?_
                      refine finQ_r ?_
                      refine ResOk.three rfl (RVal.is rfl rfl (by first | (rw [tak_1 (by assumption)]; done) | (rw [tak_2 (by omega) (by assumption)]; done) | (rw [tk_e (by assumption) hi3 (by assumption)]; done) | (rw [tk_0 (by assumption) hi3]; done) | (rw [tk_y (by assumption) hi3 he hv]; done) | (rw [tk_y (by assumption) hi3 he hv]; rfl))) (RVal.is rfl rfl (by first | (rw [tak_1 (by assumption)]; done) | (rw [tak_2 (by omega) (by assumption)]; done) | (rw [tk_e (by assumption) hi3 (by assumption)]; done) | (rw [tk_0 (by assumption) hi3]; done) | (rw [tk_y (by assumption) hi3 he hv]; done) | (rw [tk_y (by assumption) hi3 he hv]; rfl))) (RVal.is rfl rfl (by first | (rw [tak_1 (by assumption)]; done) | (rw [tak_2 (by omega) (by assumption)]; done) | (rw [tk_e (by assumption) hi3 (by assumption)]; done) | (rw [tk_0 (by assumption) hi3]; done) | (rw [tk_y (by assumption) hi3 he hv]; done) | (rw [tk_y (by assumption) hi3 he hv]; rfl)))
                      done)
                  · try simp only [toNat_add1, decide_eq_false_iff_not] at hb5
                    all_goals (
                      refine W_skip ?_
                      refine thenQ_n ?_
                      have he : (getV s a ((k : Int) + 1)).2 = 0 := by omega
                      obtain ⟨hg1, hg2⟩ := gv_succ (n := k) (by omega) (by omega) he
                      have hgn := gv_nn s a ((k : Int) + 1)
                      have hw : IntKind.u64.wrap (2 * fiS (cntV l).1 k + (cntV l).1.getD (k + 1) 0) = 2 * fiS (cntV l).1 k + (cntV l).1.getD (k + 1) 0 := by rw [IntKind.wrap_u64, Int.emod_eq_of_lt (by omega) (by omega)]
                      have hv : ¬ (getV s a ((k : Int) + 1)).1 < 2 * fiS (cntV l).1 k + (cntV l).1.getD (k + 1) 0 := by rw [← hw]; assumption
                      refine W_regionE (c := 45) (c' := 51) (by kernel_rfl) rfl ?_
                      refine Runs_p rfl (Valid.movek (A := Is _) rfl rfl) rfl rfl ?_ -- code.go:117 move
                      refine Runs_p rfl (Valid.movek (A := Is _) rfl rfl) rfl rfl ?_ -- code.go:117 move
                      refine Runs_p rfl (Valid.idxarr1 rfl Try.underlying57 sz32 rfl rfl (by first | omega | (simp only [Int.toNat_natCast, toNat_add, toNat_add1, List.length_append, List.length_cons, List.length_nil, List.length_replicate]; omega))) rfl rfl ?_ -- code.go:117 indexAddr
                      refine Runs_p rfl (Valid.loadarr 0 rfl ag32 rfl rfl (by first | omega | (simp only [Int.toNat_natCast, toNat_add, toNat_add1, List.length_append, List.length_cons, List.length_nil, List.length_replicate]; omega))) rfl rfl ?_ -- code.go:117 load
                      refine Runs_p rfl (Valid.addw rfl rfl rfl) rfl rfl ?_ -- code.go:117 binOp
                      refine Runs_p rfl (Valid.assignk (A := Is _) rfl rfl) rfl rfl ?_ -- code.go:117 assign
                      refine Runs_nil ?_
                      refine blockQ_n ?_
                      refine thenQ_n ?_
                      refine W_regionE (c := 51) (c' := 54) (by kernel_rfl) rfl ?_
                      refine Runs_p rfl (Valid.movek (A := Is _) rfl rfl) rfl rfl ?_ -- code.go:107 move
                      refine Runs_p rfl (Valid.add rfl rfl rfl (room64 (by first | omega | (simp only [Int.toNat_natCast, toNat_add, toNat_add1, List.length_append, List.length_cons, List.length_nil, List.length_replicate]; omega)) (by first | omega | (simp only [Int.toNat_natCast, toNat_add, toNat_add1, List.length_append, List.length_cons, List.length_nil, List.length_replicate]; omega)))) rfl rfl ?_ -- code.go:107 binOp
                      refine Runs_p rfl (Valid.assignk (A := Is _) rfl rfl) rfl rfl ?_ -- code.go:107 assign
                      refine Runs_nil ?_
                      refine LoopQ.next (k + 1) [] (⟨by omega, by rw [fiS, show ((k + 1 : Nat) : Int) = (k : Int) + 1 by omega]; omega, tk_n (by assumption) hi3 he hv⟩) (by omega) ⟨⟨(leq_is rfl rfl (by first | rfl | exact congrArg (Value.int .u64) hw)), (leq_is rfl rfl (by first | rfl | exact congrArg (Value.int .u64) hw)), trivial⟩, ⟨(leq_sl (Reads.sl rfl) rfl rfl rfl), (leq_is rfl rfl rfl), (leq_is rfl rfl rfl), (leq_ptr rfl rfl rfl), (leq_is rfl rfl rfl), trivial⟩, trivial, ⟨hp_arr rfl rfl, trivial⟩, rfl, ⟨supg rfl, supg rfl, trivial⟩, ⟨supg rfl, supg rfl, supg rfl, supg rfl, supg rfl, trivial⟩, trivial, ⟨suph_arr rfl, trivial⟩, rfl, rfl⟩
                      done)
                  done)
              done)
          · try simp only [decide_eq_false_iff_not] at hb3
            all_goals (
              refine W_exit ?_
              refine thenQ_e ?_
              refine loopQ_e ?_
              refine blockQ_x ?_
              refine thenQ_n ?_
              refine W_seq ?_
              refine W_regionE (c := 24) (c' := 27) (by kernel_rfl) rfl ?_
              refine Runs_p rfl (Valid.assignk (A := Is _) rfl rfl) rfl rfl ?_ -- code.go:119 assign
              refine Runs_p rfl (Valid.assignk (A := Is _) rfl rfl) rfl rfl ?_ -- code.go:119 assign
              refine Runs_p rfl (Valid.assignk (A := Is _) rfl rfl) rfl rfl ?_ -- code.go:119 assign
              refine Runs_nil ?_
              refine thenQ_n ?_
              refine W_ret ?_
              refine finQ_r ?_
              refine ResOk.three rfl (RVal.is rfl rfl (by first | (rw [tak_1 (by assumption)]; done) | (rw [tak_2 (by omega) (by assumption)]; done) | (rw [tk_e (by assumption) hi3 (by assumption)]; done) | (rw [tk_0 (by assumption) hi3]; done) | (rw [tk_y (by assumption) hi3 he hv]; done) | (rw [tk_y (by assumption) hi3 he hv]; rfl))) (RVal.is rfl rfl (by first | (rw [tak_1 (by assumption)]; done) | (rw [tak_2 (by omega) (by assumption)]; done) | (rw [tk_e (by assumption) hi3 (by assumption)]; done) | (rw [tk_0 (by assumption) hi3]; done) | (rw [tk_y (by assumption) hi3 he hv]; done) | (rw [tk_y (by assumption) hi3 he hv]; rfl))) (RVal.is rfl rfl (by first | (rw [tak_1 (by assumption)]; done) | (rw [tak_2 (by omega) (by assumption)]; done) | (rw [tk_e (by assumption) hi3 (by assumption)]; done) | (rw [tk_0 (by assumption) hi3]; done) | (rw [tk_y (by assumption) hi3 he hv]; done) | (rw [tk_y (by assumption) hi3 he hv]; rfl)))
              done)
          done)
      done)
end Og
end Go.Proofs.Ytnomocicogbdpaa
