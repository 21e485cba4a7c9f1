/-
  WALKS of stage 8: what is wrong with lengths; the symbol that has so many ahead.
-/
import Derived.Test.YtdcenocljnlipaaRows
import Derived.Test.YtdcenocljnlipaaOb
namespace Go.Proofs.Ytdcenocljnlipaa
open Go.RowKit
namespace Oc
open Ab Ob
theorem ag51 (w : World) : (isAgg 51).run Try.prog w = .ok false w := by kernel_rfl
theorem ag53 (w : World) : (isAgg 53).run Try.prog w = .ok true w := by kernel_rfl
theorem sz51 (w : World) : (sizeOf 51).run Try.prog w = .ok 1 w := by kernel_rfl
theorem sz53 (w : World) : (sizeOf 53).run Try.prog w = .ok 21 w := by kernel_rfl
theorem zv53 (w : World) : (zeroValue 53).run Try.prog w = .ok (.agg #[(Value.int .u64 0), (Value.int .u64 0), (Value.int .u64 0), (Value.int .u64 0), (Value.int .u64 0), (Value.int .u64 0), (Value.int .u64 0), (Value.int .u64 0), (Value.int .u64 0), (Value.int .u64 0), (Value.int .u64 0), (Value.int .u64 0), (Value.int .u64 0), (Value.int .u64 0), (Value.int .u64 0), (Value.int .u64 0), (Value.int .u64 0), (Value.int .u64 0), (Value.int .u64 0), (Value.int .u64 0), (Value.int .u64 0)]) w := by kernel_rfl
def krS (t : List Int) : Nat → Int
  | 0 => 0
  | n + 1 => krS t n + t.getD n 0 * 2 ^ (20 - n)
def sndV (l : List Int) : List Int × Int := if (cntV l).2 = false then (List.replicate 21 0, 1) else if 1048576 < krS (cntV l).1 21 then (List.replicate 21 0, 6) else ((cntV l).1, 0)
theorem tA_bd (l : List Int) (i v : Nat) (hl : l.length ≤ 258) : 0 ≤ (tA l i).getD v 0 ∧ (tA l i).getD v 0 ≤ 258 := by
  by_cases hv : v < 21
  · rw [tA_get l i v hv]
    have hc := List.countP_le_length (p := fun x => decide (x = (v : Int))) (l := l.take i)
    rw [List.length_take] at hc
    omega
  · rw [List.getD_eq_getElem?_getD, List.getElem?_eq_none (by rw [tA_len]; omega)]; exact ⟨by decide, by decide⟩
theorem cntV_bd {l : List Int} (h : (cntV l).2 = true) : (cntV l).1 = tA l l.length ∧ l.length ≤ 258 ∧ 2 ≤ l.length ∧ ∀ x ∈ l, good x := by
  unfold cntV at h ⊢
  split at h
  · cases h
  · rename_i h1
    split at h
    · rename_i h2
      rw [if_neg h1, if_pos h2]; exact ⟨rfl, by omega, by omega, h2⟩
    · cases h
theorem cntV_len (l : List Int) : (cntV l).1.length = 21 := by
  unfold cntV
  split
  · simp
  · split
    · exact tA_len _ _
    · exact tA_len _ _
theorem pow_le (n : Nat) : (1 : Int) ≤ 2 ^ (20 - n) ∧ (2 : Int) ^ (20 - n) ≤ 1048576 := by
  have h1 : (2 : Nat) ^ (20 - n) ≤ 2 ^ 20 := Nat.pow_le_pow_right (by omega) (by omega)
  have h2 : 0 < (2 : Nat) ^ (20 - n) := Nat.two_pow_pos _
  have h3 : ((2 ^ (20 - n) : Nat) : Int) = 2 ^ (20 - n) := by simp
  rw [← h3]
  exact ⟨by omega, by omega⟩
theorem term_bd {a : Int} (h : 0 ≤ a ∧ a ≤ 258) (n : Nat) : 0 ≤ a * 2 ^ (20 - n) ∧ a * 2 ^ (20 - n) ≤ 270532608 := by
  have hp := pow_le n
  constructor
  · exact Int.mul_nonneg h.1 (by omega)
  · calc a * 2 ^ (20 - n) ≤ 258 * 1048576 := Int.mul_le_mul h.2 hp.2 (by omega) (by omega)
      _ = 270532608 := by decide
theorem krS_bd {t : List Int} (h : ∀ v, 0 ≤ t.getD v 0 ∧ t.getD v 0 ≤ 258) : ∀ n, 0 ≤ krS t n ∧ krS t n ≤ 270532608 * n
  | 0 => by simp [krS]
  | n + 1 => by
    have := krS_bd h n
    have := term_bd (h n) n
    rw [krS]; omega
theorem kr_s {t : List Int} {n : Nat} (h : ∀ v, 0 ≤ t.getD v 0 ∧ t.getD v 0 ≤ 258) (hn : n < 21) : IntKind.u64.wrap (krS t n + t.getD n 0 * 2 ^ (20 - (n : Int)).toNat) = krS t (n + 1) := by
  have h1 := krS_bd h n
  have h2 := term_bd (h n) n
  rw [show (20 - (n : Int)).toNat = 20 - n by omega, IntKind.wrap_u64, Int.emod_eq_of_lt (by omega) (by omega), krS]

set_option maxRecDepth 100000 in
set_option maxHeartbeats 1000000 in
theorem sound_s (l : List Int) (hin : In64 l) (hl : l.length ≤ 9223372036854775807) :
    FPure Try.prog 33 [Sl 1 l.length (l.map (Value.int .i64))] (Tup [Is (arrV (Value.int .u64) (sndV l).1), Is (.int .i64 (sndV l).2)]) := by
  refine FPure.of Try.func33 Try.ntmps33 rfl (by kernel_rfl) rfl rfl rfl ?_
  refine W_seq ?_
  refine W_regionE (c := 1) (c' := 3) (by kernel_rfl) rfl ?_
  refine Runs_w rfl (Valid.allocarr (f := Value.int .u64) (zg := 0) (n := 21) rfl zv53 (by kernel_rfl)) rfl rfl ?_
  refine Runs_p rfl (Valid.assignk (A := Is _) rfl rfl) rfl rfl ?_
  refine Runs_nil ?_
  refine thenQ_n ?_
  refine W_seq ?_
  refine W_regionE (c := 3) (c' := 11) (by kernel_rfl) rfl ?_
  refine Runs_p rfl (Valid.movek (A := Sl 1 _ _) rfl rfl) rfl rfl ?_
  refine Runs_p rfl (Valid.call rfl (count_s _ (by assumption) (by omega)) ⟨argle_sl (Reads.sl rfl), trivial⟩) rfl rfl ?_
  refine Runs_p rfl (Valid.movek (A := Tup [Is _, Is _]) rfl rfl) rfl rfl ?_
  refine Runs_p rfl (Valid.extract _ rfl rfl rfl) rfl rfl ?_
  refine Runs_p rfl (Valid.extract _ rfl rfl rfl) rfl rfl ?_
  refine Runs_w rfl (Valid.allocarr (f := Value.int .u64) (zg := 0) (n := 21) rfl zv53 (by kernel_rfl)) rfl rfl ?_
  refine Runs_op rfl (Valid.storeall rfl sz53 rfl rfl (by first | rfl | exact cntV_len l) rfl (by first | rfl | exact cntV_len l) (fun _ => rfl)) rfl ?_
  refine Runs_p rfl (Valid.assignk (A := Is _) rfl rfl) rfl rfl ?_
  refine Runs_nil ?_
  refine thenQ_n ?_
  refine W_seq ?_
  refine W_seq ?_
  refine W_regionE (c := 11) (c' := 13) (by kernel_rfl) rfl ?_
  refine Runs_p rfl (Valid.movek (A := Is _) rfl rfl) rfl rfl ?_
  refine Runs_p rfl (Valid.not rfl rfl) rfl rfl ?_
  refine Runs_nil ?_
  refine thenQ_n ?_
  refine W_cond _ rfl (fun hb1 => ?_) (fun hb1 => ?_)
  · try simp only [Bool.not_eq_true'] at hb1
    all_goals (
      refine W_seq ?_
      refine W_regionE (c := 13) (c' := 16) (by kernel_rfl) rfl ?_
      refine Runs_p rfl (Valid.weak (Valid.build [] [(Value.int .u64 0), (Value.int .u64 0), (Value.int .u64 0), (Value.int .u64 0), (Value.int .u64 0), (Value.int .u64 0), (Value.int .u64 0), (Value.int .u64 0), (Value.int .u64 0), (Value.int .u64 0), (Value.int .u64 0), (Value.int .u64 0), (Value.int .u64 0), (Value.int .u64 0), (Value.int .u64 0), (Value.int .u64 0), (Value.int .u64 0), (Value.int .u64 0), (Value.int .u64 0), (Value.int .u64 0), (Value.int .u64 0)] rfl rfl (fun _ => by kernel_rfl)) (fun _ _ _ h => arrv_agg (f := Value.int .u64) (l := List.replicate 21 (0)) rfl h) rfl) rfl rfl ?_
      refine Runs_op rfl (Valid.storeall rfl sz53 rfl rfl (rfl) rfl (rfl) (fun _ => rfl)) rfl ?_
      refine Runs_p rfl (Valid.assignk (A := Is _) rfl rfl) rfl rfl ?_
      refine Runs_nil ?_
      refine thenQ_n ?_
      refine W_ret ?_
      refine thenQ_r ?_
      refine finQ_r ?_
      refine ResOk.two rfl (RVal.cellarr ag53 sz53 rfl rfl (by first | rfl | assumption | omega) (by first | (rw [sndV, if_pos (by assumption)]; done) | (rw [sndV, if_neg (by simp [hok]), if_pos (by rw [show (21 : Nat) = n by omega]; assumption)]; done) | (rw [sndV, if_neg (by simp [hok]), if_neg (by rw [show (21 : Nat) = n by omega]; assumption)]; done))) (RVal.is rfl rfl (by first | (rw [sndV, if_pos (by assumption)]; done) | (rw [sndV, if_neg (by simp [hok]), if_pos (by rw [show (21 : Nat) = n by omega]; assumption)]; done) | (rw [sndV, if_neg (by simp [hok]), if_neg (by rw [show (21 : Nat) = n by omega]; assumption)]; done)))
      done)
  · try simp only [Bool.not_eq_false'] at hb1
    all_goals (
      refine W_skip ?_
      refine thenQ_n ?_
      refine W_seq ?_
      have hok : (cntV l).2 = true := by first | assumption | simpa using hb1
      obtain ⟨hc1, hc2, _, _⟩ := cntV_bd hok
      have hcl := cntV_len l
      have hcb : ∀ v, 0 ≤ (cntV l).1.getD v 0 ∧ (cntV l).1.getD v 0 ≤ 258 := fun v => by rw [hc1]; exact tA_bd l l.length v hc2
      refine W_regionE (c := 13) (c' := 14) (by kernel_rfl) rfl ?_
      refine Runs_p rfl (Valid.assignk (A := Is _) rfl rfl) rfl rfl ?_
      refine Runs_nil ?_
      refine thenQ_n ?_
      refine W_seq ?_
      refine W_seq ?_
      refine W_regionE (c := 14) (c' := 16) (by kernel_rfl) rfl ?_
      refine Runs_p rfl (Valid.loadall rfl ag53 sz53 rfl rfl (by first | rfl | exact cntV_len l)) rfl rfl ?_
      refine Runs_p rfl (Valid.movek (A := Is _) rfl rfl) rfl rfl ?_
      refine Runs_nil ?_
      refine thenQ_n ?_
      refine W_block ?_
      refine W_loopx (G := Nat) (fun (n : Nat) => n ≤ 21) [(2, Ptr 8 0), (4, Ptr 64 0), (17, Is _)] (fun (n : Nat) => [(18, Is (.int .i64 (n : Int))), (6, Is (.int .u64 (krS (cntV l).1 n)))]) [(8, .var 53 (Arr (Value.int .u64) _)), (64, .var 53 (Arr (Value.int .u64) _))] (fun (n : Nat) => []) 16 (fun (n : Nat) => 21 - n) (0) [] (by first | trivial | omega | (simp; omega)) ⟨⟨(leq_is rfl rfl (by first | rfl)), (leq_is rfl rfl (by first | rfl)), trivial⟩, ⟨(leq_ptr rfl rfl rfl), (leq_ptr rfl rfl rfl), (leq_is rfl rfl rfl), trivial⟩, trivial, ⟨hp_arr rfl rfl, hp_arr rfl rfl, trivial⟩, rfl, ⟨supg rfl, supg rfl, trivial⟩, ⟨supg rfl, supg rfl, supg rfl, trivial⟩, trivial, ⟨suph_arr rfl, suph_arr rfl, trivial⟩, rfl, rfl⟩ ?_
      intro n hI1
      have hkb := krS_bd hcb n
      have htb := term_bd (hcb n) n
      refine W_seq ?_
      refine W_regionE (c := 16) (c' := 17) (by kernel_rfl) rfl ?_
      refine Runs_p rfl (Valid.lss rfl rfl rfl) rfl rfl ?_
      refine Runs_nil ?_
      refine thenQ_n ?_
      refine W_seq ?_
      refine W_cond _ rfl (fun hb2 => ?_) (fun hb2 => ?_)
      · try simp only [decide_eq_true_eq] at hb2
        all_goals (
          refine W_skip ?_
          refine thenQ_n ?_
          refine W_seq ?_
          refine W_block ?_
          refine W_seq ?_
          refine W_regionE (c := 17) (c' := 21) (by kernel_rfl) rfl ?_
          refine Runs_p rfl (Valid.movek (A := Is _) rfl rfl) rfl rfl ?_
          refine Runs_p rfl (Valid.indexall 0 rfl Try.underlying53 ag51 sz51 rfl rfl (by first | rfl | exact cntV_len l) (by omega)) rfl rfl ?_
          refine Runs_p rfl (Valid.assignk (A := Is _) rfl rfl) rfl rfl ?_
          refine Runs_p rfl (Valid.assignk (A := Is _) rfl rfl) rfl rfl ?_
          refine Runs_nil ?_
          refine thenQ_n ?_
          refine W_regionE (c := 21) (c' := 28) (by kernel_rfl) rfl ?_
          refine Runs_p rfl (Valid.movek (A := Is _) rfl rfl) rfl rfl ?_
          refine Runs_p rfl (Valid.movek (A := Is _) rfl rfl) rfl rfl ?_
          refine Runs_p rfl (Valid.movek (A := Is _) rfl rfl) rfl rfl ?_
          refine Runs_p rfl (Valid.sub rfl rfl rfl (room64 (by omega) (by omega))) rfl rfl ?_
          refine Runs_p rfl (Valid.shl rfl rfl rfl (by first | omega | (simp only [Int.toNat_natCast]; omega)) (by show (20 - (n : Int)).toNat ≤ 64; omega) (by unfold Room; rw [IntKind.wrap_u64]; rw [show (20 - (n : Int)).toNat = 20 - n by omega]; exact Int.emod_eq_of_lt htb.1 (by have := htb.2; show (cntV l).1.getD n 0 * 2 ^ (20 - n) < 18446744073709551616; omega))) rfl rfl ?_
          refine Runs_p rfl (Valid.addw rfl rfl rfl) rfl rfl ?_
          refine Runs_p rfl (Valid.assignk (A := Is _) rfl rfl) rfl rfl ?_
          refine Runs_nil ?_
          refine blockQ_n ?_
          refine thenQ_n ?_
          refine W_regionE (c := 28) (c' := 30) (by kernel_rfl) rfl ?_
          refine Runs_p rfl (Valid.add rfl rfl rfl (room64 (by omega) (by omega))) rfl rfl ?_
          refine Runs_p rfl (Valid.movek (A := Is _) rfl rfl) rfl rfl ?_
          refine Runs_nil ?_
          refine LoopQ.next (n + 1) [] (by omega) (by omega) ⟨⟨(leq_is rfl rfl (by first | rfl | exact congrArg (Value.int .u64) (kr_s hcb (by omega)))), (leq_is rfl rfl (by first | rfl | exact congrArg (Value.int .u64) (kr_s hcb (by omega)))), trivial⟩, ⟨(leq_ptr rfl rfl rfl), (leq_ptr rfl rfl rfl), (leq_is rfl rfl rfl), trivial⟩, trivial, ⟨hp_arr rfl rfl, hp_arr rfl rfl, trivial⟩, rfl, ⟨supg rfl, supg rfl, trivial⟩, ⟨supg rfl, supg rfl, supg rfl, trivial⟩, trivial, ⟨suph_arr rfl, suph_arr rfl, trivial⟩, rfl, rfl⟩
          done)
      · try simp only [decide_eq_false_iff_not] at hb2
        all_goals (
          refine W_exit ?_
          refine thenQ_e ?_
          refine loopQ_e ?_
          refine blockQ_x ?_
          refine thenQ_n ?_
          refine W_seq ?_
          refine W_seq ?_
          refine W_regionE (c := 17) (c' := 19) (by kernel_rfl) rfl ?_
          refine Runs_p rfl (Valid.movek (A := Is _) rfl rfl) rfl rfl ?_
          refine Runs_p rfl (Valid.gtr rfl rfl rfl) rfl rfl ?_
          refine Runs_nil ?_
          refine thenQ_n ?_
          refine W_cond _ rfl (fun hb3 => ?_) (fun hb3 => ?_)
          · try simp only [decide_eq_true_eq] at hb3
            all_goals (
              refine W_seq ?_
              refine W_regionE (c := 19) (c' := 22) (by kernel_rfl) rfl ?_
              refine Runs_p rfl (Valid.weak (Valid.build [] [(Value.int .u64 0), (Value.int .u64 0), (Value.int .u64 0), (Value.int .u64 0), (Value.int .u64 0), (Value.int .u64 0), (Value.int .u64 0), (Value.int .u64 0), (Value.int .u64 0), (Value.int .u64 0), (Value.int .u64 0), (Value.int .u64 0), (Value.int .u64 0), (Value.int .u64 0), (Value.int .u64 0), (Value.int .u64 0), (Value.int .u64 0), (Value.int .u64 0), (Value.int .u64 0), (Value.int .u64 0), (Value.int .u64 0)] rfl rfl (fun _ => by kernel_rfl)) (fun _ _ _ h => arrv_agg (f := Value.int .u64) (l := List.replicate 21 (0)) rfl h) rfl) rfl rfl ?_
              refine Runs_op rfl (Valid.storeall rfl sz53 rfl rfl (rfl) rfl (rfl) (fun _ => rfl)) rfl ?_
              refine Runs_p rfl (Valid.assignk (A := Is _) rfl rfl) rfl rfl ?_
              refine Runs_nil ?_
              refine thenQ_n ?_
              refine W_ret ?_
              refine thenQ_r ?_
              refine finQ_r ?_
              refine ResOk.two rfl (RVal.cellarr ag53 sz53 rfl rfl (by first | rfl | assumption | omega) (by first | (rw [sndV, if_pos (by assumption)]; done) | (rw [sndV, if_neg (by simp [hok]), if_pos (by rw [show (21 : Nat) = n by omega]; assumption)]; done) | (rw [sndV, if_neg (by simp [hok]), if_neg (by rw [show (21 : Nat) = n by omega]; assumption)]; done))) (RVal.is rfl rfl (by first | (rw [sndV, if_pos (by assumption)]; done) | (rw [sndV, if_neg (by simp [hok]), if_pos (by rw [show (21 : Nat) = n by omega]; assumption)]; done) | (rw [sndV, if_neg (by simp [hok]), if_neg (by rw [show (21 : Nat) = n by omega]; assumption)]; done)))
              done)
          · try simp only [decide_eq_false_iff_not] at hb3
            all_goals (
              refine W_skip ?_
              refine thenQ_n ?_
              refine W_seq ?_
              refine W_regionE (c := 19) (c' := 22) (by kernel_rfl) rfl ?_
              refine Runs_p rfl (Valid.loadall rfl ag53 sz53 rfl rfl (by first | rfl | exact cntV_len l)) rfl rfl ?_
              refine Runs_op rfl (Valid.storeall rfl sz53 rfl rfl (by first | rfl | exact cntV_len l) rfl (by first | rfl | exact cntV_len l) (fun _ => rfl)) rfl ?_
              refine Runs_p rfl (Valid.assignk (A := Is _) rfl rfl) rfl rfl ?_
              refine Runs_nil ?_
              refine thenQ_n ?_
              refine W_ret ?_
              refine finQ_r ?_
              refine ResOk.two rfl (RVal.cellarr ag53 sz53 rfl rfl (by first | rfl | assumption | omega) (by first | (rw [sndV, if_pos (by assumption)]; done) | (rw [sndV, if_neg (by simp [hok]), if_pos (by rw [show (21 : Nat) = n by omega]; assumption)]; done) | (rw [sndV, if_neg (by simp [hok]), if_neg (by rw [show (21 : Nat) = n by omega]; assumption)]; done))) (RVal.is rfl rfl (by first | (rw [sndV, if_pos (by assumption)]; done) | (rw [sndV, if_neg (by simp [hok]), if_pos (by rw [show (21 : Nat) = n by omega]; assumption)]; done) | (rw [sndV, if_neg (by simp [hok]), if_neg (by rw [show (21 : Nat) = n by omega]; assumption)]; done)))
              done)
          done)
      done)
end Oc
end Go.Proofs.Ytdcenocljnlipaa
