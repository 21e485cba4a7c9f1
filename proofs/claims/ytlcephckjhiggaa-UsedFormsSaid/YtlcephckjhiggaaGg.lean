/-
  WALKS of stage 7: the reference of bits that are got; how many ones.
-/
import Derived.Test.YtlcephckjhiggaaRows
import Derived.Test.YtlcephckjhiggaaAbt
import Derived.Test.YtlcephckjhiggaaBb
import Derived.Test.YtlcephckjhiggaaCa
import Derived.Test.YtlcephckjhiggaaGa
import Derived.Test.YtlcephckjhiggaaGb
import Derived.Test.YtlcephckjhiggaaGc
import Derived.Test.YtlcephckjhiggaaGd
import Derived.Test.YtlcephckjhiggaaGe
import Derived.Test.YtlcephckjhiggaaGf
namespace Go.Proofs.Ytlcephckjhiggaa
open Go.RowKit
namespace Gg
open Ab Bm Bt Bb Ca Ga Gb Gc Gd Ge Gf

theorem bit_val (u : UInt8) (j : Nat) (h : j ≤ 7) : Int.fdiv (u.toNat : Int) (2 ^ min j 64) % 2 = (((u.toNat.testBit j).toNat : Nat) : Int) := by
  rw [show min j 64 = j by omega]
  have h1 : ((2 : Int) ^ j) = ((2 ^ j : Nat) : Int) := by simp
  rw [h1, Int.fdiv_eq_ediv_of_nonneg _ (Int.natCast_nonneg _), ← Int.natCast_ediv, Nat.testBit_eq_decide_div_mod_eq]
  generalize u.toNat / 2 ^ j = q
  by_cases h2 : q % 2 = 1
  · rw [decide_eq_true h2]; show (q : Int) % 2 = 1; omega
  · rw [decide_eq_false h2]; show (q : Int) % 2 = 0; omega
theorem bit_at (s : ByteArray) (a : Int) (h0 : 0 ≤ a) : Int.fdiv ((bat s (a / 8)).toNat : Int) (2 ^ min (7 - a % 8).toNat (IntKind.i64.bits)) % 2 = (((Bm.bit s.data.toList a.toNat).toNat : Nat) : Int) := by
  have := bit_val (bat s (a / 8)) (7 - a % 8).toNat (by omega)
  rw [show IntKind.i64.bits = 64 from rfl, this]
  unfold Bm.bit bitAt bat
  rw [show (a / 8).toNat = a.toNat / 8 by omega, show (7 - a % 8).toNat = 7 - a.toNat % 8 by omega]

set_option maxRecDepth 100000 in
set_option maxHeartbeats 1000000 in
theorem bit_s (s : ByteArray) (a : Int) (h0 : 0 ≤ a) (h : a < 8 * s.size) (hs : s.size ≤ 1000000000000) :
    FPure Try.prog 42 [Is (.string s), Is (.int .i64 a)] (Is (.int .i64 ((Bm.bit s.data.toList a.toNat).toNat : Int))) := by
  refine FPure.of Try.func42 Try.ntmps42 rfl (by kernel_rfl) rfl rfl rfl ?_
  refine W_seq ?_
  refine W_regionE (c := 1) (c' := 2) (by kernel_rfl) rfl ?_
  refine Runs_p rfl (Valid.assignk (A := Is _) rfl rfl) rfl rfl ?_ -- ref.go:9 assign
  refine Runs_nil ?_
  refine thenQ_n ?_
  refine W_seq ?_
  refine W_regionE (c := 2) (c' := 13) (by kernel_rfl) rfl ?_
  refine Runs_p rfl (Valid.movek (A := Is _) rfl rfl) rfl rfl ?_ -- ref.go:9 move
  refine Runs_p rfl (Valid.movek (A := Is _) rfl rfl) rfl rfl ?_ -- ref.go:9 move
  refine Runs_p rfl (Valid.quo rfl rfl rfl (by first | omega | (simp only [Int.toNat_natCast, toNat_add, toNat_add1, List.length_append, List.length_cons, List.length_nil, List.length_replicate]; omega)) (by first | omega | (simp only [Int.toNat_natCast, toNat_add, toNat_add1, List.length_append, List.length_cons, List.length_nil, List.length_replicate]; omega)) (room64 (by first | omega | (simp only [Int.toNat_natCast, toNat_add, toNat_add1, List.length_append, List.length_cons, List.length_nil, List.length_replicate]; omega)) (by first | omega | (simp only [Int.toNat_natCast, toNat_add, toNat_add1, List.length_append, List.length_cons, List.length_nil, List.length_replicate]; omega)))) rfl rfl ?_ -- ref.go:9 binOp
  refine Runs_p rfl (Valid.sindex rfl Try.underlying9 rfl rfl (by first | omega | (simp only [Int.toNat_natCast, toNat_add, toNat_add1, List.length_append, List.length_cons, List.length_nil, List.length_replicate]; omega))) rfl rfl ?_ -- ref.go:9 index
  refine Runs_p rfl (Valid.convr rfl rfl Try.underlying5 Try.underlying3 (room64 (by first | omega | (have hbb := (bat s (a / 8)).toNat_lt; omega)) (by first | omega | (have hbb := (bat s (a / 8)).toNat_lt; omega)))) rfl rfl ?_ -- ref.go:9 convert
  refine Runs_p rfl (Valid.movek (A := Is _) rfl rfl) rfl rfl ?_ -- ref.go:9 move
  refine Runs_p rfl (Valid.rem rfl rfl rfl (by first | omega | exact Int.fdiv_nonneg (by omega) (Int.le_of_lt (Int.pow_pos (by omega)))) (by first | omega | exact Int.fdiv_nonneg (by omega) (Int.le_of_lt (Int.pow_pos (by omega))))) rfl rfl ?_ -- ref.go:9 binOp
  refine Runs_p rfl (Valid.sub rfl rfl rfl (room64 (by first | omega | (simp only [Int.toNat_natCast, toNat_add, toNat_add1, List.length_append, List.length_cons, List.length_nil, List.length_replicate]; omega)) (by first | omega | (simp only [Int.toNat_natCast, toNat_add, toNat_add1, List.length_append, List.length_cons, List.length_nil, List.length_replicate]; omega)))) rfl rfl ?_ -- ref.go:9 binOp
  refine Runs_p rfl (Valid.shrw rfl rfl rfl (by first | omega | (simp only [Int.toNat_natCast, toNat_add, toNat_add1, List.length_append, List.length_cons, List.length_nil, List.length_replicate]; omega))) rfl rfl ?_ -- ref.go:9 binOp
  refine Runs_p rfl (Valid.rem rfl rfl rfl (by first | omega | exact Int.fdiv_nonneg (by omega) (Int.le_of_lt (Int.pow_pos (by omega)))) (by first | omega | exact Int.fdiv_nonneg (by omega) (Int.le_of_lt (Int.pow_pos (by omega))))) rfl rfl ?_ -- ref.go:9 binOp
  refine Runs_p rfl (Valid.assignk (A := Is _) rfl rfl) rfl rfl ?_ -- ref.go:9 assign
  refine Runs_nil ?_
  refine thenQ_n ?_
  refine W_ret ?_
  refine finQ_r ?_
  refine ResOk.one rfl (RVal.is rfl rfl (by rw [bit_at s a h0]))

theorem get_step (s : ByteArray) (a k : Nat) (hk : k < 64) : IntKind.u64.wrap (IntKind.u64.wrap (2 * ((val (bitsAt s.data.toList a k) : Nat) : Int)) + (((Bm.bit s.data.toList (a + k)).toNat : Nat) : Int)) = ((val (bitsAt s.data.toList a (k + 1)) : Nat) : Int) := by
  have h1 := val_lt (bitsAt s.data.toList a (k + 1))
  rw [bitsAt_len] at h1
  have h2 : 2 ^ (k + 1) ≤ 2 ^ 64 := Nat.pow_le_pow_right (by omega) (by omega)
  have h3 : val (bitsAt s.data.toList a (k + 1)) = 2 * val (bitsAt s.data.toList a k) + (Bm.bit s.data.toList (a + k)).toNat := by
    unfold bitsAt
    rw [List.range_succ, List.map_append, val_append]
    simp [val]; omega
  rw [h3] at h1 ⊢
  rw [IntKind.wrap_u64, IntKind.wrap_u64]
  omega
theorem val_0 (s : ByteArray) (a : Nat) : val (bitsAt s.data.toList a 0) = 0 := rfl
theorem gv_1 {s : ByteArray} {a n : Int} (h : (n < 0 ∨ 64 < n) ∨ a < 0) : getV s a n = (0, 1) := by
  rw [getV, if_pos]
  rcases h with (h | h) | h
  · rw [decide_eq_false (show ¬ 0 ≤ n by omega)]; rfl
  · rw [decide_eq_false (show ¬ n ≤ 64 by omega)]; simp
  · rw [decide_eq_false (show ¬ 0 ≤ a by omega)]; simp
theorem gv_no {a n : Int} (h : ¬ ((n < 0 ∨ 64 < n) ∨ a < 0)) : ¬ (decide (0 ≤ n) && decide (n ≤ 64) && decide (0 ≤ a)) = false := by
  rw [decide_eq_true (show 0 ≤ n by omega), decide_eq_true (show n ≤ 64 by omega), decide_eq_true (show 0 ≤ a by omega)]; decide
theorem gv_2 {s : ByteArray} {a n : Int} (h : ¬ ((n < 0 ∨ 64 < n) ∨ a < 0)) (h2 : 8 * (s.size : Int) - n < a) : getV s a n = (0, 2) := by
  rw [getV, if_neg (gv_no h), if_neg (by omega)]
theorem gv_0 {s : ByteArray} {a n : Int} (h : ¬ ((n < 0 ∨ 64 < n) ∨ a < 0)) (h2 : ¬ 8 * (s.size : Int) - n < a) {k : Nat} (hk : n.toNat = k) : getV s a n = (((val (bitsAt s.data.toList a.toNat k) : Nat) : Int), 0) := by
  rw [getV, if_neg (gv_no h), if_pos (by omega), hk]

set_option maxRecDepth 100000 in
set_option maxHeartbeats 1000000 in
theorem rget_s (s : ByteArray) (a n : Int) (hs : s.size ≤ 1000000000000) (ha : a ≤ 9223372036854775807) :
    FPure Try.prog 29 [Is (.string s), Is (.int .i64 a), Is (.int .i64 n)] (Tup [Is (.int .u64 (getV s a n).1), Is (.int .i64 (getV s a n).2)]) := by
  refine FPure.of Try.func29 Try.ntmps29 rfl (by kernel_rfl) rfl rfl rfl ?_
  refine W_seq ?_
  refine W_regionE (c := 1) (c' := 3) (by kernel_rfl) rfl ?_
  refine Runs_p rfl (Valid.assignk (A := Is _) rfl rfl) rfl rfl ?_ -- ref.go:88 assign
  refine Runs_p rfl (Valid.assignk (A := Is _) rfl rfl) rfl rfl ?_ -- ref.go:88 assign
  refine Runs_nil ?_
  refine thenQ_n ?_
  refine W_seq ?_
  refine W_seq ?_
  refine W_regionE (c := 3) (c' := 13) (by kernel_rfl) rfl ?_
  refine Runs_p rfl (Valid.movek (A := Is _) rfl rfl) rfl rfl ?_ -- ref.go:89 move
  refine Runs_p rfl (Valid.lss rfl rfl rfl) rfl rfl ?_ -- ref.go:89 binOp
  refine Runs_p rfl (Valid.movek (A := Is _) rfl rfl) rfl rfl ?_ -- ref.go:89 move
  refine Runs_cnd rfl rfl (Grd.is rfl) [] (fun hg => trivial) (fun hg => Valid.movek (A := Is _) rfl rfl) (by rfl) rfl ?_
  refine Runs_cnd rfl rfl (Grd.is rfl) [(13, _)] (fun hg => ⟨cnd_at rfl (by first | exact hg | exact hg.1 | exact hg.1.1 | exact hg.1.1.1), trivial⟩) (fun hg => Valid.gtr rfl rfl rfl) (by rfl) rfl ?_
  refine Runs_p rfl (Valid.pickor rfl rfl rfl rfl (fun h => by first | exact h | exact ⟨hg, h⟩)) rfl rfl ?_ -- ref.go:89 pick
  refine Runs_p rfl (Valid.movek (A := Is _) rfl rfl) rfl rfl ?_ -- ref.go:89 move
  refine Runs_cnd rfl rfl (Grd.is rfl) [] (fun hg => trivial) (fun hg => Valid.movek (A := Is _) rfl rfl) (by rfl) rfl ?_
  refine Runs_cnd rfl rfl (Grd.is rfl) [(17, _)] (fun hg => ⟨cnd_at rfl (by first | exact hg | exact hg.1 | exact hg.1.1 | exact hg.1.1.1), trivial⟩) (fun hg => Valid.lss rfl rfl rfl) (by rfl) rfl ?_
  refine Runs_p rfl (Valid.pickor rfl rfl rfl rfl (fun h => by first | exact h | exact ⟨hg, h⟩)) rfl rfl ?_ -- ref.go:89 pick
  refine Runs_nil ?_
  refine thenQ_n ?_
  refine W_cond _ rfl (fun hb1 => ?_) (fun hb1 => ?_)
  · try simp only [decide_eq_true_eq, Bool.or_eq_true] at hb1
    all_goals (
      refine W_seq ?_
      refine W_regionE (c := 13) (c' := 15) (by kernel_rfl) rfl ?_
      refine Runs_p rfl (Valid.assignk (A := Is _) rfl rfl) rfl rfl ?_ -- ref.go:90 assign
      refine Runs_p rfl (Valid.assignk (A := Is _) rfl rfl) rfl rfl ?_ -- ref.go:90 assign
      refine Runs_nil ?_
      refine thenQ_n ?_
      refine W_ret ?_
      refine thenQ_r ?_
      refine finQ_r ?_
      refine ResOk.two rfl (RVal.is rfl rfl (by first | (rw [gv_1 (by omega)]; done) | (rw [gv_2 (by omega) (by omega)]; done) | (rw [gv_0 (by omega) (by omega) (k := k) (by omega)]))) (RVal.is rfl rfl (by first | (rw [gv_1 (by omega)]; done) | (rw [gv_2 (by omega) (by omega)]; done) | (rw [gv_0 (by omega) (by omega) (k := k) (by omega)])))
      done)
  · try simp only [decide_eq_false_iff_not, Bool.or_eq_false_iff] at hb1
    all_goals (
      refine W_skip ?_
      refine thenQ_n ?_
      refine W_seq ?_
      refine W_seq ?_
      refine W_regionE (c := 13) (c' := 20) (by kernel_rfl) rfl ?_
      refine Runs_p rfl (Valid.movek (A := Is _) rfl rfl) rfl rfl ?_ -- ref.go:92 move
      refine Runs_p rfl (Valid.movek (A := Is _) rfl rfl) rfl rfl ?_ -- ref.go:92 move
      refine Runs_p rfl (Valid.slen rfl Try.underlying9 rfl) rfl rfl ?_ -- ref.go:92 call
      refine Runs_p rfl (Valid.mul rfl rfl rfl (room64 (by first | omega | (simp only [Int.toNat_natCast, toNat_add, toNat_add1, List.length_append, List.length_cons, List.length_nil, List.length_replicate]; omega)) (by first | omega | (simp only [Int.toNat_natCast, toNat_add, toNat_add1, List.length_append, List.length_cons, List.length_nil, List.length_replicate]; omega)))) rfl rfl ?_ -- ref.go:92 binOp
      refine Runs_p rfl (Valid.movek (A := Is _) rfl rfl) rfl rfl ?_ -- ref.go:92 move
      refine Runs_p rfl (Valid.sub rfl rfl rfl (room64 (by first | omega | (simp only [Int.toNat_natCast, toNat_add, toNat_add1, List.length_append, List.length_cons, List.length_nil, List.length_replicate]; omega)) (by first | omega | (simp only [Int.toNat_natCast, toNat_add, toNat_add1, List.length_append, List.length_cons, List.length_nil, List.length_replicate]; omega)))) rfl rfl ?_ -- ref.go:92 binOp
      refine Runs_p rfl (Valid.gtr rfl rfl rfl) rfl rfl ?_ -- ref.go:92 binOp
      refine Runs_nil ?_
      refine thenQ_n ?_
      refine W_cond _ rfl (fun hb2 => ?_) (fun hb2 => ?_)
      · try simp only [decide_eq_true_eq] at hb2
        all_goals (
          refine W_seq ?_
          refine W_regionE (c := 20) (c' := 22) (by kernel_rfl) rfl ?_
          refine Runs_p rfl (Valid.assignk (A := Is _) rfl rfl) rfl rfl ?_ -- ref.go:93 assign
          refine Runs_p rfl (Valid.assignk (A := Is _) rfl rfl) rfl rfl ?_ -- ref.go:93 assign
          refine Runs_nil ?_
          refine thenQ_n ?_
          refine W_ret ?_
          refine thenQ_r ?_
          refine finQ_r ?_
          refine ResOk.two rfl (RVal.is rfl rfl (by first | (rw [gv_1 (by omega)]; done) | (rw [gv_2 (by omega) (by omega)]; done) | (rw [gv_0 (by omega) (by omega) (k := k) (by omega)]))) (RVal.is rfl rfl (by first | (rw [gv_1 (by omega)]; done) | (rw [gv_2 (by omega) (by omega)]; done) | (rw [gv_0 (by omega) (by omega) (k := k) (by omega)])))
          done)
      · try simp only [decide_eq_false_iff_not] at hb2
        all_goals (
          refine W_skip ?_
          refine thenQ_n ?_
          refine W_seq ?_
          refine W_regionE (c := 20) (c' := 21) (by kernel_rfl) rfl ?_
          refine Runs_p rfl (Valid.assignk (A := Is _) rfl rfl) rfl rfl ?_ -- ref.go:95 assign
          refine Runs_nil ?_
          refine thenQ_n ?_
          refine W_seq ?_
          refine W_seq ?_
          refine W_regionE (c := 21) (c' := 22) (by kernel_rfl) rfl ?_
          refine Runs_p rfl (Valid.assignk (A := Is _) rfl rfl) rfl rfl ?_ -- ref.go:96 assign
          refine Runs_nil ?_
          refine thenQ_n ?_
          refine W_block ?_
          refine W_loopx (G := Nat) (fun (k : Nat) => (k : Int) ≤ n) [(0, Is _), (1, Is _), (2, Is _)] (fun (k : Nat) => [(9, Is (.int .i64 (k : Int))), (8, Is (.int .u64 ((val (bitsAt s.data.toList a.toNat k) : Nat) : Int)))]) [] (fun (k : Nat) => []) 22 (fun (k : Nat) => n.toNat - k) (0) [] (by first | trivial | omega | (simp; omega)) ⟨⟨(leq_is rfl rfl (by rfl)), (leq_is rfl rfl (by rfl)), trivial⟩, ⟨(leq_is rfl rfl rfl), (leq_is rfl rfl rfl), (leq_is rfl rfl rfl), trivial⟩, trivial, trivial, rfl, ⟨supg rfl, supg rfl, trivial⟩, ⟨supg rfl, supg rfl, supg rfl, trivial⟩, trivial, trivial, rfl, rfl⟩ ?_
          intro k hI1
          have hbl := Bool.toNat_le (Bm.bit s.data.toList (a + (k : Int)).toNat)
          have hgs := get_step s a.toNat k
          have hak : (a + (k : Int)).toNat = a.toNat + k := by omega
          rw [← hak] at hgs
          refine W_seq ?_
          refine W_seq ?_
          refine W_regionE (c := 22) (c' := 25) (by kernel_rfl) rfl ?_
          refine Runs_p rfl (Valid.movek (A := Is _) rfl rfl) rfl rfl ?_ -- ref.go:96 move
          refine Runs_p rfl (Valid.movek (A := Is _) rfl rfl) rfl rfl ?_ -- ref.go:96 move
          refine Runs_p rfl (Valid.lss rfl rfl rfl) rfl rfl ?_ -- ref.go:96 binOp
          refine Runs_nil ?_
          refine thenQ_n ?_
          refine W_cond _ rfl (fun hb3 => ?_) (fun hb3 => ?_)
          · try simp only [decide_eq_true_eq] at hb3
            all_goals (
              refine W_skip ?_
              refine thenQ_n ?_
              refine W_seq ?_
              refine W_block ?_
              refine W_regionE (c := 25) (c' := 35) (by kernel_rfl) rfl ?_
              refine Runs_p rfl (Valid.movek (A := Is _) rfl rfl) rfl rfl ?_ -- ref.go:97 move
              refine Runs_p rfl (Valid.mulw rfl rfl rfl) rfl rfl ?_ -- ref.go:97 binOp
              refine Runs_p rfl (Valid.movek (A := Is _) rfl rfl) rfl rfl ?_ -- ref.go:97 move
              refine Runs_p rfl (Valid.movek (A := Is _) rfl rfl) rfl rfl ?_ -- ref.go:97 move
              refine Runs_p rfl (Valid.movek (A := Is _) rfl rfl) rfl rfl ?_ -- ref.go:97 move
              refine Runs_p rfl (Valid.add rfl rfl rfl (room64 (by first | omega | (simp only [Int.toNat_natCast, toNat_add, toNat_add1, List.length_append, List.length_cons, List.length_nil, List.length_replicate]; omega)) (by first | omega | (simp only [Int.toNat_natCast, toNat_add, toNat_add1, List.length_append, List.length_cons, List.length_nil, List.length_replicate]; omega)))) rfl rfl ?_ -- ref.go:97 binOp
              refine Runs_p rfl (Valid.call rfl (bit_s _ _ (by omega) (by omega) (by omega)) ⟨argle rfl, argle rfl, trivial⟩) rfl rfl ?_ -- ref.go:97 call
              refine Runs_p rfl (Valid.convr rfl rfl Try.underlying3 Try.underlying47 (by unfold Room; rw [IntKind.wrap_u64]; omega)) rfl rfl ?_ -- ref.go:97 convert
              refine Runs_p rfl (Valid.addw rfl rfl rfl) rfl rfl ?_ -- ref.go:97 binOp
              refine Runs_p rfl (Valid.assignk (A := Is _) rfl rfl) rfl rfl ?_ -- ref.go:97 assign
              refine Runs_nil ?_
              refine blockQ_n ?_
              refine thenQ_n ?_
              refine W_regionE (c := 35) (c' := 38) (by kernel_rfl) rfl ?_
              refine Runs_p rfl (Valid.movek (A := Is _) rfl rfl) rfl rfl ?_ -- ref.go:96 move
              refine Runs_p rfl (Valid.add rfl rfl rfl (room64 (by first | omega | (simp only [Int.toNat_natCast, toNat_add, toNat_add1, List.length_append, List.length_cons, List.length_nil, List.length_replicate]; omega)) (by first | omega | (simp only [Int.toNat_natCast, toNat_add, toNat_add1, List.length_append, List.length_cons, List.length_nil, List.length_replicate]; omega)))) rfl rfl ?_ -- ref.go:96 binOp
              refine Runs_p rfl (Valid.assignk (A := Is _) rfl rfl) rfl rfl ?_ -- ref.go:96 assign
              refine Runs_nil ?_
              refine LoopQ.next (k + 1) [] (by omega) (by omega) ⟨⟨(leq_is rfl rfl (by first | rfl | exact congrArg (Value.int .u64) (hgs (by omega)))), (leq_is rfl rfl (by first | rfl | exact congrArg (Value.int .u64) (hgs (by omega)))), trivial⟩, ⟨(leq_is rfl rfl rfl), (leq_is rfl rfl rfl), (leq_is rfl rfl rfl), trivial⟩, trivial, trivial, rfl, ⟨supg rfl, supg rfl, trivial⟩, ⟨supg rfl, supg rfl, supg rfl, trivial⟩, trivial, trivial, rfl, rfl⟩
              done)
          · try simp only [decide_eq_false_iff_not] at hb3
            all_goals (
              refine W_exit ?_
              refine thenQ_e ?_
              refine loopQ_e ?_
              refine blockQ_x ?_
              refine thenQ_n ?_
              refine W_seq ?_
              refine W_regionE (c := 25) (c' := 28) (by kernel_rfl) rfl ?_
              refine Runs_p rfl (Valid.movek (A := Is _) rfl rfl) rfl rfl ?_ -- ref.go:99 move
              refine Runs_p rfl (Valid.assignk (A := Is _) rfl rfl) rfl rfl ?_ -- ref.go:99 assign
              refine Runs_p rfl (Valid.assignk (A := Is _) rfl rfl) rfl rfl ?_ -- ref.go:99 assign
              refine Runs_nil ?_
              refine thenQ_n ?_
              refine W_ret ?_
              refine finQ_r ?_
              refine ResOk.two rfl (RVal.is rfl rfl (by first | (rw [gv_1 (by omega)]; done) | (rw [gv_2 (by omega) (by omega)]; done) | (rw [gv_0 (by omega) (by omega) (k := k) (by omega)]))) (RVal.is rfl rfl (by first | (rw [gv_1 (by omega)]; done) | (rw [gv_2 (by omega) (by omega)]; done) | (rw [gv_0 (by omega) (by omega) (k := k) (by omega)])))
              done)
          done)
      done)

/-- how many ones ahead of a place -/
def cnt (f : Nat) : Nat → Nat
  | 0 => 0
  | k + 1 => cnt f k + f / 2 ^ (15 - k) % 2
  termination_by k => k
theorem uN_cnt (f : Nat) (a : Int) : ∀ k, uN f a k = a + 16 * (cnt f k : Int)
  | 0 => by rw [uN, cnt]; simp
  | k + 1 => by
    rw [uN, cnt, uN_cnt f a k, Nat.testBit_eq_decide_div_mod_eq]
    generalize f / 2 ^ (15 - k) = q
    by_cases e : q % 2 = 1
    · rw [if_pos (by simpa using e), e]; omega
    · rw [if_neg (by simpa using e), show q % 2 = 0 by omega]; rfl
theorem cnt_ones (f : Nat) (_h : f < 65536) : cnt f 16 = onesV f := by
  unfold onesV o8
  rw [show cnt f 16 = 0 + f / 2 ^ 15 % 2 + f / 2 ^ 14 % 2 + f / 2 ^ 13 % 2 + f / 2 ^ 12 % 2 + f / 2 ^ 11 % 2 + f / 2 ^ 10 % 2 + f / 2 ^ 9 % 2 + f / 2 ^ 8 % 2 + f / 2 ^ 7 % 2 + f / 2 ^ 6 % 2 + f / 2 ^ 5 % 2 + f / 2 ^ 4 % 2 + f / 2 ^ 3 % 2 + f / 2 ^ 2 % 2 + f / 2 ^ 1 % 2 + f / 2 ^ 0 % 2 by simp only [cnt]]
  simp only [show (2 : Nat) ^ 15 = 32768 from rfl, show (2 : Nat) ^ 14 = 16384 from rfl, show (2 : Nat) ^ 13 = 8192 from rfl, show (2 : Nat) ^ 12 = 4096 from rfl, show (2 : Nat) ^ 11 = 2048 from rfl, show (2 : Nat) ^ 10 = 1024 from rfl, show (2 : Nat) ^ 9 = 512 from rfl, show (2 : Nat) ^ 8 = 256 from rfl, show (2 : Nat) ^ 7 = 128 from rfl, show (2 : Nat) ^ 6 = 64 from rfl, show (2 : Nat) ^ 5 = 32 from rfl, show (2 : Nat) ^ 4 = 16 from rfl, show (2 : Nat) ^ 3 = 8 from rfl, show (2 : Nat) ^ 2 = 4 from rfl, show (2 : Nat) ^ 1 = 2 from rfl, show (2 : Nat) ^ 0 = 1 from rfl]
  have e0 : f % 256 % 2 = f / 1 % 2 := by omega
  have e1 : f % 256 / 2 % 2 = f / 2 % 2 := by omega
  have e2 : f % 256 / 4 % 2 = f / 4 % 2 := by omega
  have e3 : f % 256 / 8 % 2 = f / 8 % 2 := by omega
  have e4 : f % 256 / 16 % 2 = f / 16 % 2 := by omega
  have e5 : f % 256 / 32 % 2 = f / 32 % 2 := by omega
  have e6 : f % 256 / 64 % 2 = f / 64 % 2 := by omega
  have e7 : f % 256 / 128 % 2 = f / 128 % 2 := by omega
  simp only [Nat.div_div_eq_div_mul, Nat.reduceMul]
  rw [e0, e1, e2, e3, e4, e5, e6, e7]
  generalize f / 32768 % 2 = x15
  generalize f / 16384 % 2 = x14
  generalize f / 8192 % 2 = x13
  generalize f / 4096 % 2 = x12
  generalize f / 2048 % 2 = x11
  generalize f / 1024 % 2 = x10
  generalize f / 512 % 2 = x9
  generalize f / 256 % 2 = x8
  generalize f / 128 % 2 = x7
  generalize f / 64 % 2 = x6
  generalize f / 32 % 2 = x5
  generalize f / 16 % 2 = x4
  generalize f / 8 % 2 = x3
  generalize f / 4 % 2 = x2
  generalize f / 2 % 2 = x1
  generalize f / 1 % 2 = x0
  omega
end Gg
end Go.Proofs.Ytlcephckjhiggaa
