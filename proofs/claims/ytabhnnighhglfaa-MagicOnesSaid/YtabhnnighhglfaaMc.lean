/-
  WALKS of stage 2: the reference.
-/
import Derived.Test.YtabhnnighhglfaaRows
import Derived.Test.YtabhnnighhglfaaAby
import Derived.Test.YtabhnnighhglfaaBb
import Derived.Test.YtabhnnighhglfaaCm
import Derived.Test.YtabhnnighhglfaaCa
import Derived.Test.YtabhnnighhglfaaMa
import Derived.Test.YtabhnnighhglfaaMb
namespace Go.Proofs.Ytabhnnighhglfaa
open Go.RowKit
namespace Mc
open Ab Bm Bt Bb Cm Ca Ma Mb
theorem ag3 (w : World) : (isAgg 3).run Try.prog w = .ok false w := by kernel_rfl
theorem sz3 (w : World) : (sizeOf 3).run Try.prog w = .ok 1 w := by kernel_rfl
theorem ti3 : TI Try.prog 3 1 8 := .mk' (z := (Value.int .i64 0)) (by kernel_rfl) rfl
theorem bit_val (u : UInt8) (j : Nat) (h : j ≤ 7) : Int.fdiv (u.toNat : Int) (2 ^ min j 64) % 2 = (((u.toNat.testBit j).toNat : Nat) : Int) := by
  rw [show min j 64 = j by omega]
  have h1 : ((2 : Int) ^ j) = ((2 ^ j : Nat) : Int) := by simp
  rw [h1, Int.fdiv_eq_ediv_of_nonneg _ (Int.natCast_nonneg _), ← Int.natCast_ediv, Nat.testBit_eq_decide_div_mod_eq]
  generalize u.toNat / 2 ^ j = q
  by_cases h2 : q % 2 = 1
  · rw [decide_eq_true h2]; show (q : Int) % 2 = 1; omega
  · rw [decide_eq_false h2]; show (q : Int) % 2 = 0; omega
theorem bit_at (s : ByteArray) (a : Int) (h0 : 0 ≤ a) : Int.fdiv ((bat s (a / 8)).toNat : Int) (2 ^ min (7 - a % 8).toNat (IntKind.i64.bits)) % 2 = (((Bm.bit s.data.toList a.toNat).toNat : Nat) : Int) := by
  have := bit_val (bat s (a / 8)) (7 - a % 8).toNat (by omega)
  rw [show IntKind.i64.bits = 64 from rfl, this]
  unfold Bm.bit bitAt bat
  rw [show (a / 8).toNat = a.toNat / 8 by omega, show (7 - a % 8).toNat = 7 - a.toNat % 8 by omega]

set_option maxRecDepth 100000 in
set_option maxHeartbeats 1000000 in
theorem bit_s (s : ByteArray) (a : Int) (h0 : 0 ≤ a) (h : a < 8 * s.size) (hs : s.size ≤ 1000000000000) :
    FPure Try.prog 22 [Is (.string s), Is (.int .i64 a)] (Is (.int .i64 ((Bm.bit s.data.toList a.toNat).toNat : Int))) := by
  refine FPure.of Try.func22 Try.ntmps22 rfl (by kernel_rfl) rfl rfl rfl ?_
  refine W_seq ?_
  refine W_regionE (c := 1) (c' := 2) (by kernel_rfl) rfl ?_
  refine Runs_p rfl (Valid.assignk (A := Is _) rfl rfl) rfl rfl ?_ -- ref.go:9 assign
  refine Runs_nil ?_
  refine thenQ_n ?_
  refine W_seq ?_
  refine W_regionE (c := 2) (c' := 13) (by kernel_rfl) rfl ?_
  refine Runs_p rfl (Valid.movek (A := Is _) rfl rfl) rfl rfl ?_ -- ref.go:9 move
  refine Runs_p rfl (Valid.movek (A := Is _) rfl rfl) rfl rfl ?_ -- ref.go:9 move
  refine Runs_p rfl (Valid.quo rfl rfl rfl (by first | omega | (simp only [Int.toNat_natCast, toNat_add, toNat_add1, List.length_append, List.length_cons, List.length_nil, List.length_replicate]; omega)) (by first | omega | (simp only [Int.toNat_natCast, toNat_add, toNat_add1, List.length_append, List.length_cons, List.length_nil, List.length_replicate]; omega)) (room64 (by first | omega | (simp only [Int.toNat_natCast, toNat_add, toNat_add1, List.length_append, List.length_cons, List.length_nil, List.length_replicate]; omega)) (by first | omega | (simp only [Int.toNat_natCast, toNat_add, toNat_add1, List.length_append, List.length_cons, List.length_nil, List.length_replicate]; omega)))) rfl rfl ?_ -- ref.go:9 binOp
  refine Runs_p rfl (Valid.sindex rfl Try.underlying9 rfl rfl (by first | omega | (simp only [Int.toNat_natCast, toNat_add, toNat_add1, List.length_append, List.length_cons, List.length_nil, List.length_replicate]; omega))) rfl rfl ?_ -- ref.go:9 index
  refine Runs_p rfl (Valid.convr rfl rfl Try.underlying5 Try.underlying3 (room64 (by first | omega | (have hbb := (bat s (a / 8)).toNat_lt; omega)) (by first | omega | (have hbb := (bat s (a / 8)).toNat_lt; omega)))) rfl rfl ?_ -- ref.go:9 convert
  refine Runs_p rfl (Valid.movek (A := Is _) rfl rfl) rfl rfl ?_ -- ref.go:9 move
  refine Runs_p rfl (Valid.rem rfl rfl rfl (by first | omega | exact Int.fdiv_nonneg (by omega) (Int.le_of_lt (Int.pow_pos (by omega)))) (by first | omega | exact Int.fdiv_nonneg (by omega) (Int.le_of_lt (Int.pow_pos (by omega))))) rfl rfl ?_ -- ref.go:9 binOp
  refine Runs_p rfl (Valid.sub rfl rfl rfl (room64 (by first | omega | (simp only [Int.toNat_natCast, toNat_add, toNat_add1, List.length_append, List.length_cons, List.length_nil, List.length_replicate]; omega)) (by first | omega | (simp only [Int.toNat_natCast, toNat_add, toNat_add1, List.length_append, List.length_cons, List.length_nil, List.length_replicate]; omega)))) rfl rfl ?_ -- ref.go:9 binOp
  refine Runs_p rfl (Valid.shrw rfl rfl rfl (by first | omega | (simp only [Int.toNat_natCast, toNat_add, toNat_add1, List.length_append, List.length_cons, List.length_nil, List.length_replicate]; omega))) rfl rfl ?_ -- ref.go:9 binOp
  refine Runs_p rfl (Valid.rem rfl rfl rfl (by first | omega | exact Int.fdiv_nonneg (by omega) (Int.le_of_lt (Int.pow_pos (by omega)))) (by first | omega | exact Int.fdiv_nonneg (by omega) (Int.le_of_lt (Int.pow_pos (by omega))))) rfl rfl ?_ -- ref.go:9 binOp
  refine Runs_p rfl (Valid.assignk (A := Is _) rfl rfl) rfl rfl ?_ -- ref.go:9 assign
  refine Runs_nil ?_
  refine thenQ_n ?_
  refine W_ret ?_
  refine finQ_r ?_
  refine ResOk.one rfl (RVal.is rfl rfl (by rw [bit_at s a h0]))

theorem get_step (s : ByteArray) (a k : Nat) (hk : k < 64) : IntKind.u64.wrap (IntKind.u64.wrap (2 * ((val (bitsAt s.data.toList a k) : Nat) : Int)) + (((Bm.bit s.data.toList (a + k)).toNat : Nat) : Int)) = ((val (bitsAt s.data.toList a (k + 1)) : Nat) : Int) := by
  have h1 := val_lt (bitsAt s.data.toList a (k + 1))
  rw [bitsAt_len] at h1
  have h2 : 2 ^ (k + 1) ≤ 2 ^ 64 := Nat.pow_le_pow_right (by omega) (by omega)
  have h3 : val (bitsAt s.data.toList a (k + 1)) = 2 * val (bitsAt s.data.toList a k) + (Bm.bit s.data.toList (a + k)).toNat := by
    unfold bitsAt
    rw [List.range_succ, List.map_append, val_append]
    simp [val]; omega
  rw [h3] at h1 ⊢
  rw [IntKind.wrap_u64, IntKind.wrap_u64]
  omega
theorem val_0 (s : ByteArray) (a : Nat) : val (bitsAt s.data.toList a 0) = 0 := rfl
theorem gv_1 {s : ByteArray} {a n : Int} (h : (n < 0 ∨ 64 < n) ∨ a < 0) : getV s a n = (0, 1) := by
  rw [getV, if_pos]
  rcases h with (h | h) | h
  · rw [decide_eq_false (show ¬ 0 ≤ n by omega)]; rfl
  · rw [decide_eq_false (show ¬ n ≤ 64 by omega)]; simp
  · rw [decide_eq_false (show ¬ 0 ≤ a by omega)]; simp
theorem gv_no {a n : Int} (h : ¬ ((n < 0 ∨ 64 < n) ∨ a < 0)) : ¬ (decide (0 ≤ n) && decide (n ≤ 64) && decide (0 ≤ a)) = false := by
  rw [decide_eq_true (show 0 ≤ n by omega), decide_eq_true (show n ≤ 64 by omega), decide_eq_true (show 0 ≤ a by omega)]; decide
theorem gv_2 {s : ByteArray} {a n : Int} (h : ¬ ((n < 0 ∨ 64 < n) ∨ a < 0)) (h2 : 8 * (s.size : Int) - n < a) : getV s a n = (0, 2) := by
  rw [getV, if_neg (gv_no h), if_neg (by omega)]
theorem gv_0 {s : ByteArray} {a n : Int} (h : ¬ ((n < 0 ∨ 64 < n) ∨ a < 0)) (h2 : ¬ 8 * (s.size : Int) - n < a) {k : Nat} (hk : n.toNat = k) : getV s a n = (((val (bitsAt s.data.toList a.toNat k) : Nat) : Int), 0) := by
  rw [getV, if_neg (gv_no h), if_pos (by omega), hk]

set_option maxRecDepth 100000 in
set_option maxHeartbeats 1000000 in
theorem rget_s (s : ByteArray) (a n : Int) (hs : s.size ≤ 1000000000000) (ha : a ≤ 9223372036854775807) :
    FPure Try.prog 10 [Is (.string s), Is (.int .i64 a), Is (.int .i64 n)] (Tup [Is (.int .u64 (getV s a n).1), Is (.int .i64 (getV s a n).2)]) := by
  refine FPure.of Try.func10 Try.ntmps10 rfl (by kernel_rfl) rfl rfl rfl ?_
  refine W_seq ?_
  refine W_regionE (c := 1) (c' := 3) (by kernel_rfl) rfl ?_
  refine Runs_p rfl (Valid.assignk (A := Is _) rfl rfl) rfl rfl ?_ -- ref.go:88 assign
  refine Runs_p rfl (Valid.assignk (A := Is _) rfl rfl) rfl rfl ?_ -- ref.go:88 assign
  refine Runs_nil ?_
  refine thenQ_n ?_
  refine W_seq ?_
  refine W_seq ?_
  refine W_regionE (c := 3) (c' := 13) (by kernel_rfl) rfl ?_
  refine Runs_p rfl (Valid.movek (A := Is _) rfl rfl) rfl rfl ?_ -- ref.go:89 move
  refine Runs_p rfl (Valid.lss rfl rfl rfl) rfl rfl ?_ -- ref.go:89 binOp
  refine Runs_p rfl (Valid.movek (A := Is _) rfl rfl) rfl rfl ?_ -- ref.go:89 move
  refine Runs_cnd rfl rfl (Grd.is rfl) [] (fun hg => trivial) (fun hg => Valid.movek (A := Is _) rfl rfl) (by rfl) rfl ?_
  refine Runs_cnd rfl rfl (Grd.is rfl) [(13, _)] (fun hg => ⟨cnd_at rfl (by first | exact hg | exact hg.1 | exact hg.1.1 | exact hg.1.1.1), trivial⟩) (fun hg => Valid.gtr rfl rfl rfl) (by rfl) rfl ?_
  refine Runs_p rfl (Valid.pickor rfl rfl rfl rfl (fun h => by first | exact h | exact ⟨hg, h⟩)) rfl rfl ?_ -- ref.go:89 pick
  refine Runs_p rfl (Valid.movek (A := Is _) rfl rfl) rfl rfl ?_ -- ref.go:89 move
  refine Runs_cnd rfl rfl (Grd.is rfl) [] (fun hg => trivial) (fun hg => Valid.movek (A := Is _) rfl rfl) (by rfl) rfl ?_
  refine Runs_cnd rfl rfl (Grd.is rfl) [(17, _)] (fun hg => ⟨cnd_at rfl (by first | exact hg | exact hg.1 | exact hg.1.1 | exact hg.1.1.1), trivial⟩) (fun hg => Valid.lss rfl rfl rfl) (by rfl) rfl ?_
  refine Runs_p rfl (Valid.pickor rfl rfl rfl rfl (fun h => by first | exact h | exact ⟨hg, h⟩)) rfl rfl ?_ -- ref.go:89 pick
  refine Runs_nil ?_
  refine thenQ_n ?_
  refine W_cond _ rfl (fun hb1 => ?_) (fun hb1 => ?_)
  · try simp only [decide_eq_true_eq, Bool.or_eq_true] at hb1
    all_goals (
      refine W_seq ?_
      refine W_regionE (c := 13) (c' := 15) (by kernel_rfl) rfl ?_
      refine Runs_p rfl (Valid.assignk (A := Is _) rfl rfl) rfl rfl ?_ -- ref.go:90 assign
      refine Runs_p rfl (Valid.assignk (A := Is _) rfl rfl) rfl rfl ?_ -- ref.go:90 assign
      refine Runs_nil ?_
      refine thenQ_n ?_
      refine W_ret ?_
      refine thenQ_r ?_
      refine finQ_r ?_
      refine ResOk.two rfl (RVal.is rfl rfl (by first | (rw [gv_1 (by omega)]; done) | (rw [gv_2 (by omega) (by omega)]; done) | (rw [gv_0 (by omega) (by omega) (k := k) (by omega)]))) (RVal.is rfl rfl (by first | (rw [gv_1 (by omega)]; done) | (rw [gv_2 (by omega) (by omega)]; done) | (rw [gv_0 (by omega) (by omega) (k := k) (by omega)])))
      done)
  · try simp only [decide_eq_false_iff_not, Bool.or_eq_false_iff] at hb1
    all_goals (
      refine W_skip ?_
      refine thenQ_n ?_
      refine W_seq ?_
      refine W_seq ?_
      refine W_regionE (c := 13) (c' := 20) (by kernel_rfl) rfl ?_
      refine Runs_p rfl (Valid.movek (A := Is _) rfl rfl) rfl rfl ?_ -- ref.go:92 move
      refine Runs_p rfl (Valid.movek (A := Is _) rfl rfl) rfl rfl ?_ -- ref.go:92 move
      refine Runs_p rfl (Valid.slen rfl Try.underlying9 rfl) rfl rfl ?_ -- ref.go:92 call
      refine Runs_p rfl (Valid.mul rfl rfl rfl (room64 (by first | omega | (simp only [Int.toNat_natCast, toNat_add, toNat_add1, List.length_append, List.length_cons, List.length_nil, List.length_replicate]; omega)) (by first | omega | (simp only [Int.toNat_natCast, toNat_add, toNat_add1, List.length_append, List.length_cons, List.length_nil, List.length_replicate]; omega)))) rfl rfl ?_ -- ref.go:92 binOp
      refine Runs_p rfl (Valid.movek (A := Is _) rfl rfl) rfl rfl ?_ -- ref.go:92 move
      refine Runs_p rfl (Valid.sub rfl rfl rfl (room64 (by first | omega | (simp only [Int.toNat_natCast, toNat_add, toNat_add1, List.length_append, List.length_cons, List.length_nil, List.length_replicate]; omega)) (by first | omega | (simp only [Int.toNat_natCast, toNat_add, toNat_add1, List.length_append, List.length_cons, List.length_nil, List.length_replicate]; omega)))) rfl rfl ?_ -- ref.go:92 binOp
      refine Runs_p rfl (Valid.gtr rfl rfl rfl) rfl rfl ?_ -- ref.go:92 binOp
      refine Runs_nil ?_
      refine thenQ_n ?_
      refine W_cond _ rfl (fun hb2 => ?_) (fun hb2 => ?_)
      · try simp only [decide_eq_true_eq] at hb2
        all_goals (
          refine W_seq ?_
          refine W_regionE (c := 20) (c' := 22) (by kernel_rfl) rfl ?_
          refine Runs_p rfl (Valid.assignk (A := Is _) rfl rfl) rfl rfl ?_ -- ref.go:93 assign
          refine Runs_p rfl (Valid.assignk (A := Is _) rfl rfl) rfl rfl ?_ -- ref.go:93 assign
          refine Runs_nil ?_
          refine thenQ_n ?_
          refine W_ret ?_
          refine thenQ_r ?_
          refine finQ_r ?_
          refine ResOk.two rfl (RVal.is rfl rfl (by first | (rw [gv_1 (by omega)]; done) | (rw [gv_2 (by omega) (by omega)]; done) | (rw [gv_0 (by omega) (by omega) (k := k) (by omega)]))) (RVal.is rfl rfl (by first | (rw [gv_1 (by omega)]; done) | (rw [gv_2 (by omega) (by omega)]; done) | (rw [gv_0 (by omega) (by omega) (k := k) (by omega)])))
          done)
      · try simp only [decide_eq_false_iff_not] at hb2
        all_goals (
          refine W_skip ?_
          refine thenQ_n ?_
          refine W_seq ?_
          refine W_regionE (c := 20) (c' := 21) (by kernel_rfl) rfl ?_
          refine Runs_p rfl (Valid.assignk (A := Is _) rfl rfl) rfl rfl ?_ -- ref.go:95 assign
          refine Runs_nil ?_
          refine thenQ_n ?_
          refine W_seq ?_
          refine W_seq ?_
          refine W_regionE (c := 21) (c' := 22) (by kernel_rfl) rfl ?_
          refine Runs_p rfl (Valid.assignk (A := Is _) rfl rfl) rfl rfl ?_ -- ref.go:96 assign
          refine Runs_nil ?_
          refine thenQ_n ?_
          refine W_block ?_
          refine W_loopx (G := Nat) (fun (k : Nat) => (k : Int) ≤ n) [(0, Is _), (1, Is _), (2, Is _)] (fun (k : Nat) => [(9, Is (.int .i64 (k : Int))), (8, Is (.int .u64 ((val (bitsAt s.data.toList a.toNat k) : Nat) : Int)))]) [] (fun (k : Nat) => []) 22 (fun (k : Nat) => n.toNat - k) (0) [] (by first | trivial | omega | (simp; omega)) ⟨⟨(leq_is rfl rfl (by rfl)), (leq_is rfl rfl (by rfl)), trivial⟩, ⟨(leq_is rfl rfl rfl), (leq_is rfl rfl rfl), (leq_is rfl rfl rfl), trivial⟩, trivial, trivial, rfl, ⟨supg rfl, supg rfl, trivial⟩, ⟨supg rfl, supg rfl, supg rfl, trivial⟩, trivial, trivial, rfl, rfl⟩ ?_
          intro k hI1
          have hbl := Bool.toNat_le (Bm.bit s.data.toList (a + (k : Int)).toNat)
          have hgs := get_step s a.toNat k
          have hak : (a + (k : Int)).toNat = a.toNat + k := by omega
          rw [← hak] at hgs
          refine W_seq ?_
          refine W_seq ?_
          refine W_regionE (c := 22) (c' := 25) (by kernel_rfl) rfl ?_
          refine Runs_p rfl (Valid.movek (A := Is _) rfl rfl) rfl rfl ?_ -- ref.go:96 move
          refine Runs_p rfl (Valid.movek (A := Is _) rfl rfl) rfl rfl ?_ -- ref.go:96 move
          refine Runs_p rfl (Valid.lss rfl rfl rfl) rfl rfl ?_ -- ref.go:96 binOp
          refine Runs_nil ?_
          refine thenQ_n ?_
          refine W_cond _ rfl (fun hb3 => ?_) (fun hb3 => ?_)
          · try simp only [decide_eq_true_eq] at hb3
            all_goals (
              refine W_skip ?_
              refine thenQ_n ?_
              refine W_seq ?_
              refine W_block ?_
              refine W_regionE (c := 25) (c' := 35) (by kernel_rfl) rfl ?_
              refine Runs_p rfl (Valid.movek (A := Is _) rfl rfl) rfl rfl ?_ -- ref.go:97 move
              refine Runs_p rfl (Valid.mulw rfl rfl rfl) rfl rfl ?_ -- ref.go:97 binOp
              refine Runs_p rfl (Valid.movek (A := Is _) rfl rfl) rfl rfl ?_ -- ref.go:97 move
              refine Runs_p rfl (Valid.movek (A := Is _) rfl rfl) rfl rfl ?_ -- ref.go:97 move
              refine Runs_p rfl (Valid.movek (A := Is _) rfl rfl) rfl rfl ?_ -- ref.go:97 move
              refine Runs_p rfl (Valid.add rfl rfl rfl (room64 (by first | omega | (simp only [Int.toNat_natCast, toNat_add, toNat_add1, List.length_append, List.length_cons, List.length_nil, List.length_replicate]; omega)) (by first | omega | (simp only [Int.toNat_natCast, toNat_add, toNat_add1, List.length_append, List.length_cons, List.length_nil, List.length_replicate]; omega)))) rfl rfl ?_ -- ref.go:97 binOp
              refine Runs_p rfl (Valid.call rfl (bit_s _ _ (by omega) (by omega) (by omega)) ⟨argle rfl, argle rfl, trivial⟩) rfl rfl ?_ -- ref.go:97 call
              refine Runs_p rfl (Valid.convr rfl rfl Try.underlying3 Try.underlying22 (by unfold Room; rw [IntKind.wrap_u64]; omega)) rfl rfl ?_ -- ref.go:97 convert
              refine Runs_p rfl (Valid.addw rfl rfl rfl) rfl rfl ?_ -- ref.go:97 binOp
              refine Runs_p rfl (Valid.assignk (A := Is _) rfl rfl) rfl rfl ?_ -- ref.go:97 assign
              refine Runs_nil ?_
              refine blockQ_n ?_
              refine thenQ_n ?_
              refine W_regionE (c := 35) (c' := 38) (by kernel_rfl) rfl ?_
              refine Runs_p rfl (Valid.movek (A := Is _) rfl rfl) rfl rfl ?_ -- ref.go:96 move
              refine Runs_p rfl (Valid.add rfl rfl rfl (room64 (by first | omega | (simp only [Int.toNat_natCast, toNat_add, toNat_add1, List.length_append, List.length_cons, List.length_nil, List.length_replicate]; omega)) (by first | omega | (simp only [Int.toNat_natCast, toNat_add, toNat_add1, List.length_append, List.length_cons, List.length_nil, List.length_replicate]; omega)))) rfl rfl ?_ -- ref.go:96 binOp
              refine Runs_p rfl (Valid.assignk (A := Is _) rfl rfl) rfl rfl ?_ -- ref.go:96 assign
              refine Runs_nil ?_
              refine LoopQ.next (k + 1) [] (by omega) (by omega) ⟨⟨(leq_is rfl rfl (by first | rfl | exact congrArg (Value.int .u64) (hgs (by omega)))), (leq_is rfl rfl (by first | rfl | exact congrArg (Value.int .u64) (hgs (by omega)))), trivial⟩, ⟨(leq_is rfl rfl rfl), (leq_is rfl rfl rfl), (leq_is rfl rfl rfl), trivial⟩, trivial, trivial, rfl, ⟨supg rfl, supg rfl, trivial⟩, ⟨supg rfl, supg rfl, supg rfl, trivial⟩, trivial, trivial, rfl, rfl⟩
              done)
          · try simp only [decide_eq_false_iff_not] at hb3
            all_goals (
              refine W_exit ?_
              refine thenQ_e ?_
              refine loopQ_e ?_
              refine blockQ_x ?_
              refine thenQ_n ?_
              refine W_seq ?_
              refine W_regionE (c := 25) (c' := 28) (by kernel_rfl) rfl ?_
              refine Runs_p rfl (Valid.movek (A := Is _) rfl rfl) rfl rfl ?_ -- ref.go:99 move
              refine Runs_p rfl (Valid.assignk (A := Is _) rfl rfl) rfl rfl ?_ -- ref.go:99 assign
              refine Runs_p rfl (Valid.assignk (A := Is _) rfl rfl) rfl rfl ?_ -- ref.go:99 assign
              refine Runs_nil ?_
              refine thenQ_n ?_
              refine W_ret ?_
              refine finQ_r ?_
              refine ResOk.two rfl (RVal.is rfl rfl (by first | (rw [gv_1 (by omega)]; done) | (rw [gv_2 (by omega) (by omega)]; done) | (rw [gv_0 (by omega) (by omega) (k := k) (by omega)]))) (RVal.is rfl rfl (by first | (rw [gv_1 (by omega)]; done) | (rw [gv_2 (by omega) (by omega)]; done) | (rw [gv_0 (by omega) (by omega) (k := k) (by omega)])))
              done)
          done)
      done)

theorem pow_u {n : Int} (h1 : 1 ≤ n) (h2 : n < 64) : IntKind.u64.wrap (1 * 2 ^ min n.toNat IntKind.u64.bits) = 2 ^ n.toNat := by
  obtain ⟨k, rfl⟩ : ∃ k : Nat, n = k := ⟨n.toNat, by omega⟩
  have h3 : 2 ^ k < 2 ^ 64 := Nat.pow_lt_pow_right (by omega) (by omega)
  have h4 : ((2 : Int) ^ k) = ((2 ^ k : Nat) : Int) := by simp
  rw [show IntKind.u64.bits = 64 from rfl, Int.toNat_natCast, show min k 64 = k by omega, IntKind.wrap_u64, Int.one_mul, h4]
  exact Int.emod_eq_of_lt (Int.natCast_nonneg _) (Int.ofNat_lt.2 h3)
theorem pow_pos' {n : Int} : (0 : Int) < 2 ^ n.toNat := Int.pow_pos (by decide)
theorem mat_lo {s : ByteArray} {a m n : Int} (h1 : 1 ≤ n) (h2 : n < 64) : (decide ((getV s a n).2 = 0) && decide ((getV s a n).1 = m % IntKind.u64.wrap (1 * 2 ^ min n.toNat IntKind.u64.bits))) = matV s a m n := by
  rw [pow_u h1 h2, matV, decide_eq_true (show 1 ≤ n ∧ n ≤ 64 by omega), Bool.true_and]
theorem mat_hi {s : ByteArray} {a m n : Int} (hm : 0 ≤ m ∧ m < 18446744073709551616) (h1 : n = 64) : (decide ((getV s a n).2 = 0) && decide ((getV s a n).1 = m)) = matV s a m n := by
  subst h1
  rw [matV, decide_eq_true (show (1 : Int) ≤ 64 ∧ (64 : Int) ≤ 64 by decide), Bool.true_and, show m % 2 ^ (64 : Int).toNat = m from Int.emod_eq_of_lt hm.1 hm.2]
theorem mat_no {s : ByteArray} {a m n : Int} (h : ¬ (1 ≤ n ∧ n ≤ 64)) : matV s a m n = false := by rw [matV, decide_eq_false h]; rfl

set_option maxRecDepth 100000 in
set_option maxHeartbeats 1000000 in
theorem rmat_s (s : ByteArray) (a : Int) (m : Int) (hm : 0 ≤ m ∧ m < 18446744073709551616) (n : Int) (hn : -9223372036854775808 ≤ n ∧ n ≤ 9223372036854775807) (hs : s.size ≤ 1000000000000) (ha : -9223372036854775808 ≤ a ∧ a ≤ 9223372036854775807) :
    FPure Try.prog 15 [Is (.string s), Is (.int .i64 a), Is (.int .u64 m), Is (.int .i64 n)] (Is (.bool (matV s a m n))) := by
  refine FPure.of Try.func15 Try.ntmps15 rfl (by kernel_rfl) rfl rfl rfl ?_
  refine W_seq ?_
  refine W_regionE (c := 1) (c' := 2) (by kernel_rfl) rfl ?_
  refine Runs_p rfl (Valid.assignk (A := Is _) rfl rfl) rfl rfl ?_ -- ref.go:10 assign
  refine Runs_nil ?_
  refine thenQ_n ?_
  refine W_seq ?_
  refine W_seq ?_
  refine W_regionE (c := 2) (c' := 8) (by kernel_rfl) rfl ?_
  refine Runs_p rfl (Valid.movek (A := Is _) rfl rfl) rfl rfl ?_ -- ref.go:11 move
  refine Runs_p rfl (Valid.lss rfl rfl rfl) rfl rfl ?_ -- ref.go:11 binOp
  refine Runs_p rfl (Valid.movek (A := Is _) rfl rfl) rfl rfl ?_ -- ref.go:11 move
  refine Runs_cnd rfl rfl (Grd.is rfl) [] (fun hg => trivial) (fun hg => Valid.movek (A := Is _) rfl rfl) (by rfl) rfl ?_
  refine Runs_cnd rfl rfl (Grd.is rfl) [(15, _)] (fun hg => ⟨cnd_at rfl (by first | exact hg | exact hg.1 | exact hg.1.1 | exact hg.1.1.1), trivial⟩) (fun hg => Valid.gtr rfl rfl rfl) (by rfl) rfl ?_
  refine Runs_p rfl (Valid.pickor rfl rfl rfl rfl (fun h => by first | exact h | exact ⟨hg, h⟩)) rfl rfl ?_ -- ref.go:11 pick
  refine Runs_nil ?_
  refine thenQ_n ?_
  refine W_cond _ rfl (fun hb1 => ?_) (fun hb1 => ?_)
  · try simp only [decide_eq_true_eq, Bool.or_eq_true] at hb1
    all_goals (
      refine W_seq ?_
      refine W_regionE (c := 8) (c' := 9) (by kernel_rfl) rfl ?_
      refine Runs_p rfl (Valid.assignk (A := Is _) rfl rfl) rfl rfl ?_ -- ref.go:12 assign
      refine Runs_nil ?_
      refine thenQ_n ?_
      refine W_ret ?_
      refine thenQ_r ?_
      refine finQ_r ?_
      refine ResOk.one rfl (RVal.is rfl rfl (by first | exact congrArg Value.bool (mat_no (by omega)).symm | exact congrArg Value.bool (mat_lo (by omega) (by omega)) | exact congrArg Value.bool (mat_hi hm (by omega))))
      done)
  · try simp only [decide_eq_false_iff_not, Bool.or_eq_false_iff] at hb1
    all_goals (
      refine W_skip ?_
      refine thenQ_n ?_
      refine W_seq ?_
      refine W_regionE (c := 8) (c' := 17) (by kernel_rfl) rfl ?_
      refine Runs_p rfl (Valid.movek (A := Is _) rfl rfl) rfl rfl ?_ -- ref.go:14 move
      refine Runs_p rfl (Valid.movek (A := Is _) rfl rfl) rfl rfl ?_ -- ref.go:14 move
      refine Runs_p rfl (Valid.movek (A := Is _) rfl rfl) rfl rfl ?_ -- ref.go:14 move
      refine Runs_p rfl (Valid.call rfl (rget_s _ _ _ (by omega) (by omega)) ⟨argle rfl, argle rfl, argle rfl, trivial⟩) rfl rfl ?_ -- ref.go:14 call
      refine Runs_p rfl (Valid.movek (A := Tup [Is _, Is _]) rfl rfl) rfl rfl ?_ -- ref.go:14 move
      refine Runs_p rfl (Valid.extract _ rfl rfl rfl) rfl rfl ?_ -- ref.go:14 extract
      refine Runs_p rfl (Valid.extract _ rfl rfl rfl) rfl rfl ?_ -- ref.go:14 extract
      refine Runs_p rfl (Valid.assignk (A := Is _) rfl rfl) rfl rfl ?_ -- ref.go:14 assign
      refine Runs_p rfl (Valid.assignk (A := Is _) rfl rfl) rfl rfl ?_ -- ref.go:14 assign
      refine Runs_nil ?_
      refine thenQ_n ?_
      refine W_seq ?_
      refine W_regionE (c := 17) (c' := 19) (by kernel_rfl) rfl ?_
      refine Runs_p rfl (Valid.movek (A := Is _) rfl rfl) rfl rfl ?_ -- ref.go:15 move
      refine Runs_p rfl (Valid.assignk (A := Is _) rfl rfl) rfl rfl ?_ -- ref.go:15 assign
      refine Runs_nil ?_
      refine thenQ_n ?_
      refine W_seq ?_
      refine W_seq ?_
      refine W_regionE (c := 19) (c' := 21) (by kernel_rfl) rfl ?_
      refine Runs_p rfl (Valid.movek (A := Is _) rfl rfl) rfl rfl ?_ -- ref.go:16 move
      refine Runs_p rfl (Valid.lss rfl rfl rfl) rfl rfl ?_ -- ref.go:16 binOp
      refine Runs_nil ?_
      refine thenQ_n ?_
      refine W_cond _ rfl (fun hb2 => ?_) (fun hb2 => ?_)
      · try simp only [decide_eq_true_eq] at hb2
        all_goals (
          refine W_regionE (c := 21) (c' := 26) (by kernel_rfl) rfl ?_
          refine Runs_p rfl (Valid.movek (A := Is _) rfl rfl) rfl rfl ?_ -- ref.go:17 move
          refine Runs_p rfl (Valid.movek (A := Is _) rfl rfl) rfl rfl ?_ -- ref.go:17 move
          refine Runs_p rfl (Valid.shlw rfl rfl rfl (by first | omega | (simp only [Int.toNat_natCast, toNat_add, toNat_add1, List.length_append, List.length_cons, List.length_nil, List.length_replicate]; omega))) rfl rfl ?_ -- ref.go:17 binOp
          refine Runs_p rfl (Valid.rem rfl rfl rfl (by first | omega | (rw [pow_u (by omega) (by omega)]; exact pow_pos')) (by first | omega | (rw [pow_u (by omega) (by omega)]; exact pow_pos'))) rfl rfl ?_ -- ref.go:17 binOp
          refine Runs_p rfl (Valid.assignk (A := Is _) rfl rfl) rfl rfl ?_ -- ref.go:17 assign
          refine Runs_nil ?_
          refine thenQ_n ?_
          refine W_seq ?_
          refine W_regionE (c := 26) (c' := 34) (by kernel_rfl) rfl ?_
          refine Runs_p rfl (Valid.movek (A := Is _) rfl rfl) rfl rfl ?_ -- ref.go:19 move
          refine Runs_p rfl (Valid.eql rfl rfl rfl) rfl rfl ?_ -- ref.go:19 binOp
          refine Runs_p rfl (Valid.movek (A := Is _) rfl rfl) rfl rfl ?_ -- ref.go:19 move
          refine Runs_cnd rfl rfl (Grd.is rfl) [] (fun hg => trivial) (fun hg => Valid.movek (A := Is _) rfl rfl) (by rfl) rfl ?_
          refine Runs_cnd rfl rfl (Grd.is rfl) [] (fun hg => trivial) (fun hg => Valid.movek (A := Is _) rfl rfl) (by rfl) rfl ?_
          refine Runs_cnd rfl rfl (Grd.is rfl) [(35, _), (36, _)] (fun hg => ⟨cnd_at rfl (by first | exact hg | exact hg.1 | exact hg.1.1 | exact hg.1.1.1), cnd_at rfl (by first | exact hg | exact hg.1 | exact hg.1.1 | exact hg.1.1.1), trivial⟩) (fun hg => Valid.eql rfl rfl rfl) (by rfl) rfl ?_
          refine Runs_p rfl (Valid.pickand rfl rfl rfl (fun h => by first | exact h | exact ⟨hg, h⟩) rfl) rfl rfl ?_ -- ref.go:19 pick
          refine Runs_p rfl (Valid.assignk (A := Is _) rfl rfl) rfl rfl ?_ -- ref.go:19 assign
          refine Runs_nil ?_
          refine thenQ_n ?_
          refine W_ret ?_
          refine finQ_r ?_
          refine ResOk.one rfl (RVal.is rfl rfl (by first | exact congrArg Value.bool (mat_no (by omega)).symm | exact congrArg Value.bool (mat_lo (by omega) (by omega)) | exact congrArg Value.bool (mat_hi hm (by omega))))
          done)
      · try simp only [decide_eq_false_iff_not] at hb2
        all_goals (
          refine W_skip ?_
          refine thenQ_n ?_
          refine W_seq ?_
          refine W_regionE (c := 21) (c' := 29) (by kernel_rfl) rfl ?_
          refine Runs_p rfl (Valid.movek (A := Is _) rfl rfl) rfl rfl ?_ -- ref.go:19 move
          refine Runs_p rfl (Valid.eql rfl rfl rfl) rfl rfl ?_ -- ref.go:19 binOp
          refine Runs_p rfl (Valid.movek (A := Is _) rfl rfl) rfl rfl ?_ -- ref.go:19 move
          refine Runs_cnd rfl rfl (Grd.is rfl) [] (fun hg => trivial) (fun hg => Valid.movek (A := Is _) rfl rfl) (by rfl) rfl ?_
          refine Runs_cnd rfl rfl (Grd.is rfl) [] (fun hg => trivial) (fun hg => Valid.movek (A := Is _) rfl rfl) (by rfl) rfl ?_
          refine Runs_cnd rfl rfl (Grd.is rfl) [(35, _), (36, _)] (fun hg => ⟨cnd_at rfl (by first | exact hg | exact hg.1 | exact hg.1.1 | exact hg.1.1.1), cnd_at rfl (by first | exact hg | exact hg.1 | exact hg.1.1 | exact hg.1.1.1), trivial⟩) (fun hg => Valid.eql rfl rfl rfl) (by rfl) rfl ?_
          refine Runs_p rfl (Valid.pickand rfl rfl rfl (fun h => by first | exact h | exact ⟨hg, h⟩) rfl) rfl rfl ?_ -- ref.go:19 pick
          refine Runs_p rfl (Valid.assignk (A := Is _) rfl rfl) rfl rfl ?_ -- ref.go:19 assign
          refine Runs_nil ?_
          refine thenQ_n ?_
          refine W_ret ?_
          refine finQ_r ?_
          refine ResOk.one rfl (RVal.is rfl rfl (by first | exact congrArg Value.bool (mat_no (by omega)).symm | exact congrArg Value.bool (mat_lo (by omega) (by omega)) | exact congrArg Value.bool (mat_hi hm (by omega))))
          done)
      done)

def plZ (s : ByteArray) (f m n : Int) : List Int := (plL s f m n (8 * s.size)).map fun q : Nat => (q : Int)
theorem plZ_len (s : ByteArray) (f m n : Int) : (plZ s f m n).length = (plL s f m n (8 * s.size)).length := by rw [plZ, List.length_map]
theorem plZ_le (s : ByteArray) (f m n : Int) : (plZ s f m n).length ≤ 8 * s.size := by rw [plZ_len]; exact plL_le _ _ _ _ _
theorem all_z (s : ByteArray) (m : Int) (hm : 0 ≤ m ∧ m < 18446744073709551616) (n : Int) (hn : -9223372036854775808 ≤ n ∧ n ≤ 9223372036854775807) (hs : s.size ≤ 1000000000000) : FPure Try.prog 12 [Is (.string s), Is (.int .u64 m), Is (.int .i64 n)] (Sl 1 (plZ s 0 m n).length ((plZ s 0 m n).map (Value.int .i64))) := by
  have h := all_s s m hm n hn hs
  have e : (plL s 0 m n (8 * s.size)).map (fun q : Nat => Value.int .i64 (q : Int)) = (plZ s 0 m n).map (Value.int .i64) := by rw [plZ, List.map_map]; rfl
  rw [e, ← plZ_len] at h
  exact h
theorem pl_y {s : ByteArray} {m n : Int} {k : Nat} (h : matV s (k : Int) m n = true) : plL s 0 m n (k + 1) = plL s 0 m n k ++ [k] := plL_y (by rw [h, decide_eq_true (show (0 : Int) ≤ (k : Int) by omega)]; rfl)
theorem pl_n {s : ByteArray} {m n : Int} {k : Nat} (h : matV s (k : Int) m n = false) : plL s 0 m n (k + 1) = plL s 0 m n k := plL_n (by rw [h]; simp)
theorem pl_yc {s : ByteArray} {m n : Int} {k : Nat} (h : matV s (k : Int) m n = true) : (plL s 0 m n k).map (fun q : Nat => Value.int .i64 (q : Int)) ++ [Value.int .i64 (k : Int)] = (plL s 0 m n (k + 1)).map (fun q : Nat => Value.int .i64 (q : Int)) := by rw [pl_y h, List.map_append]; rfl
theorem pl_yl {s : ByteArray} {m n : Int} {k : Nat} (h : matV s (k : Int) m n = true) : (plL s 0 m n k).length + 1 = (plL s 0 m n (k + 1)).length := by rw [pl_y h]; simp
theorem pl_0 (s : ByteArray) (f m n : Int) : plL s f m n 0 = [] := rfl

set_option maxRecDepth 100000 in
set_option maxHeartbeats 1000000 in
theorem rall_s (s : ByteArray) (m : Int) (hm : 0 ≤ m ∧ m < 18446744073709551616) (n : Int) (hn : -9223372036854775808 ≤ n ∧ n ≤ 9223372036854775807) (hs : s.size ≤ 1000000000000) :
    FPure Try.prog 13 [Is (.string s), Is (.int .u64 m), Is (.int .i64 n)] (Sl 1 (plZ s 0 m n).length ((plZ s 0 m n).map (Value.int .i64))) := by
  refine FPure.of Try.func13 Try.ntmps13 rfl (by kernel_rfl) rfl rfl rfl ?_
  refine W_seq ?_
  refine W_regionE (c := 1) (c' := 2) (by kernel_rfl) rfl ?_
  refine Runs_p rfl (Valid.assignk (A := Is (.slice none 0 0)) rfl rfl) rfl rfl ?_ -- ref.go:23 assign
  refine Runs_nil ?_
  refine thenQ_n ?_
  refine W_seq ?_
  refine W_regionE (c := 2) (c' := 3) (by kernel_rfl) rfl ?_
  refine Runs_p rfl (Valid.assignk (A := Is (.slice none 0 0)) rfl rfl) rfl rfl ?_ -- ref.go:24 assign
  refine Runs_nil ?_
  refine thenQ_n ?_
  refine W_seq ?_
  refine W_seq ?_
  refine W_regionE (c := 3) (c' := 4) (by kernel_rfl) rfl ?_
  refine Runs_p rfl (Valid.assignk (A := Is _) rfl rfl) rfl rfl ?_ -- ref.go:25 assign
  refine Runs_nil ?_
  refine thenQ_n ?_
  refine W_block ?_
  refine W.ent ?_ (Ent.ownnil 7 3 1 rfl)
  refine W_loopx (G := Nat) (fun (k : Nat) => k ≤ 8 * s.size) [(0, Is _), (1, Is _), (2, Is _)] (fun (k : Nat) => [(8, Is (.int .i64 (k : Int))), (7, Ab.Own 32 1 (plL s 0 m n k).length ((plL s 0 m n k).map fun q : Nat => Value.int .i64 (q : Int)))]) [] (fun (k : Nat) => [(32, .row 3 1 (plL s 0 m n k).length ((plL s 0 m n k).map fun q : Nat => Value.int .i64 (q : Int)))]) 5 (fun (k : Nat) => 8 * s.size - k) (0) [] (by first | trivial | omega | (simp; omega)) ⟨⟨(leq_is rfl rfl (by first | rfl)), (leq_own rfl rfl rfl (by first | rfl) (by first | rfl)), trivial⟩, ⟨(leq_is rfl rfl rfl), (leq_is rfl rfl rfl), (leq_is rfl rfl rfl), trivial⟩, ⟨hp_row rfl (by first | rfl) (by first | rfl), trivial⟩, trivial, rfl, ⟨supg rfl, supg rfl, trivial⟩, ⟨supg rfl, supg rfl, supg rfl, trivial⟩, ⟨suph rfl rfl, trivial⟩, trivial, rfl, rfl⟩ ?_
  intro k hI1
  have hpl := plL_le s 0 m n k
  refine W_seq ?_
  refine W_seq ?_
  refine W_regionE (c := 5) (c' := 10) (by kernel_rfl) rfl ?_
  refine Runs_p rfl (Valid.movek (A := Is _) rfl rfl) rfl rfl ?_ -- ref.go:25 move
  refine Runs_p rfl (Valid.movek (A := Is _) rfl rfl) rfl rfl ?_ -- ref.go:25 move
  refine Runs_p rfl (Valid.slen rfl Try.underlying9 rfl) rfl rfl ?_ -- ref.go:25 call
  refine Runs_p rfl (Valid.mul rfl rfl rfl (room64 (by first | omega | (simp only [Int.toNat_natCast, toNat_add, toNat_add1, List.length_append, List.length_cons, List.length_nil, List.length_replicate]; omega)) (by first | omega | (simp only [Int.toNat_natCast, toNat_add, toNat_add1, List.length_append, List.length_cons, List.length_nil, List.length_replicate]; omega)))) rfl rfl ?_ -- ref.go:25 binOp
  refine Runs_p rfl (Valid.lss rfl rfl rfl) rfl rfl ?_ -- ref.go:25 binOp
  refine Runs_nil ?_
  refine thenQ_n ?_
  refine W_cond _ rfl (fun hb1 => ?_) (fun hb1 => ?_)
  · try simp only [decide_eq_true_eq] at hb1
    all_goals (
      refine W_skip ?_
      refine thenQ_n ?_
      refine W_seq ?_
      refine W_block ?_
      refine W_seq ?_
      refine W_regionE (c := 10) (c' := 16) (by kernel_rfl) rfl ?_
      refine Runs_p rfl (Valid.movek (A := Is _) rfl rfl) rfl rfl ?_ -- ref.go:26 move
      refine Runs_p rfl (Valid.movek (A := Is _) rfl rfl) rfl rfl ?_ -- ref.go:26 move
      refine Runs_p rfl (Valid.movek (A := Is _) rfl rfl) rfl rfl ?_ -- ref.go:26 move
      refine Runs_p rfl (Valid.movek (A := Is _) rfl rfl) rfl rfl ?_ -- ref.go:26 move
      refine Runs_p rfl (Valid.call rfl (rmat_s _ _ _ hm _ (by omega) (by omega) (by omega)) ⟨argle rfl, argle rfl, argle rfl, argle rfl, trivial⟩) rfl rfl ?_ -- ref.go:26 call
      refine Runs_p rfl (Valid.assignk (A := Is _) rfl rfl) rfl rfl ?_ -- ref.go:26 assign
      refine Runs_nil ?_
      refine thenQ_n ?_
      refine W_seq ?_
      refine W_regionE (c := 16) (c' := 17) (by kernel_rfl) rfl ?_
      refine Runs_p rfl (Valid.movek (A := Is _) rfl rfl) rfl rfl ?_ -- ref.go:27 move
      refine Runs_nil ?_
      refine thenQ_n ?_
      refine W_cond _ rfl (fun hb2 => ?_) (fun hb2 => ?_)
      · try simp only [Int.toNat_natCast, toNat_add, toNat_add1, decide_eq_true_eq, decide_eq_false_iff_not, Bool.and_eq_true, Bool.or_eq_true, Bool.and_eq_false_iff, Bool.or_eq_false_iff, Bool.not_eq_true', Bool.not_eq_false', Bool.true_eq_false, Bool.false_eq_true, not_true_eq_false, not_false_eq_true, ne_eq] at hb2
        all_goals (
          refine W_regionE (c := 17) (c' := 22) (by kernel_rfl) rfl ?_
          refine Runs_p rfl (Valid.movek (A := Ab.Own 32 1 _ _) rfl rfl) rfl rfl ?_ -- ref.go:28 move
          refine Runs_p rfl (Valid.movek (A := Is _) rfl rfl) rfl rfl ?_ -- ref.go:28 move
          refine Runs_p rfl (Valid.lit (el := 3) [_] rfl rfl (fun _ => by kernel_rfl) rfl (by decide)) rfl rfl ?_ -- ref.go:28 buildSlice
          refine Runs_w rfl (Valid.app rfl Try.underlying25 ti3 (by decide) rfl rfl (Reads.sl rfl) (by first | exact one_map (fun _ => rfl) | exact one_cons rfl one_nil | exact one_app (one_map (fun _ => rfl)) (one_cons rfl one_nil) | exact one_app (one_map (fun _ => rfl)) (one_map (fun _ => rfl)) | exact one_rep rfl | exact one_app (one_rep rfl) (one_map (fun _ => rfl)) | (intro u hu; simp at hu; rcases hu with rfl | hu <;> first | rfl | (subst hu; rfl))) (by first | (simp only [maxLen]; omega) | (simp only [maxLen, Int.toNat_natCast, toNat_add, toNat_add1, List.length_append, List.length_cons, List.length_nil, List.length_replicate]; omega)) (by first | omega | (simp only [Int.toNat_natCast, toNat_add, toNat_add1, List.length_append, List.length_cons, List.length_nil, List.length_replicate]; omega))) rfl rfl ?_ -- ref.go:28 call
          refine Runs_p rfl (Valid.assignk (A := Ab.Own 160 1 _ _) rfl rfl) rfl rfl ?_ -- ref.go:28 assign
          refine Runs_nil ?_
          refine blockQ_n ?_
          refine thenQ_n ?_
          refine W_regionE (c := 22) (c' := 25) (by kernel_rfl) rfl ?_
          refine Runs_p rfl (Valid.movek (A := Is _) rfl rfl) rfl rfl ?_ -- ref.go:25 move
          refine Runs_p rfl (Valid.add rfl rfl rfl (room64 (by first | omega | (simp only [Int.toNat_natCast, toNat_add, toNat_add1, List.length_append, List.length_cons, List.length_nil, List.length_replicate]; omega)) (by first | omega | (simp only [Int.toNat_natCast, toNat_add, toNat_add1, List.length_append, List.length_cons, List.length_nil, List.length_replicate]; omega)))) rfl rfl ?_ -- ref.go:25 binOp
          refine Runs_p rfl (Valid.assignk (A := Is _) rfl rfl) rfl rfl ?_ -- ref.go:25 assign
          refine Runs_nil ?_
          refine LoopQ.next (k + 1) [(32, 160)] (by omega) (by omega) ⟨⟨(leq_is rfl rfl (by first | rfl | exact pl_yc (by assumption) | exact pl_yl (by assumption) | (rw [pl_n (by assumption)]))), (leq_own rfl rfl rfl (by first | rfl | exact pl_yc (by assumption) | exact pl_yl (by assumption) | (rw [pl_n (by assumption)])) (by first | rfl | exact pl_yc (by assumption) | exact pl_yl (by assumption) | (rw [pl_n (by assumption)]))), trivial⟩, ⟨(leq_is rfl rfl rfl), (leq_is rfl rfl rfl), (leq_is rfl rfl rfl), trivial⟩, ⟨hp_row rfl (by first | rfl | exact pl_yc (by assumption) | exact pl_yl (by assumption) | (rw [pl_n (by assumption)])) (by first | rfl | exact pl_yc (by assumption) | exact pl_yl (by assumption) | (rw [pl_n (by assumption)])), trivial⟩, trivial, rfl, ⟨supg rfl, supg rfl, trivial⟩, ⟨supg rfl, supg rfl, supg rfl, trivial⟩, ⟨suph rfl rfl, trivial⟩, trivial, rfl, rfl⟩
          done)
      · try simp only [Int.toNat_natCast, toNat_add, toNat_add1, decide_eq_true_eq, decide_eq_false_iff_not, Bool.and_eq_true, Bool.or_eq_true, Bool.and_eq_false_iff, Bool.or_eq_false_iff, Bool.not_eq_true', Bool.not_eq_false', Bool.true_eq_false, Bool.false_eq_true, not_true_eq_false, not_false_eq_true, ne_eq] at hb2
        all_goals (
          refine W_skip ?_
          refine blockQ_n ?_
          refine thenQ_n ?_
          refine W_regionE (c := 17) (c' := 20) (by kernel_rfl) rfl ?_
          refine Runs_p rfl (Valid.movek (A := Is _) rfl rfl) rfl rfl ?_ -- ref.go:25 move
          refine Runs_p rfl (Valid.add rfl rfl rfl (room64 (by first | omega | (simp only [Int.toNat_natCast, toNat_add, toNat_add1, List.length_append, List.length_cons, List.length_nil, List.length_replicate]; omega)) (by first | omega | (simp only [Int.toNat_natCast, toNat_add, toNat_add1, List.length_append, List.length_cons, List.length_nil, List.length_replicate]; omega)))) rfl rfl ?_ -- ref.go:25 binOp
          refine Runs_p rfl (Valid.assignk (A := Is _) rfl rfl) rfl rfl ?_ -- ref.go:25 assign
          refine Runs_nil ?_
          refine LoopQ.next (k + 1) [] (by omega) (by omega) ⟨⟨(leq_is rfl rfl (by first | rfl | exact pl_yc (by assumption) | exact pl_yl (by assumption) | (rw [pl_n (by assumption)]))), (leq_own rfl rfl rfl (by first | rfl | exact pl_yc (by assumption) | exact pl_yl (by assumption) | (rw [pl_n (by assumption)])) (by first | rfl | exact pl_yc (by assumption) | exact pl_yl (by assumption) | (rw [pl_n (by assumption)]))), trivial⟩, ⟨(leq_is rfl rfl rfl), (leq_is rfl rfl rfl), (leq_is rfl rfl rfl), trivial⟩, ⟨hp_row rfl (by first | rfl | exact pl_yc (by assumption) | exact pl_yl (by assumption) | (rw [pl_n (by assumption)])) (by first | rfl | exact pl_yc (by assumption) | exact pl_yl (by assumption) | (rw [pl_n (by assumption)])), trivial⟩, trivial, rfl, ⟨supg rfl, supg rfl, trivial⟩, ⟨supg rfl, supg rfl, supg rfl, trivial⟩, ⟨suph rfl rfl, trivial⟩, trivial, rfl, rfl⟩
          done)
      done)
  · try simp only [decide_eq_false_iff_not] at hb1
    all_goals (
      refine W_exit ?_
      refine thenQ_e ?_
      refine loopQ_e ?_
      refine blockQ_x ?_
      refine thenQ_n ?_
      refine W_seq ?_
      refine W_regionE (c := 10) (c' := 12) (by kernel_rfl) rfl ?_
      refine Runs_p rfl (Valid.movek (A := Ab.Own 32 1 _ _) rfl rfl) rfl rfl ?_ -- ref.go:31 move
      refine Runs_p rfl (Valid.assignk (A := Ab.Own 32 1 _ _) rfl rfl) rfl rfl ?_ -- ref.go:31 assign
      refine Runs_nil ?_
      refine thenQ_n ?_
      refine W_ret ?_
      refine finQ_r ?_
      refine ResOk.one rfl (RVal.sl (Reads.own rfl) rfl (by rw [plZ_len, show 8 * s.size = k by omega]) (by rw [plZ, List.map_map, show 8 * s.size = k by omega]; rfl))
      done)

theorem plL_f (s : ByteArray) (f m n : Int) (K : Nat) : plL s f m n K = (plL s 0 m n K).filter fun a : Nat => decide (f ≤ (a : Int)) := by
  unfold plL
  rw [List.filter_filter]
  rfl
theorem first_at {l : List Nat} {f : Int} {k : Nat} (hk : k < l.length) (h : ∀ j, j < k → ((l.getD j 0 : Nat) : Int) < f) (hf : f ≤ ((l.getD k 0 : Nat) : Int)) : ∃ r, l.filter (fun a : Nat => decide (f ≤ (a : Int))) = l.getD k 0 :: r := by
  have e : l = l.take k ++ l.getD k 0 :: l.drop (k + 1) := by
    rw [getD_lt _ _ _ hk, ← List.drop_eq_getElem_cons hk, List.take_append_drop]
  have h0 : (l.take k).filter (fun a : Nat => decide (f ≤ (a : Int))) = [] := by
    rw [List.filter_eq_nil_iff]
    intro a ha
    obtain ⟨j, hj, rfl⟩ := List.mem_iff_getElem.1 ha
    rw [List.length_take] at hj
    have := h j (by omega)
    rw [getD_lt _ _ _ (by omega)] at this
    rw [List.getElem_take]
    simp; omega
  generalize hx : l.getD k 0 = x at *
  refine ⟨(l.drop (k + 1)).filter (fun a : Nat => decide (f ≤ (a : Int))), ?_⟩
  rw [e, List.filter_append, h0, List.nil_append, List.filter_cons_of_pos (by simpa using hf)]
  congr 1
  rw [← e]
theorem first_no {l : List Nat} {f : Int} (h : ∀ j, j < l.length → ((l.getD j 0 : Nat) : Int) < f) : l.filter (fun a : Nat => decide (f ≤ (a : Int))) = [] := by
  rw [List.filter_eq_nil_iff]
  intro a ha
  obtain ⟨j, hj, rfl⟩ := List.mem_iff_getElem.1 ha
  have := h j hj
  rw [getD_lt _ _ _ hj] at this
  simp; omega
theorem findV_at {s : ByteArray} {f m n : Int} {k : Nat} (hk : k < (plZ s 0 m n).length) (h : ∀ j, j < k → (plZ s 0 m n).getD j 0 < f) (hf : f ≤ (plZ s 0 m n).getD k 0) : findV s f m n = (plZ s 0 m n).getD k 0 := by
  have hz : ∀ j, j < (plZ s 0 m n).length → (plZ s 0 m n).getD j 0 = (((plL s 0 m n (8 * s.size)).getD j 0 : Nat) : Int) := fun j hj => by
    have hj' := hj
    rw [plZ_len] at hj'
    rw [getD_lt _ _ _ hj, getD_lt _ _ _ hj']; simp [plZ]
  obtain ⟨r, hr⟩ := first_at (l := plL s 0 m n (8 * s.size)) (k := k) (f := f) (by rw [← plZ_len]; exact hk) (fun j hj => by rw [← hz j (by omega)]; exact h j hj) (by rw [← hz k hk]; exact hf)
  rw [findV, plL_f, hr, hz k hk]
theorem findV_no {s : ByteArray} {f m n : Int} (h : ∀ j, j < (plZ s 0 m n).length → (plZ s 0 m n).getD j 0 < f) : findV s f m n = -1 := by
  have hz : ∀ j, j < (plZ s 0 m n).length → (plZ s 0 m n).getD j 0 = (((plL s 0 m n (8 * s.size)).getD j 0 : Nat) : Int) := fun j hj => by
    have hj' := hj
    rw [plZ_len] at hj'
    rw [getD_lt _ _ _ hj, getD_lt _ _ _ hj']; simp [plZ]
  rw [findV, plL_f, first_no (fun j hj => by
    rw [← plZ_len] at hj
    rw [← hz j hj]; exact h j hj)]

set_option maxRecDepth 100000 in
set_option maxHeartbeats 1000000 in
theorem rfind_s (s : ByteArray) (f : Int) (_hf : -9223372036854775808 ≤ f ∧ f ≤ 9223372036854775807) (m : Int) (hm : 0 ≤ m ∧ m < 18446744073709551616) (n : Int) (hn : -9223372036854775808 ≤ n ∧ n ≤ 9223372036854775807) (hs : s.size ≤ 1000000000000) :
    FPure Try.prog 17 [Is (.string s), Is (.int .i64 f), Is (.int .u64 m), Is (.int .i64 n)] (Is (.int .i64 (findV s f m n))) := by
  refine FPure.of Try.func17 Try.ntmps17 rfl (by kernel_rfl) rfl rfl rfl ?_
  refine W_seq ?_
  refine W_regionE (c := 1) (c' := 2) (by kernel_rfl) rfl ?_
  refine Runs_p rfl (Valid.assignk (A := Is _) rfl rfl) rfl rfl ?_ -- ref.go:35 assign
  refine Runs_nil ?_
  refine thenQ_n ?_
  refine W_seq ?_
  refine W_regionE (c := 2) (c' := 7) (by kernel_rfl) rfl ?_
  refine Runs_p rfl (Valid.movek (A := Is _) rfl rfl) rfl rfl ?_ -- ref.go:36 move
  refine Runs_p rfl (Valid.movek (A := Is _) rfl rfl) rfl rfl ?_ -- ref.go:36 move
  refine Runs_p rfl (Valid.movek (A := Is _) rfl rfl) rfl rfl ?_ -- ref.go:36 move
  refine Runs_p rfl (Valid.call rfl (rall_s _ _ hm _ (by omega) (by omega)) ⟨argle rfl, argle rfl, argle rfl, trivial⟩) rfl rfl ?_ -- ref.go:36 call
  refine Runs_p rfl (Valid.assignk (A := Sl 1 _ _) rfl rfl) rfl rfl ?_ -- ref.go:36 assign
  refine Runs_nil ?_
  refine thenQ_n ?_
  refine W_seq ?_
  refine W_seq ?_
  refine W_regionE (c := 7) (c' := 8) (by kernel_rfl) rfl ?_
  refine Runs_p rfl (Valid.assignk (A := Is _) rfl rfl) rfl rfl ?_ -- ref.go:37 assign
  refine Runs_nil ?_
  refine thenQ_n ?_
  refine W_block ?_
  refine W_loopx (G := Nat) (fun (k : Nat) => k ≤ (plZ s 0 m n).length ∧ ∀ j, j < k → (plZ s 0 m n).getD j 0 < f) [(1, Is _), (9, Sl 1 _ _)] (fun (k : Nat) => [(10, Is (.int .i64 (k : Int)))]) [] (fun (k : Nat) => []) 8 (fun (k : Nat) => (plZ s 0 m n).length - k) (0) [] (⟨by omega, fun j hj => by omega⟩) ⟨⟨(leq_is rfl rfl (by first | rfl | (simp; done) | omega | (simp [toNat_add, toNat_add1, Nat.add_assoc]; done) | (simp [toNat_add, toNat_add1]; omega))), trivial⟩, ⟨(leq_is rfl rfl rfl), (leq_sl (Reads.sl rfl) rfl rfl rfl), trivial⟩, trivial, trivial, rfl, ⟨supg rfl, trivial⟩, ⟨supg rfl, supg rfl, trivial⟩, trivial, trivial, rfl, rfl⟩ ?_
  intro k hI1
  have hzl := plZ_le s 0 m n
  refine W_seq ?_
  refine W_seq ?_
  refine W_regionE (c := 8) (c' := 12) (by kernel_rfl) rfl ?_
  refine Runs_p rfl (Valid.movek (A := Is _) rfl rfl) rfl rfl ?_ -- ref.go:37 move
  refine Runs_p rfl (Valid.movek (A := Sl 1 _ _) rfl rfl) rfl rfl ?_ -- ref.go:37 move
  refine Runs_p rfl (Valid.len rfl Try.underlying25 (Reads.sl rfl)) rfl rfl ?_ -- ref.go:37 call
  refine Runs_p rfl (Valid.lss rfl rfl rfl) rfl rfl ?_ -- ref.go:37 binOp
  refine Runs_nil ?_
  refine thenQ_n ?_
  refine W_cond _ rfl (fun hb1 => ?_) (fun hb1 => ?_)
  · try simp only [decide_eq_true_eq] at hb1
    all_goals (
      refine W_skip ?_
      refine thenQ_n ?_
      refine W_seq ?_
      refine W_block ?_
      refine W_seq ?_
      refine W_regionE (c := 12) (c' := 18) (by kernel_rfl) rfl ?_
      refine Runs_p rfl (Valid.movek (A := Sl 1 _ _) rfl rfl) rfl rfl ?_ -- ref.go:38 move
      refine Runs_p rfl (Valid.movek (A := Is _) rfl rfl) rfl rfl ?_ -- ref.go:38 move
      refine Runs_p rfl (Valid.eltaddr1 0 rfl Try.underlying25 sz3 (Reads.sl rfl) rfl (by first | omega | (simp only [Int.toNat_natCast, toNat_add, toNat_add1, List.length_append, List.length_cons, List.length_nil, List.length_replicate]; omega)) (by first | rfl | simp)) rfl rfl ?_ -- ref.go:38 indexAddr
      refine Runs_p rfl (Valid.loadelt rfl ag3 rfl) rfl rfl ?_ -- ref.go:38 load
      refine Runs_p rfl (Valid.movek (A := Is _) rfl rfl) rfl rfl ?_ -- ref.go:38 move
      refine Runs_p rfl (Valid.geq rfl rfl rfl) rfl rfl ?_ -- ref.go:38 binOp
      refine Runs_nil ?_
      refine thenQ_n ?_
      refine W_cond _ rfl (fun hb2 => ?_) (fun hb2 => ?_)
      · try simp only [Int.toNat_natCast, decide_eq_true_eq] at hb2
        all_goals (
          refine W_seq ?_
          refine W_regionE (c := 18) (c' := 23) (by kernel_rfl) rfl ?_
          refine Runs_p rfl (Valid.movek (A := Sl 1 _ _) rfl rfl) rfl rfl ?_ -- ref.go:39 move
          refine Runs_p rfl (Valid.movek (A := Is _) rfl rfl) rfl rfl ?_ -- ref.go:39 move
          refine Runs_p rfl (Valid.eltaddr1 0 rfl Try.underlying25 sz3 (Reads.sl rfl) rfl (by first | omega | (simp only [Int.toNat_natCast, toNat_add, toNat_add1, List.length_append, List.length_cons, List.length_nil, List.length_replicate]; omega)) (by first | rfl | simp)) rfl rfl ?_ -- ref.go:39 indexAddr
          refine Runs_p rfl (Valid.loadelt rfl ag3 rfl) rfl rfl ?_ -- ref.go:39 load
          refine Runs_p rfl (Valid.assignk (A := Is _) rfl rfl) rfl rfl ?_ -- ref.go:39 assign
          refine Runs_nil ?_
          refine thenQ_n ?_
          refine W_ret ?_
          refine blockQ_r ?_
          refine thenQ_r ?_
          refine loopQ_r ?_
          refine blockQ_r ?_
          refine thenQ_r ?_
          refine finQ_r ?_
          refine ResOk.one rfl (RVal.is rfl rfl (by first | exact congrArg (Value.int .i64) (findV_at (by omega) hI1.2 (by assumption)).symm | exact congrArg (Value.int .i64) (findV_no (fun j hj => hI1.2 j (by omega))).symm))
          done)
      · try simp only [Int.toNat_natCast, decide_eq_false_iff_not] at hb2
        all_goals (
          refine W_skip ?_
          refine blockQ_n ?_
          refine thenQ_n ?_
          refine W_regionE (c := 18) (c' := 21) (by kernel_rfl) rfl ?_
          refine Runs_p rfl (Valid.movek (A := Is _) rfl rfl) rfl rfl ?_ -- ref.go:37 move
          refine Runs_p rfl (Valid.add rfl rfl rfl (room64 (by first | omega | (simp only [Int.toNat_natCast, toNat_add, toNat_add1, List.length_append, List.length_cons, List.length_nil, List.length_replicate]; omega)) (by first | omega | (simp only [Int.toNat_natCast, toNat_add, toNat_add1, List.length_append, List.length_cons, List.length_nil, List.length_replicate]; omega)))) rfl rfl ?_ -- ref.go:37 binOp
          refine Runs_p rfl (Valid.assignk (A := Is _) rfl rfl) rfl rfl ?_ -- ref.go:37 assign
          refine Runs_nil ?_
          refine LoopQ.next (k + 1) [] (⟨by omega, fun j hj => by
            by_cases e : j = k
            · subst e; simpa using hb2
            · exact hI1.2 j (by omega)⟩) (by omega) ⟨⟨(leq_is rfl rfl (by first | rfl | (simp; done) | omega | (simp [toNat_add, toNat_add1, Nat.add_assoc]; done) | (simp [toNat_add, toNat_add1]; omega))), trivial⟩, ⟨(leq_is rfl rfl rfl), (leq_sl (Reads.sl rfl) rfl rfl rfl), trivial⟩, trivial, trivial, rfl, ⟨supg rfl, trivial⟩, ⟨supg rfl, supg rfl, trivial⟩, trivial, trivial, rfl, rfl⟩
          done)
      done)
  · try simp only [decide_eq_false_iff_not] at hb1
    all_goals (
      refine W_exit ?_
      refine thenQ_e ?_
      refine loopQ_e ?_
      refine blockQ_x ?_
      refine thenQ_n ?_
      refine W_seq ?_
      refine W_regionE (c := 12) (c' := 13) (by kernel_rfl) rfl ?_
      refine Runs_p rfl (Valid.assignk (A := Is _) rfl rfl) rfl rfl ?_ -- ref.go:42 assign
      refine Runs_nil ?_
      refine thenQ_n ?_
      refine W_ret ?_
      refine finQ_r ?_
      refine ResOk.one rfl (RVal.is rfl rfl (by first | exact congrArg (Value.int .i64) (findV_at (by omega) hI1.2 (by assumption)).symm | exact congrArg (Value.int .i64) (findV_no (fun j hj => hI1.2 j (by omega))).symm))
      done)
end Mc
end Go.Proofs.Ytabhnnighhglfaa
