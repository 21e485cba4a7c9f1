/-
  WALKS of stage 9: the reference.
-/
import Derived.Test.YtbfigolloaeknaaRows
import Derived.Test.YtbfigolloaeknaaMgc
import Derived.Test.YtbfigolloaeknaaDd
import Derived.Test.YtbfigolloaeknaaDa
import Derived.Test.YtbfigolloaeknaaDb
import Derived.Test.YtbfigolloaeknaaDc
import Derived.Test.YtbfigolloaeknaaDe
import Derived.Test.YtbfigolloaeknaaMha
import Derived.Test.YtbfigolloaeknaaCa
namespace Go.Proofs.Ytbfigolloaeknaa
open Go.RowKit
namespace Df
open Ab Bm Bt Dd Da Db Dc De Bb Ca
theorem ag27 (w : World) : (isAgg 27).run Try.prog w = .ok true w := by kernel_rfl
theorem ag3 (w : World) : (isAgg 3).run Try.prog w = .ok false w := by kernel_rfl
theorem sz27 (w : World) : (sizeOf 27).run Try.prog w = .ok 2 w := by kernel_rfl
theorem sz3 (w : World) : (sizeOf 3).run Try.prog w = .ok 1 w := by kernel_rfl
theorem ti3 : TI Try.prog 3 1 8 := .mk' (z := (Value.int .i64 0)) (by kernel_rfl) rfl
theorem zv27 (w : World) : (zeroValue 27).run Try.prog w = .ok (.agg #[(Value.string ⟨#[]⟩), (Value.int .i64 0)]) w := by kernel_rfl
theorem bit_val (u : UInt8) (j : Nat) (h : j ≤ 7) : Int.fdiv (u.toNat : Int) (2 ^ min j 64) % 2 = (((u.toNat.testBit j).toNat : Nat) : Int) := by
  rw [show min j 64 = j by omega]
  have h1 : ((2 : Int) ^ j) = ((2 ^ j : Nat) : Int) := by simp
  rw [h1, Int.fdiv_eq_ediv_of_nonneg _ (Int.natCast_nonneg _), ← Int.natCast_ediv, Nat.testBit_eq_decide_div_mod_eq]
  generalize u.toNat / 2 ^ j = q
  by_cases h2 : q % 2 = 1
  · rw [decide_eq_true h2]; show (q : Int) % 2 = 1; omega
  · rw [decide_eq_false h2]; show (q : Int) % 2 = 0; omega
theorem bit_at (s : ByteArray) (a : Int) (h0 : 0 ≤ a) : Int.fdiv ((bat s (a / 8)).toNat : Int) (2 ^ min (7 - a % 8).toNat (IntKind.i64.bits)) % 2 = (((Bm.bit s.data.toList a.toNat).toNat : Nat) : Int) := by
  have := bit_val (bat s (a / 8)) (7 - a % 8).toNat (by omega)
  rw [show IntKind.i64.bits = 64 from rfl, this]
  unfold Bm.bit bitAt bat
  rw [show (a / 8).toNat = a.toNat / 8 by omega, show (7 - a % 8).toNat = 7 - a.toNat % 8 by omega]

set_option maxRecDepth 100000 in
set_option maxHeartbeats 1000000 in
theorem bit_s (s : ByteArray) (a : Int) (h0 : 0 ≤ a) (h : a < 8 * s.size) (hs : s.size ≤ 1000000000000) :
    FPure Try.prog 45 [Is (.string s), Is (.int .i64 a)] (Is (.int .i64 ((Bm.bit s.data.toList a.toNat).toNat : Int))) := by
  refine FPure.of Try.func45 Try.ntmps45 rfl (by kernel_rfl) rfl rfl rfl ?_
  refine W_seq ?_
  refine W_regionE (c := 1) (c' := 2) (by kernel_rfl) rfl ?_
  refine Runs_p rfl (Valid.assignk (A := Is _) rfl rfl) rfl rfl ?_ -- ref.go:9 assign
  refine Runs_nil ?_
  refine thenQ_n ?_
  refine W_seq ?_
  refine W_regionE (c := 2) (c' := 13) (by kernel_rfl) rfl ?_
  refine Runs_p rfl (Valid.movek (A := Is _) rfl rfl) rfl rfl ?_ -- ref.go:9 move
  refine Runs_p rfl (Valid.movek (A := Is _) rfl rfl) rfl rfl ?_ -- ref.go:9 move
  refine Runs_p rfl (Valid.quo rfl rfl rfl (by first | omega | (simp only [Int.toNat_natCast, toNat_add, toNat_add1, List.length_append, List.length_cons, List.length_nil, List.length_replicate]; omega)) (by first | omega | (simp only [Int.toNat_natCast, toNat_add, toNat_add1, List.length_append, List.length_cons, List.length_nil, List.length_replicate]; omega)) (room64 (by first | omega | (simp only [Int.toNat_natCast, toNat_add, toNat_add1, List.length_append, List.length_cons, List.length_nil, List.length_replicate]; omega)) (by first | omega | (simp only [Int.toNat_natCast, toNat_add, toNat_add1, List.length_append, List.length_cons, List.length_nil, List.length_replicate]; omega)))) rfl rfl ?_ -- ref.go:9 binOp
  refine Runs_p rfl (Valid.sindex rfl Try.underlying9 rfl rfl (by first | omega | (simp only [Int.toNat_natCast, toNat_add, toNat_add1, List.length_append, List.length_cons, List.length_nil, List.length_replicate]; omega))) rfl rfl ?_ -- ref.go:9 index
  refine Runs_p rfl (Valid.convr rfl rfl Try.underlying5 Try.underlying3 (room64 (by first | omega | (have hbb := (bat s (a / 8)).toNat_lt; omega)) (by first | omega | (have hbb := (bat s (a / 8)).toNat_lt; omega)))) rfl rfl ?_ -- ref.go:9 convert
  refine Runs_p rfl (Valid.movek (A := Is _) rfl rfl) rfl rfl ?_ -- ref.go:9 move
  refine Runs_p rfl (Valid.rem rfl rfl rfl (by first | omega | exact Int.fdiv_nonneg (by omega) (Int.le_of_lt (Int.pow_pos (by omega)))) (by first | omega | exact Int.fdiv_nonneg (by omega) (Int.le_of_lt (Int.pow_pos (by omega))))) rfl rfl ?_ -- ref.go:9 binOp
  refine Runs_p rfl (Valid.sub rfl rfl rfl (room64 (by first | omega | (simp only [Int.toNat_natCast, toNat_add, toNat_add1, List.length_append, List.length_cons, List.length_nil, List.length_replicate]; omega)) (by first | omega | (simp only [Int.toNat_natCast, toNat_add, toNat_add1, List.length_append, List.length_cons, List.length_nil, List.length_replicate]; omega)))) rfl rfl ?_ -- ref.go:9 binOp
  refine Runs_p rfl (Valid.shrw rfl rfl rfl (by first | omega | (simp only [Int.toNat_natCast, toNat_add, toNat_add1, List.length_append, List.length_cons, List.length_nil, List.length_replicate]; omega))) rfl rfl ?_ -- ref.go:9 binOp
  refine Runs_p rfl (Valid.rem rfl rfl rfl (by first | omega | exact Int.fdiv_nonneg (by omega) (Int.le_of_lt (Int.pow_pos (by omega)))) (by first | omega | exact Int.fdiv_nonneg (by omega) (Int.le_of_lt (Int.pow_pos (by omega))))) rfl rfl ?_ -- ref.go:9 binOp
  refine Runs_p rfl (Valid.assignk (A := Is _) rfl rfl) rfl rfl ?_ -- ref.go:9 assign
  refine Runs_nil ?_
  refine thenQ_n ?_
  refine W_ret ?_
  refine finQ_r ?_
  refine ResOk.one rfl (RVal.is rfl rfl (by rw [bit_at s a h0]))

theorem get_step (s : ByteArray) (a k : Nat) (hk : k < 64) : IntKind.u64.wrap (IntKind.u64.wrap (2 * ((val (bitsAt s.data.toList a k) : Nat) : Int)) + (((Bm.bit s.data.toList (a + k)).toNat : Nat) : Int)) = ((val (bitsAt s.data.toList a (k + 1)) : Nat) : Int) := by
  have h1 := val_lt (bitsAt s.data.toList a (k + 1))
  rw [bitsAt_len] at h1
  have h2 : 2 ^ (k + 1) ≤ 2 ^ 64 := Nat.pow_le_pow_right (by omega) (by omega)
  have h3 : val (bitsAt s.data.toList a (k + 1)) = 2 * val (bitsAt s.data.toList a k) + (Bm.bit s.data.toList (a + k)).toNat := by
    unfold bitsAt
    rw [List.range_succ, List.map_append, val_append]
    simp [val]; omega
  rw [h3] at h1 ⊢
  rw [IntKind.wrap_u64, IntKind.wrap_u64]
  omega
theorem val_0 (s : ByteArray) (a : Nat) : val (bitsAt s.data.toList a 0) = 0 := rfl
theorem gv_1 {s : ByteArray} {a n : Int} (h : (n < 0 ∨ 64 < n) ∨ a < 0) : getV s a n = (0, 1) := by
  rw [getV, if_pos]
  rcases h with (h | h) | h
  · rw [decide_eq_false (show ¬ 0 ≤ n by omega)]; rfl
  · rw [decide_eq_false (show ¬ n ≤ 64 by omega)]; simp
  · rw [decide_eq_false (show ¬ 0 ≤ a by omega)]; simp
theorem gv_no {a n : Int} (h : ¬ ((n < 0 ∨ 64 < n) ∨ a < 0)) : ¬ (decide (0 ≤ n) && decide (n ≤ 64) && decide (0 ≤ a)) = false := by
  rw [decide_eq_true (show 0 ≤ n by omega), decide_eq_true (show n ≤ 64 by omega), decide_eq_true (show 0 ≤ a by omega)]; decide
theorem gv_2 {s : ByteArray} {a n : Int} (h : ¬ ((n < 0 ∨ 64 < n) ∨ a < 0)) (h2 : 8 * (s.size : Int) - n < a) : getV s a n = (0, 2) := by
  rw [getV, if_neg (gv_no h), if_neg (by omega)]
theorem gv_0 {s : ByteArray} {a n : Int} (h : ¬ ((n < 0 ∨ 64 < n) ∨ a < 0)) (h2 : ¬ 8 * (s.size : Int) - n < a) {k : Nat} (hk : n.toNat = k) : getV s a n = (((val (bitsAt s.data.toList a.toNat k) : Nat) : Int), 0) := by
  rw [getV, if_neg (gv_no h), if_pos (by omega), hk]

set_option maxRecDepth 100000 in
set_option maxHeartbeats 1000000 in
theorem rget_s (s : ByteArray) (a n : Int) (hs : s.size ≤ 1000000000000) (ha : a ≤ 9223372036854775807) :
    FPure Try.prog 30 [Is (.string s), Is (.int .i64 a), Is (.int .i64 n)] (Tup [Is (.int .u64 (getV s a n).1), Is (.int .i64 (getV s a n).2)]) := by
  refine FPure.of Try.func30 Try.ntmps30 rfl (by kernel_rfl) rfl rfl rfl ?_
  refine W_seq ?_
  refine W_regionE (c := 1) (c' := 3) (by kernel_rfl) rfl ?_
  refine Runs_p rfl (Valid.assignk (A := Is _) rfl rfl) rfl rfl ?_ -- ref.go:88 assign
  refine Runs_p rfl (Valid.assignk (A := Is _) rfl rfl) rfl rfl ?_ -- ref.go:88 assign
  refine Runs_nil ?_
  refine thenQ_n ?_
  refine W_seq ?_
  refine W_seq ?_
  refine W_regionE (c := 3) (c' := 13) (by kernel_rfl) rfl ?_
  refine Runs_p rfl (Valid.movek (A := Is _) rfl rfl) rfl rfl ?_ -- ref.go:89 move
  refine Runs_p rfl (Valid.lss rfl rfl rfl) rfl rfl ?_ -- ref.go:89 binOp
  refine Runs_p rfl (Valid.movek (A := Is _) rfl rfl) rfl rfl ?_ -- ref.go:89 move
  refine Runs_cnd rfl rfl (Grd.is rfl) [] (fun hg => trivial) (fun hg => Valid.movek (A := Is _) rfl rfl) (by rfl) rfl ?_
  refine Runs_cnd rfl rfl (Grd.is rfl) [(13, _)] (fun hg => ⟨cnd_at rfl (by first | exact hg | exact hg.1 | exact hg.1.1 | exact hg.1.1.1), trivial⟩) (fun hg => Valid.gtr rfl rfl rfl) (by rfl) rfl ?_
  refine Runs_p rfl (Valid.pickor rfl rfl rfl rfl (fun h => by first | exact h | exact ⟨hg, h⟩)) rfl rfl ?_ -- ref.go:89 pick
  refine Runs_p rfl (Valid.movek (A := Is _) rfl rfl) rfl rfl ?_ -- ref.go:89 move
  refine Runs_cnd rfl rfl (Grd.is rfl) [] (fun hg => trivial) (fun hg => Valid.movek (A := Is _) rfl rfl) (by rfl) rfl ?_
  refine Runs_cnd rfl rfl (Grd.is rfl) [(17, _)] (fun hg => ⟨cnd_at rfl (by first | exact hg | exact hg.1 | exact hg.1.1 | exact hg.1.1.1), trivial⟩) (fun hg => Valid.lss rfl rfl rfl) (by rfl) rfl ?_
  refine Runs_p rfl (Valid.pickor rfl rfl rfl rfl (fun h => by first | exact h | exact ⟨hg, h⟩)) rfl rfl ?_ -- ref.go:89 pick
  refine Runs_nil ?_
  refine thenQ_n ?_
  refine W_cond _ rfl (fun hb1 => ?_) (fun hb1 => ?_)
  · try simp only [decide_eq_true_eq, Bool.or_eq_true] at hb1
    all_goals (
      refine W_seq ?_
      refine W_regionE (c := 13) (c' := 15) (by kernel_rfl) rfl ?_
      refine Runs_p rfl (Valid.assignk (A := Is _) rfl rfl) rfl rfl ?_ -- ref.go:90 assign
      refine Runs_p rfl (Valid.assignk (A := Is _) rfl rfl) rfl rfl ?_ -- ref.go:90 assign
      refine Runs_nil ?_
      refine thenQ_n ?_
      refine W_ret ?_
      refine thenQ_r ?_
      refine finQ_r ?_
      refine ResOk.two rfl (RVal.is rfl rfl (by first | (rw [gv_1 (by omega)]; done) | (rw [gv_2 (by omega) (by omega)]; done) | (rw [gv_0 (by omega) (by omega) (k := k) (by omega)]))) (RVal.is rfl rfl (by first | (rw [gv_1 (by omega)]; done) | (rw [gv_2 (by omega) (by omega)]; done) | (rw [gv_0 (by omega) (by omega) (k := k) (by omega)])))
      done)
  · try simp only [decide_eq_false_iff_not, Bool.or_eq_false_iff] at hb1
    all_goals (
      refine W_skip ?_
      refine thenQ_n ?_
      refine W_seq ?_
      refine W_seq ?_
      refine W_regionE (c := 13) (c' := 20) (by kernel_rfl) rfl ?_
      refine Runs_p rfl (Valid.movek (A := Is _) rfl rfl) rfl rfl ?_ -- ref.go:92 move
      refine Runs_p rfl (Valid.movek (A := Is _) rfl rfl) rfl rfl ?_ -- ref.go:92 move
      refine Runs_p rfl (Valid.slen rfl Try.underlying9 rfl) rfl rfl ?_ -- ref.go:92 call
      refine Runs_p rfl (Valid.mul rfl rfl rfl (room64 (by first | omega | (simp only [Int.toNat_natCast, toNat_add, toNat_add1, List.length_append, List.length_cons, List.length_nil, List.length_replicate]; omega)) (by first | omega | (simp only [Int.toNat_natCast, toNat_add, toNat_add1, List.length_append, List.length_cons, List.length_nil, List.length_replicate]; omega)))) rfl rfl ?_ -- ref.go:92 binOp
      refine Runs_p rfl (Valid.movek (A := Is _) rfl rfl) rfl rfl ?_ -- ref.go:92 move
      refine Runs_p rfl (Valid.sub rfl rfl rfl (room64 (by first | omega | (simp only [Int.toNat_natCast, toNat_add, toNat_add1, List.length_append, List.length_cons, List.length_nil, List.length_replicate]; omega)) (by first | omega | (simp only [Int.toNat_natCast, toNat_add, toNat_add1, List.length_append, List.length_cons, List.length_nil, List.length_replicate]; omega)))) rfl rfl ?_ -- ref.go:92 binOp
      refine Runs_p rfl (Valid.gtr rfl rfl rfl) rfl rfl ?_ -- ref.go:92 binOp
      refine Runs_nil ?_
      refine thenQ_n ?_
      refine W_cond _ rfl (fun hb2 => ?_) (fun hb2 => ?_)
      · try simp only [decide_eq_true_eq] at hb2
        all_goals (
          refine W_seq ?_
          refine W_regionE (c := 20) (c' := 22) (by kernel_rfl) rfl ?_
          refine Runs_p rfl (Valid.assignk (A := Is _) rfl rfl) rfl rfl ?_ -- ref.go:93 assign
          refine Runs_p rfl (Valid.assignk (A := Is _) rfl rfl) rfl rfl ?_ -- ref.go:93 assign
          refine Runs_nil ?_
          refine thenQ_n ?_
          refine W_ret ?_
          refine thenQ_r ?_
          refine finQ_r ?_
          refine ResOk.two rfl (RVal.is rfl rfl (by first | (rw [gv_1 (by omega)]; done) | (rw [gv_2 (by omega) (by omega)]; done) | (rw [gv_0 (by omega) (by omega) (k := k) (by omega)]))) (RVal.is rfl rfl (by first | (rw [gv_1 (by omega)]; done) | (rw [gv_2 (by omega) (by omega)]; done) | (rw [gv_0 (by omega) (by omega) (k := k) (by omega)])))
          done)
      · try simp only [decide_eq_false_iff_not] at hb2
        all_goals (
          refine W_skip ?_
          refine thenQ_n ?_
          refine W_seq ?_
          refine W_regionE (c := 20) (c' := 21) (by kernel_rfl) rfl ?_
          refine Runs_p rfl (Valid.assignk (A := Is _) rfl rfl) rfl rfl ?_ -- ref.go:95 assign
          refine Runs_nil ?_
          refine thenQ_n ?_
          refine W_seq ?_
          refine W_seq ?_
          refine W_regionE (c := 21) (c' := 22) (by kernel_rfl) rfl ?_
          refine Runs_p rfl (Valid.assignk (A := Is _) rfl rfl) rfl rfl ?_ -- ref.go:96 assign
          refine Runs_nil ?_
          refine thenQ_n ?_
          refine W_block ?_
          refine W_loopx (G := Nat) (fun (k : Nat) => (k : Int) ≤ n) [(0, Is _), (1, Is _), (2, Is _)] (fun (k : Nat) => [(9, Is (.int .i64 (k : Int))), (8, Is (.int .u64 ((val (bitsAt s.data.toList a.toNat k) : Nat) : Int)))]) [] (fun (k : Nat) => []) 22 (fun (k : Nat) => n.toNat - k) (0) [] (by first | trivial | omega | (simp; omega)) ⟨⟨(leq_is rfl rfl (by rfl)), (leq_is rfl rfl (by rfl)), trivial⟩, ⟨(leq_is rfl rfl rfl), (leq_is rfl rfl rfl), (leq_is rfl rfl rfl), trivial⟩, trivial, trivial, rfl, ⟨supg rfl, supg rfl, trivial⟩, ⟨supg rfl, supg rfl, supg rfl, trivial⟩, trivial, trivial, rfl, rfl⟩ ?_
          intro k hI1
          have hbl := Bool.toNat_le (Bm.bit s.data.toList (a + (k : Int)).toNat)
          have hgs := get_step s a.toNat k
          have hak : (a + (k : Int)).toNat = a.toNat + k := by omega
          rw [← hak] at hgs
          refine W_seq ?_
          refine W_seq ?_
          refine W_regionE (c := 22) (c' := 25) (by kernel_rfl) rfl ?_
          refine Runs_p rfl (Valid.movek (A := Is _) rfl rfl) rfl rfl ?_ -- ref.go:96 move
          refine Runs_p rfl (Valid.movek (A := Is _) rfl rfl) rfl rfl ?_ -- ref.go:96 move
          refine Runs_p rfl (Valid.lss rfl rfl rfl) rfl rfl ?_ -- ref.go:96 binOp
          refine Runs_nil ?_
          refine thenQ_n ?_
          refine W_cond _ rfl (fun hb3 => ?_) (fun hb3 => ?_)
          · try simp only [decide_eq_true_eq] at hb3
            all_goals (
              refine W_skip ?_
              refine thenQ_n ?_
              refine W_seq ?_
              refine W_block ?_
              refine W_regionE (c := 25) (c' := 35) (by kernel_rfl) rfl ?_
              refine Runs_p rfl (Valid.movek (A := Is _) rfl rfl) rfl rfl ?_ -- ref.go:97 move
              refine Runs_p rfl (Valid.mulw rfl rfl rfl) rfl rfl ?_ -- ref.go:97 binOp
              refine Runs_p rfl (Valid.movek (A := Is _) rfl rfl) rfl rfl ?_ -- ref.go:97 move
              refine Runs_p rfl (Valid.movek (A := Is _) rfl rfl) rfl rfl ?_ -- ref.go:97 move
              refine Runs_p rfl (Valid.movek (A := Is _) rfl rfl) rfl rfl ?_ -- ref.go:97 move
              refine Runs_p rfl (Valid.add rfl rfl rfl (room64 (by first | omega | (simp only [Int.toNat_natCast, toNat_add, toNat_add1, List.length_append, List.length_cons, List.length_nil, List.length_replicate]; omega)) (by first | omega | (simp only [Int.toNat_natCast, toNat_add, toNat_add1, List.length_append, List.length_cons, List.length_nil, List.length_replicate]; omega)))) rfl rfl ?_ -- ref.go:97 binOp
              refine Runs_p rfl (Valid.call rfl (bit_s _ _ (by omega) (by omega) (by omega)) ⟨argle rfl, argle rfl, trivial⟩) rfl rfl ?_ -- ref.go:97 call
              refine Runs_p rfl (Valid.convr rfl rfl Try.underlying3 Try.underlying47 (by unfold Room; rw [IntKind.wrap_u64]; omega)) rfl rfl ?_ -- ref.go:97 convert
              refine Runs_p rfl (Valid.addw rfl rfl rfl) rfl rfl ?_ -- ref.go:97 binOp
              refine Runs_p rfl (Valid.assignk (A := Is _) rfl rfl) rfl rfl ?_ -- ref.go:97 assign
              refine Runs_nil ?_
              refine blockQ_n ?_
              refine thenQ_n ?_
              refine W_regionE (c := 35) (c' := 38) (by kernel_rfl) rfl ?_
              refine Runs_p rfl (Valid.movek (A := Is _) rfl rfl) rfl rfl ?_ -- ref.go:96 move
              refine Runs_p rfl (Valid.add rfl rfl rfl (room64 (by first | omega | (simp only [Int.toNat_natCast, toNat_add, toNat_add1, List.length_append, List.length_cons, List.length_nil, List.length_replicate]; omega)) (by first | omega | (simp only [Int.toNat_natCast, toNat_add, toNat_add1, List.length_append, List.length_cons, List.length_nil, List.length_replicate]; omega)))) rfl rfl ?_ -- ref.go:96 binOp
              refine Runs_p rfl (Valid.assignk (A := Is _) rfl rfl) rfl rfl ?_ -- ref.go:96 assign
              refine Runs_nil ?_
              refine LoopQ.next (k + 1) [] (by omega) (by omega) ⟨⟨(leq_is rfl rfl (by first | rfl | exact congrArg (Value.int .u64) (hgs (by omega)))), (leq_is rfl rfl (by first | rfl | exact congrArg (Value.int .u64) (hgs (by omega)))), trivial⟩, ⟨(leq_is rfl rfl rfl), (leq_is rfl rfl rfl), (leq_is rfl rfl rfl), trivial⟩, trivial, trivial, rfl, ⟨supg rfl, supg rfl, trivial⟩, ⟨supg rfl, supg rfl, supg rfl, trivial⟩, trivial, trivial, rfl, rfl⟩
              done)
          · try simp only [decide_eq_false_iff_not] at hb3
            all_goals (
              refine W_exit ?_
              refine thenQ_e ?_
              refine loopQ_e ?_
              refine blockQ_x ?_
              refine thenQ_n ?_
              refine W_seq ?_
              refine W_regionE (c := 25) (c' := 28) (by kernel_rfl) rfl ?_
              refine Runs_p rfl (Valid.movek (A := Is _) rfl rfl) rfl rfl ?_ -- ref.go:99 move
              refine Runs_p rfl (Valid.assignk (A := Is _) rfl rfl) rfl rfl ?_ -- ref.go:99 assign
              refine Runs_p rfl (Valid.assignk (A := Is _) rfl rfl) rfl rfl ?_ -- ref.go:99 assign
              refine Runs_nil ?_
              refine thenQ_n ?_
              refine W_ret ?_
              refine finQ_r ?_
              refine ResOk.two rfl (RVal.is rfl rfl (by first | (rw [gv_1 (by omega)]; done) | (rw [gv_2 (by omega) (by omega)]; done) | (rw [gv_0 (by omega) (by omega) (k := k) (by omega)]))) (RVal.is rfl rfl (by first | (rw [gv_1 (by omega)]; done) | (rw [gv_2 (by omega) (by omega)]; done) | (rw [gv_0 (by omega) (by omega) (k := k) (by omega)])))
              done)
          done)
      done)

theorem num_snoc (v n i : Nat) (h : i < n) : (num v n).take (i + 1) = (num v n).take i ++ [v.testBit (n - 1 - i)] := by
  have hn : i < (num v n).length := by rw [num_len]; exact h
  rw [List.take_succ_eq_append_getElem hn]
  rw [List.getElem_of_eq (show num v n = (List.range n).map fun i => v.testBit (n - 1 - i) from rfl) hn, List.getElem_map, List.getElem_range]
theorem bit_u (v j : Nat) (h : j ≤ 64) : Int.fdiv (v : Int) (2 ^ min j 64) % 2 = (((v.testBit j).toNat : Nat) : Int) := by
  rw [show min j 64 = j by omega]
  have h1 : ((2 : Int) ^ j) = ((2 ^ j : Nat) : Int) := by simp
  rw [h1, Int.fdiv_eq_ediv_of_nonneg _ (Int.natCast_nonneg _), ← Int.natCast_ediv, Nat.testBit_eq_decide_div_mod_eq]
  generalize v / 2 ^ j = q
  by_cases h2 : q % 2 = 1
  · rw [decide_eq_true h2]; show (q : Int) % 2 = 1; omega
  · rw [decide_eq_false h2]; show (q : Int) % 2 = 0; omega
theorem num_step {v n k : Nat} (hn : n ≤ 64) (h : 0 ≤ (n : Int) - 1 - (k : Int)) : ((num v n).take k).map bI ++ [Value.int .i64 (Int.fdiv (v : Int) (2 ^ min ((n : Int) - 1 - (k : Int)).toNat 64) % 2)] = ((num v n).take (k + 1)).map bI := by
  rw [num_snoc v n k (by omega), List.map_append, bit_u _ _ (by omega), show ((n : Int) - 1 - (k : Int)).toNat = n - 1 - k by omega]; rfl

set_option maxRecDepth 100000 in
set_option maxHeartbeats 1000000 in
theorem number_m (v n : Nat) (hv : v < 18446744073709551616) (hn : n ≤ 64) :
    FMem Try.prog 23 [Is (.int .u64 (v : Int)), Is (.int .i64 (n : Int))] [] (Ab.Own 8 1 n ((num v n).map bI)) [(8, .row 3 1 n ((num v n).map bI))] := by
  refine FMem.of Try.func23 Try.ntmps23 rfl (by kernel_rfl) rfl rfl rfl ?_
  refine W_seq ?_
  refine W_regionE (c := 1) (c' := 2) (by kernel_rfl) rfl ?_
  refine Runs_p rfl (Valid.assignk (A := Is (.slice none 0 0)) rfl rfl) rfl rfl ?_ -- ref.go:57 assign
  refine Runs_nil ?_
  refine thenQ_n ?_
  refine W_seq ?_
  refine W_regionE (c := 2) (c' := 3) (by kernel_rfl) rfl ?_
  refine Runs_p rfl (Valid.assignk (A := Is (.slice none 0 0)) rfl rfl) rfl rfl ?_ -- ref.go:58 assign
  refine Runs_nil ?_
  refine thenQ_n ?_
  refine W_seq ?_
  refine W_seq ?_
  refine W_regionE (c := 3) (c' := 6) (by kernel_rfl) rfl ?_
  refine Runs_p rfl (Valid.movek (A := Is _) rfl rfl) rfl rfl ?_ -- ref.go:59 move
  refine Runs_p rfl (Valid.sub rfl rfl rfl (room64 (by first | omega | (simp only [Int.toNat_natCast, toNat_add, toNat_add1, List.length_append, List.length_cons, List.length_nil, List.length_replicate]; omega)) (by first | omega | (simp only [Int.toNat_natCast, toNat_add, toNat_add1, List.length_append, List.length_cons, List.length_nil, List.length_replicate]; omega)))) rfl rfl ?_ -- ref.go:59 binOp
  refine Runs_p rfl (Valid.assignk (A := Is _) rfl rfl) rfl rfl ?_ -- ref.go:59 assign
  refine Runs_nil ?_
  refine thenQ_n ?_
  refine W_block ?_
  refine W.ent ?_ (Ent.ownnil 5 3 1 rfl)
  refine W_loopx (G := Nat) (fun (k : Nat) => k ≤ n) [(0, Is _)] (fun (k : Nat) => [(6, Is (.int .i64 ((n : Int) - 1 - (k : Int)))), (5, Ab.Own 48 1 k (((num v n).take k).map bI))]) [] (fun (k : Nat) => [(48, .row 3 1 k (((num v n).take k).map bI))]) 7 (fun (k : Nat) => n - k) (0) [] (by first | trivial | omega | (simp; omega)) ⟨⟨(leq_is rfl rfl (by first | rfl | (refine congrArg (Value.int .i64) ?_; omega))), (leq_own rfl rfl rfl (by first | rfl | (refine congrArg (Value.int .i64) ?_; omega)) (by first | rfl | (refine congrArg (Value.int .i64) ?_; omega))), trivial⟩, ⟨(leq_is rfl rfl rfl), trivial⟩, ⟨hp_row rfl (by first | rfl | (refine congrArg (Value.int .i64) ?_; omega)) (by first | rfl | (refine congrArg (Value.int .i64) ?_; omega)), trivial⟩, trivial, rfl, ⟨supg rfl, supg rfl, trivial⟩, ⟨supg rfl, trivial⟩, ⟨suph rfl rfl, trivial⟩, trivial, rfl, rfl⟩ ?_
  intro k hI1
  refine W_seq ?_
  refine W_seq ?_
  refine W_regionE (c := 7) (c' := 9) (by kernel_rfl) rfl ?_
  refine Runs_p rfl (Valid.movek (A := Is _) rfl rfl) rfl rfl ?_ -- ref.go:59 move
  refine Runs_p rfl (Valid.geq rfl rfl rfl) rfl rfl ?_ -- ref.go:59 binOp
  refine Runs_nil ?_
  refine thenQ_n ?_
  refine W_cond _ rfl (fun hb1 => ?_) (fun hb1 => ?_)
  · try simp only [decide_eq_true_eq] at hb1
    all_goals (
      refine W_skip ?_
      refine thenQ_n ?_
      refine W_seq ?_
      refine W_block ?_
      refine W_regionE (c := 9) (c' := 18) (by kernel_rfl) rfl ?_
      refine Runs_p rfl (Valid.movek (A := Ab.Own 48 1 _ _) rfl rfl) rfl rfl ?_ -- ref.go:60 move
      refine Runs_p rfl (Valid.movek (A := Is _) rfl rfl) rfl rfl ?_ -- ref.go:60 move
      refine Runs_p rfl (Valid.movek (A := Is _) rfl rfl) rfl rfl ?_ -- ref.go:60 move
      refine Runs_p rfl (Valid.shrw rfl rfl rfl (by first | omega | (simp only [Int.toNat_natCast, toNat_add, toNat_add1, List.length_append, List.length_cons, List.length_nil, List.length_replicate]; omega))) rfl rfl ?_ -- ref.go:60 binOp
      refine Runs_p rfl (Valid.rem rfl rfl rfl (by first | omega | exact Int.fdiv_nonneg (by omega) (Int.le_of_lt (Int.pow_pos (by omega)))) (by first | omega | exact Int.fdiv_nonneg (by omega) (Int.le_of_lt (Int.pow_pos (by omega))))) rfl rfl ?_ -- ref.go:60 binOp
      refine Runs_p rfl (Valid.convr rfl rfl Try.underlying47 Try.underlying3 (room64 (by first | omega | (simp only [Int.toNat_natCast, toNat_add, toNat_add1, List.length_append, List.length_cons, List.length_nil, List.length_replicate]; omega)) (by first | omega | (simp only [Int.toNat_natCast, toNat_add, toNat_add1, List.length_append, List.length_cons, List.length_nil, List.length_replicate]; omega)))) rfl rfl ?_ -- ref.go:60 convert
      refine Runs_p rfl (Valid.lit (el := 3) [_] rfl rfl (fun _ => by kernel_rfl) rfl (by decide)) rfl rfl ?_ -- ref.go:60 buildSlice
      refine Runs_w rfl (Valid.app rfl Try.underlying22 ti3 (by decide) rfl rfl (Reads.sl rfl) (by first | exact one_map (fun _ => rfl) | exact one_cons rfl one_nil | exact one_app (one_map (fun _ => rfl)) (one_cons rfl one_nil) | exact one_app (one_map (fun _ => rfl)) (one_map (fun _ => rfl)) | exact one_rep rfl | exact one_app (one_rep rfl) (one_map (fun _ => rfl)) | (intro u hu; simp at hu; rcases hu with rfl | hu <;> first | rfl | (subst hu; rfl))) (by first | (simp only [maxLen]; omega) | (simp only [maxLen, Int.toNat_natCast, toNat_add, toNat_add1, List.length_append, List.length_cons, List.length_nil, List.length_replicate]; omega)) (by first | omega | (simp only [Int.toNat_natCast, toNat_add, toNat_add1, List.length_append, List.length_cons, List.length_nil, List.length_replicate]; omega))) rfl rfl ?_ -- ref.go:60 call
      refine Runs_p rfl (Valid.assignk (A := Ab.Own 128 1 _ _) rfl rfl) rfl rfl ?_ -- ref.go:60 assign
      refine Runs_nil ?_
      refine blockQ_n ?_
      refine thenQ_n ?_
      refine W_regionE (c := 18) (c' := 21) (by kernel_rfl) rfl ?_
      refine Runs_p rfl (Valid.movek (A := Is _) rfl rfl) rfl rfl ?_ -- ref.go:59 move
      refine Runs_p rfl (Valid.sub rfl rfl rfl (room64 (by first | omega | (simp only [Int.toNat_natCast, toNat_add, toNat_add1, List.length_append, List.length_cons, List.length_nil, List.length_replicate]; omega)) (by first | omega | (simp only [Int.toNat_natCast, toNat_add, toNat_add1, List.length_append, List.length_cons, List.length_nil, List.length_replicate]; omega)))) rfl rfl ?_ -- ref.go:59 binOp
      refine Runs_p rfl (Valid.assignk (A := Is _) rfl rfl) rfl rfl ?_ -- ref.go:59 assign
      refine Runs_nil ?_
      refine LoopQ.next (k + 1) [(48, 128)] (by omega) (by omega) ⟨⟨(leq_is rfl rfl (by first | rfl | (refine congrArg (Value.int .i64) ?_; omega) | exact num_step hn (by assumption))), (leq_own rfl rfl rfl (by first | rfl | (refine congrArg (Value.int .i64) ?_; omega) | exact num_step hn (by assumption)) (by first | rfl | (refine congrArg (Value.int .i64) ?_; omega) | exact num_step hn (by assumption))), trivial⟩, ⟨(leq_is rfl rfl rfl), trivial⟩, ⟨hp_row rfl (by first | rfl | (refine congrArg (Value.int .i64) ?_; omega) | exact num_step hn (by assumption)) (by first | rfl | (refine congrArg (Value.int .i64) ?_; omega) | exact num_step hn (by assumption)), trivial⟩, trivial, rfl, ⟨supg rfl, supg rfl, trivial⟩, ⟨supg rfl, trivial⟩, ⟨suph rfl rfl, trivial⟩, trivial, rfl, rfl⟩
      done)
  · try simp only [decide_eq_false_iff_not] at hb1
    all_goals (
      refine W_exit ?_
      refine thenQ_e ?_
      refine loopQ_e ?_
      refine blockQ_x ?_
      refine thenQ_n ?_
      refine W_seq ?_
      refine W_regionE (c := 9) (c' := 11) (by kernel_rfl) rfl ?_
      refine Runs_p rfl (Valid.movek (A := Ab.Own 48 1 _ _) rfl rfl) rfl rfl ?_ -- ref.go:62 move
      refine Runs_p rfl (Valid.assignk (A := Ab.Own 48 1 _ _) rfl rfl) rfl rfl ?_ -- ref.go:62 assign
      refine Runs_nil ?_
      refine thenQ_n ?_
      refine W_ret ?_
      refine finMQ_r ?_
      exact FinM.leq [(8, 48)] (ResOk.one rfl (RVal.tmp (fun _ _ _ h => h))) (leq_own rfl rfl rfl (by first | rfl | omega | (rw [List.take_of_length_le (by rw [num_len]; omega)]; done) | (rw [show k = n by omega, List.take_of_length_le (by rw [num_len]; omega)]; done)) (by first | rfl | omega | (rw [List.take_of_length_le (by rw [num_len]; omega)]; done) | (rw [show k = n by omega, List.take_of_length_le (by rw [num_len]; omega)]; done))) ⟨hp_row rfl (by first | rfl | omega | (rw [List.take_of_length_le (by rw [num_len]; omega)]; done) | (rw [show k = n by omega, List.take_of_length_le (by rw [num_len]; omega)]; done)) (by first | rfl | omega | (rw [List.take_of_length_le (by rw [num_len]; omega)]; done) | (rw [show k = n by omega, List.take_of_length_le (by rw [num_len]; omega)]; done)), trivial⟩ rfl rfl
      done)

theorem number_x (v n : Nat) (x : Int) (hx : x = (v : Int)) (hv : v < 18446744073709551616) (hn : n ≤ 64) : FMem Try.prog 23 [Is (.int .u64 x), Is (.int .i64 (n : Int))] [] (Ab.Own 8 1 n ((num v n).map bI)) [(8, .row 3 1 n ((num v n).map bI))] := by
  subst hx; exact number_m v n hv hn

set_option maxRecDepth 100000 in
set_option maxHeartbeats 1000000 in
theorem rlen_s (s : ByteArray) (hs : s.size ≤ 100000000000) (a0 n0 : Int) (ha0 : 0 ≤ a0 ∧ a0 ≤ 1000000000000) (hn0 : Da.good n0) :
    FPure Try.prog 31 [Is (.string s), Is (.int .i64 a0), Is (.int .i64 n0)] (Tup [Is (.int .i64 (lnV s a0 n0).1), Is (.int .i64 (lnV s a0 n0).2.1), Is (.int .i64 (lnV s a0 n0).2.2)]) := by
  refine FPure.of Try.func31 Try.ntmps31 rfl (by kernel_rfl) rfl rfl rfl ?_
  refine W_seq ?_
  refine W_regionE (c := 1) (c' := 4) (by kernel_rfl) rfl ?_
  refine Runs_p rfl (Valid.assignk (A := Is _) rfl rfl) rfl rfl ?_ -- ref.go:34 assign
  refine Runs_p rfl (Valid.assignk (A := Is _) rfl rfl) rfl rfl ?_ -- ref.go:34 assign
  refine Runs_p rfl (Valid.assignk (A := Is _) rfl rfl) rfl rfl ?_ -- ref.go:34 assign
  refine Runs_nil ?_
  refine thenQ_n ?_
  refine W_seq ?_
  refine W_regionE (c := 4) (c' := 6) (by kernel_rfl) rfl ?_
  refine Runs_p rfl (Valid.movek (A := Is _) rfl rfl) rfl rfl ?_ -- ref.go:35 move
  refine Runs_p rfl (Valid.assignk (A := Is _) rfl rfl) rfl rfl ?_ -- ref.go:35 assign
  refine Runs_nil ?_
  refine thenQ_n ?_
  refine W_seq ?_
  refine W_regionE (c := 6) (c' := 8) (by kernel_rfl) rfl ?_
  refine Runs_p rfl (Valid.movek (A := Is _) rfl rfl) rfl rfl ?_ -- ref.go:36 move
  refine Runs_p rfl (Valid.assignk (A := Is _) rfl rfl) rfl rfl ?_ -- ref.go:36 assign
  refine Runs_nil ?_
  refine thenQ_n ?_
  refine W_block ?_
  refine W_loopx (G := Int × Int) (fun (g_ : Int × Int) => match g_ with | ⟨a, n⟩ => 0 ≤ a ∧ a ≤ 1000000000000 ∧ Da.good n ∧ lnV s a n = lnV s a0 n0) [(0, Is _)] (fun (g_ : Int × Int) => match g_ with | ⟨a, n⟩ => [(9, Is (.int .i64 n)), (10, Is (.int .i64 a))]) [] (fun (g_ : Int × Int) => match g_ with | ⟨a, n⟩ => []) 8 (fun (g_ : Int × Int) => match g_ with | ⟨a, n⟩ => (8 * (s.size : Int) + 2 - a).toNat) (⟨a0, n0⟩) [] (⟨ha0.1, ha0.2, hn0, rfl⟩) ⟨⟨(leq_is rfl rfl (by rfl)), (leq_is rfl rfl (by rfl)), trivial⟩, ⟨(leq_is rfl rfl rfl), trivial⟩, trivial, trivial, rfl, ⟨supg rfl, supg rfl, trivial⟩, ⟨supg rfl, trivial⟩, trivial, trivial, rfl, rfl⟩ ?_
  intro ⟨a, n⟩ hI1
  obtain ⟨hi1, hi2, hi3, hi4⟩ := hI1
  have hng : 1 ≤ n ∧ n ≤ 20 := hi3
  refine W_block ?_
  refine W_seq ?_
  refine W_regionE (c := 8) (c' := 16) (by kernel_rfl) rfl ?_
  refine Runs_p rfl (Valid.movek (A := Is _) rfl rfl) rfl rfl ?_ -- ref.go:37 move
  refine Runs_p rfl (Valid.movek (A := Is _) rfl rfl) rfl rfl ?_ -- ref.go:37 move
  refine Runs_p rfl (Valid.call rfl (rget_s _ _ _ (by omega) (by omega)) ⟨argle rfl, argle rfl, argle rfl, trivial⟩) rfl rfl ?_ -- ref.go:37 call
  refine Runs_p rfl (Valid.movek (A := Tup [Is _, Is _]) rfl rfl) rfl rfl ?_ -- ref.go:37 move
  refine Runs_p rfl (Valid.extract _ rfl rfl rfl) rfl rfl ?_ -- ref.go:37 extract
  refine Runs_p rfl (Valid.extract _ rfl rfl rfl) rfl rfl ?_ -- ref.go:37 extract
  refine Runs_p rfl (Valid.assignk (A := Is _) rfl rfl) rfl rfl ?_ -- ref.go:37 assign
  refine Runs_p rfl (Valid.assignk (A := Is _) rfl rfl) rfl rfl ?_ -- ref.go:37 assign
  refine Runs_nil ?_
  refine thenQ_n ?_
  refine W_seq ?_
  refine W_seq ?_
  refine W_regionE (c := 16) (c' := 18) (by kernel_rfl) rfl ?_
  refine Runs_p rfl (Valid.movek (A := Is _) rfl rfl) rfl rfl ?_ -- ref.go:38 move
  refine Runs_p rfl (Valid.neq rfl rfl rfl) rfl rfl ?_ -- ref.go:38 binOp
  refine Runs_nil ?_
  refine thenQ_n ?_
  refine W_cond _ rfl (fun hb1 => ?_) (fun hb1 => ?_)
  · try simp only [decide_eq_true_eq, ne_eq] at hb1
    all_goals (
      have he1 : ¬ (getV s a 1).2 = 0 := hb1
      refine W_seq ?_
      refine W_regionE (c := 18) (c' := 22) (by kernel_rfl) rfl ?_
      refine Runs_p rfl (Valid.movek (A := Is _) rfl rfl) rfl rfl ?_ -- ref.go:39 move
      refine Runs_p rfl (Valid.assignk (A := Is _) rfl rfl) rfl rfl ?_ -- ref.go:39 assign
      refine Runs_p rfl (Valid.assignk (A := Is _) rfl rfl) rfl rfl ?_ -- ref.go:39 assign
      refine Runs_p rfl (Valid.assignk (A := Is _) rfl rfl) rfl rfl ?_ -- ref.go:39 assign
      refine Runs_nil ?_
      refine thenQ_n ?_
      refine W_ret ?_
      refine thenQ_r ?_
      refine blockQ_r ?_
      refine loopQ_r ?_
      refine blockQ_r ?_
      refine finQ_r ?_
      refine ResOk.three rfl (RVal.is rfl rfl (by first | (rw [← hi4, ln_1 hi1 he1]; done) | (rw [← hi4, ln_2 hz1 hz2]; done) | (rw [← hi4, ln_3 hz1 hn2 he3]; done) | (rw [← hi4, ln_4 hz1 hn2 hz3 (by rw [hst]; unfold Da.good; omega)]; done))) (RVal.is rfl rfl (by first | (rw [← hi4, ln_1 hi1 he1]; done) | (rw [← hi4, ln_2 hz1 hz2]; done) | (rw [← hi4, ln_3 hz1 hn2 he3]; done) | (rw [← hi4, ln_4 hz1 hn2 hz3 (by rw [hst]; unfold Da.good; omega)]; done))) (RVal.is rfl rfl (by first | (rw [← hi4, ln_1 hi1 he1]; done) | (rw [← hi4, ln_2 hz1 hz2]; done) | (rw [← hi4, ln_3 hz1 hn2 he3]; done) | (rw [← hi4, ln_4 hz1 hn2 hz3 (by rw [hst]; unfold Da.good; omega)]; done)))
      done)
  · try simp only [decide_eq_false_iff_not, ne_eq] at hb1
    all_goals (
      have hz1 : (getV s a 1).2 = 0 := by simpa using hb1
      have hge1 := gvE s a 1 hz1
      refine W_skip ?_
      refine thenQ_n ?_
      refine W_seq ?_
      refine W_seq ?_
      refine W_regionE (c := 18) (c' := 20) (by kernel_rfl) rfl ?_
      refine Runs_p rfl (Valid.movek (A := Is _) rfl rfl) rfl rfl ?_ -- ref.go:41 move
      refine Runs_p rfl (Valid.eql rfl rfl rfl) rfl rfl ?_ -- ref.go:41 binOp
      refine Runs_nil ?_
      refine thenQ_n ?_
      refine W_cond _ rfl (fun hb2 => ?_) (fun hb2 => ?_)
      · try simp only [decide_eq_true_eq] at hb2
        all_goals (
          have hz2 : (getV s a 1).1 = 0 := hb2
          refine W_seq ?_
          refine W_regionE (c := 20) (c' := 26) (by kernel_rfl) rfl ?_
          refine Runs_p rfl (Valid.movek (A := Is _) rfl rfl) rfl rfl ?_ -- ref.go:42 move
          refine Runs_p rfl (Valid.movek (A := Is _) rfl rfl) rfl rfl ?_ -- ref.go:42 move
          refine Runs_p rfl (Valid.add rfl rfl rfl (room64 (by first | omega | (simp only [Int.toNat_natCast, toNat_add, toNat_add1, List.length_append, List.length_cons, List.length_nil, List.length_replicate]; omega)) (by first | omega | (simp only [Int.toNat_natCast, toNat_add, toNat_add1, List.length_append, List.length_cons, List.length_nil, List.length_replicate]; omega)))) rfl rfl ?_ -- ref.go:42 binOp
          refine Runs_p rfl (Valid.assignk (A := Is _) rfl rfl) rfl rfl ?_ -- ref.go:42 assign
          refine Runs_p rfl (Valid.assignk (A := Is _) rfl rfl) rfl rfl ?_ -- ref.go:42 assign
          refine Runs_p rfl (Valid.assignk (A := Is _) rfl rfl) rfl rfl ?_ -- ref.go:42 assign
          refine Runs_nil ?_
          refine thenQ_n ?_
          refine W_ret ?_
          refine thenQ_r ?_
          refine blockQ_r ?_
          refine loopQ_r ?_
          refine blockQ_r ?_
          refine finQ_r ?_
          refine ResOk.three rfl (RVal.is rfl rfl (by first | (rw [← hi4, ln_1 hi1 he1]; done) | (rw [← hi4, ln_2 hz1 hz2]; done) | (rw [← hi4, ln_3 hz1 hn2 he3]; done) | (rw [← hi4, ln_4 hz1 hn2 hz3 (by rw [hst]; unfold Da.good; omega)]; done))) (RVal.is rfl rfl (by first | (rw [← hi4, ln_1 hi1 he1]; done) | (rw [← hi4, ln_2 hz1 hz2]; done) | (rw [← hi4, ln_3 hz1 hn2 he3]; done) | (rw [← hi4, ln_4 hz1 hn2 hz3 (by rw [hst]; unfold Da.good; omega)]; done))) (RVal.is rfl rfl (by first | (rw [← hi4, ln_1 hi1 he1]; done) | (rw [← hi4, ln_2 hz1 hz2]; done) | (rw [← hi4, ln_3 hz1 hn2 he3]; done) | (rw [← hi4, ln_4 hz1 hn2 hz3 (by rw [hst]; unfold Da.good; omega)]; done)))
          done)
      · try simp only [decide_eq_false_iff_not] at hb2
        all_goals (
          have hn2 : ¬ (getV s a 1).1 = 0 := hb2
          refine W_skip ?_
          refine thenQ_n ?_
          refine W_seq ?_
          refine W_regionE (c := 20) (c' := 29) (by kernel_rfl) rfl ?_
          refine Runs_p rfl (Valid.movek (A := Is _) rfl rfl) rfl rfl ?_ -- ref.go:44 move
          refine Runs_p rfl (Valid.movek (A := Is _) rfl rfl) rfl rfl ?_ -- ref.go:44 move
          refine Runs_p rfl (Valid.add rfl rfl rfl (room64 (by first | omega | (simp only [Int.toNat_natCast, toNat_add, toNat_add1, List.length_append, List.length_cons, List.length_nil, List.length_replicate]; omega)) (by first | omega | (simp only [Int.toNat_natCast, toNat_add, toNat_add1, List.length_append, List.length_cons, List.length_nil, List.length_replicate]; omega)))) rfl rfl ?_ -- ref.go:44 binOp
          refine Runs_p rfl (Valid.call rfl (rget_s _ _ _ (by omega) (by omega)) ⟨argle rfl, argle rfl, argle rfl, trivial⟩) rfl rfl ?_ -- ref.go:44 call
          refine Runs_p rfl (Valid.movek (A := Tup [Is _, Is _]) rfl rfl) rfl rfl ?_ -- ref.go:44 move
          refine Runs_p rfl (Valid.extract _ rfl rfl rfl) rfl rfl ?_ -- ref.go:44 extract
          refine Runs_p rfl (Valid.extract _ rfl rfl rfl) rfl rfl ?_ -- ref.go:44 extract
          refine Runs_p rfl (Valid.assignk (A := Is _) rfl rfl) rfl rfl ?_ -- ref.go:44 assign
          refine Runs_p rfl (Valid.assignk (A := Is _) rfl rfl) rfl rfl ?_ -- ref.go:44 assign
          refine Runs_nil ?_
          refine thenQ_n ?_
          refine W_seq ?_
          refine W_seq ?_
          refine W_regionE (c := 29) (c' := 31) (by kernel_rfl) rfl ?_
          refine Runs_p rfl (Valid.movek (A := Is _) rfl rfl) rfl rfl ?_ -- ref.go:45 move
          refine Runs_p rfl (Valid.neq rfl rfl rfl) rfl rfl ?_ -- ref.go:45 binOp
          refine Runs_nil ?_
          refine thenQ_n ?_
          refine W_cond _ rfl (fun hb3 => ?_) (fun hb3 => ?_)
          · try simp only [decide_eq_true_eq, ne_eq] at hb3
            all_goals (
              have he3 : ¬ (getV s (a + 1) 1).2 = 0 := hb3
              refine W_seq ?_
              refine W_regionE (c := 31) (c' := 35) (by kernel_rfl) rfl ?_
              refine Runs_p rfl (Valid.movek (A := Is _) rfl rfl) rfl rfl ?_ -- ref.go:46 move
              refine Runs_p rfl (Valid.assignk (A := Is _) rfl rfl) rfl rfl ?_ -- ref.go:46 assign
              refine Runs_p rfl (Valid.assignk (A := Is _) rfl rfl) rfl rfl ?_ -- ref.go:46 assign
              refine Runs_p rfl (Valid.assignk (A := Is _) rfl rfl) rfl rfl ?_ -- ref.go:46 assign
              refine Runs_nil ?_
              refine thenQ_n ?_
              refine W_ret ?_
              refine thenQ_r ?_
              refine blockQ_r ?_
              refine loopQ_r ?_
              refine blockQ_r ?_
              refine finQ_r ?_
              refine ResOk.three rfl (RVal.is rfl rfl (by first | (rw [← hi4, ln_1 hi1 he1]; done) | (rw [← hi4, ln_2 hz1 hz2]; done) | (rw [← hi4, ln_3 hz1 hn2 he3]; done) | (rw [← hi4, ln_4 hz1 hn2 hz3 (by rw [hst]; unfold Da.good; omega)]; done))) (RVal.is rfl rfl (by first | (rw [← hi4, ln_1 hi1 he1]; done) | (rw [← hi4, ln_2 hz1 hz2]; done) | (rw [← hi4, ln_3 hz1 hn2 he3]; done) | (rw [← hi4, ln_4 hz1 hn2 hz3 (by rw [hst]; unfold Da.good; omega)]; done))) (RVal.is rfl rfl (by first | (rw [← hi4, ln_1 hi1 he1]; done) | (rw [← hi4, ln_2 hz1 hz2]; done) | (rw [← hi4, ln_3 hz1 hn2 he3]; done) | (rw [← hi4, ln_4 hz1 hn2 hz3 (by rw [hst]; unfold Da.good; omega)]; done)))
              done)
          · try simp only [decide_eq_false_iff_not, ne_eq] at hb3
            all_goals (
              have hz3 : (getV s (a + 1) 1).2 = 0 := by simpa using hb3
              have hge3 := gvE s (a + 1) 1 hz3
              refine W_skip ?_
              refine thenQ_n ?_
              refine W_seq ?_
              refine W_seq ?_
              refine W_regionE (c := 31) (c' := 33) (by kernel_rfl) rfl ?_
              refine Runs_p rfl (Valid.movek (A := Is _) rfl rfl) rfl rfl ?_ -- ref.go:48 move
              refine Runs_p rfl (Valid.eql rfl rfl rfl) rfl rfl ?_ -- ref.go:48 binOp
              refine Runs_nil ?_
              refine thenQ_n ?_
              refine W_cond _ rfl (fun hb4 => ?_) (fun hb4 => ?_)
              · try simp only [decide_eq_true_eq] at hb4
                all_goals (
                  have hst := st_0 (n := n) hb4
                  refine W_regionE (c := 33) (c' := 36) (by kernel_rfl) rfl ?_
                  refine Runs_p rfl (Valid.movek (A := Is _) rfl rfl) rfl rfl ?_ -- ref.go:49 move
                  refine Runs_p rfl (Valid.add rfl rfl rfl (room64 (by first | omega | (simp only [Int.toNat_natCast, toNat_add, toNat_add1, List.length_append, List.length_cons, List.length_nil, List.length_replicate]; omega)) (by first | omega | (simp only [Int.toNat_natCast, toNat_add, toNat_add1, List.length_append, List.length_cons, List.length_nil, List.length_replicate]; omega)))) rfl rfl ?_ -- ref.go:49 binOp
                  refine Runs_p rfl (Valid.assignk (A := Is _) rfl rfl) rfl rfl ?_ -- ref.go:49 assign
                  refine Runs_nil ?_
                  refine thenQ_n ?_
                  refine W_seq ?_
                  refine W_seq ?_
                  refine W_regionE (c := 36) (c' := 42) (by kernel_rfl) rfl ?_
                  refine Runs_p rfl (Valid.movek (A := Is _) rfl rfl) rfl rfl ?_ -- ref.go:53 move
                  refine Runs_p rfl (Valid.lss rfl rfl rfl) rfl rfl ?_ -- ref.go:53 binOp
                  refine Runs_p rfl (Valid.movek (A := Is _) rfl rfl) rfl rfl ?_ -- ref.go:53 move
                  refine Runs_cnd rfl rfl (Grd.is rfl) [] (fun hg => trivial) (fun hg => Valid.movek (A := Is _) rfl rfl) (by rfl) rfl ?_
                  refine Runs_cnd rfl rfl (Grd.is rfl) [(50, _)] (fun hg => ⟨cnd_at rfl (by first | exact hg | exact hg.1 | exact hg.1.1 | exact hg.1.1.1), trivial⟩) (fun hg => Valid.gtr rfl rfl rfl) (by rfl) rfl ?_
                  refine Runs_p rfl (Valid.pickor rfl rfl rfl rfl (fun h => by first | exact h | exact ⟨hg, h⟩)) rfl rfl ?_ -- ref.go:53 pick
                  refine Runs_nil ?_
                  refine thenQ_n ?_
                  refine W_cond _ rfl (fun hb5 => ?_) (fun hb5 => ?_)
                  · try simp only [decide_eq_true_eq, Bool.or_eq_true] at hb5
                    all_goals (
                      refine W_seq ?_
                      refine W_regionE (c := 42) (c' := 45) (by kernel_rfl) rfl ?_
                      refine Runs_p rfl (Valid.assignk (A := Is _) rfl rfl) rfl rfl ?_ -- ref.go:54 assign
                      refine Runs_p rfl (Valid.assignk (A := Is _) rfl rfl) rfl rfl ?_ -- ref.go:54 assign
                      refine Runs_p rfl (Valid.assignk (A := Is _) rfl rfl) rfl rfl ?_ -- ref.go:54 assign
                      refine Runs_nil ?_
                      refine thenQ_n ?_
                      refine W_ret ?_
                      refine thenQ_r ?_
                      refine blockQ_r ?_
                      refine loopQ_r ?_
                      refine blockQ_r ?_
                      refine finQ_r ?_
                      refine ResOk.three rfl (RVal.is rfl rfl (by first | (rw [← hi4, ln_1 hi1 he1]; done) | (rw [← hi4, ln_2 hz1 hz2]; done) | (rw [← hi4, ln_3 hz1 hn2 he3]; done) | (rw [← hi4, ln_4 hz1 hn2 hz3 (by rw [hst]; unfold Da.good; omega)]; done))) (RVal.is rfl rfl (by first | (rw [← hi4, ln_1 hi1 he1]; done) | (rw [← hi4, ln_2 hz1 hz2]; done) | (rw [← hi4, ln_3 hz1 hn2 he3]; done) | (rw [← hi4, ln_4 hz1 hn2 hz3 (by rw [hst]; unfold Da.good; omega)]; done))) (RVal.is rfl rfl (by first | (rw [← hi4, ln_1 hi1 he1]; done) | (rw [← hi4, ln_2 hz1 hz2]; done) | (rw [← hi4, ln_3 hz1 hn2 he3]; done) | (rw [← hi4, ln_4 hz1 hn2 hz3 (by rw [hst]; unfold Da.good; omega)]; done)))
                      done)
                  · try simp only [decide_eq_false_iff_not, Bool.or_eq_false_iff] at hb5
                    all_goals (
                      refine W_skip ?_
                      refine thenQ_n ?_
                      refine W_regionE (c := 42) (c' := 45) (by kernel_rfl) rfl ?_
                      refine Runs_p rfl (Valid.movek (A := Is _) rfl rfl) rfl rfl ?_ -- ref.go:56 move
                      refine Runs_p rfl (Valid.add rfl rfl rfl (room64 (by first | omega | (simp only [Int.toNat_natCast, toNat_add, toNat_add1, List.length_append, List.length_cons, List.length_nil, List.length_replicate]; omega)) (by first | omega | (simp only [Int.toNat_natCast, toNat_add, toNat_add1, List.length_append, List.length_cons, List.length_nil, List.length_replicate]; omega)))) rfl rfl ?_ -- ref.go:56 binOp
                      refine Runs_p rfl (Valid.assignk (A := Is _) rfl rfl) rfl rfl ?_ -- ref.go:56 assign
                      refine Runs_nil ?_
                      refine blockQ_n ?_
                      refine LoopQ.next (⟨a + 2, n + 1⟩) [] (⟨by omega, by omega, by unfold Da.good; omega, by rw [← hi4, ln_5 hz1 hn2 hz3 (by rw [hst]; unfold Da.good; omega), hst]⟩) (by dsimp only; omega) ⟨⟨(leq_is rfl rfl (by first | rfl | exact congrArg (Value.int .i64) (by omega))), (leq_is rfl rfl (by first | rfl | exact congrArg (Value.int .i64) (by omega))), trivial⟩, ⟨(leq_is rfl rfl rfl), trivial⟩, trivial, trivial, rfl, ⟨supg rfl, supg rfl, trivial⟩, ⟨supg rfl, trivial⟩, trivial, trivial, rfl, rfl⟩
                      done)
                  done)
              · try simp only [decide_eq_false_iff_not] at hb4
                all_goals (
                  have hst := st_1 (n := n) ((gv1 s (a + 1)).resolve_left hb4)
                  refine W_regionE (c := 33) (c' := 36) (by kernel_rfl) rfl ?_
                  refine Runs_p rfl (Valid.movek (A := Is _) rfl rfl) rfl rfl ?_ -- ref.go:51 move
                  refine Runs_p rfl (Valid.sub rfl rfl rfl (room64 (by first | omega | (simp only [Int.toNat_natCast, toNat_add, toNat_add1, List.length_append, List.length_cons, List.length_nil, List.length_replicate]; omega)) (by first | omega | (simp only [Int.toNat_natCast, toNat_add, toNat_add1, List.length_append, List.length_cons, List.length_nil, List.length_replicate]; omega)))) rfl rfl ?_ -- ref.go:51 binOp
                  refine Runs_p rfl (Valid.assignk (A := Is _) rfl rfl) rfl rfl ?_ -- ref.go:51 assign
                  refine Runs_nil ?_
                  refine thenQ_n ?_
                  refine W_seq ?_
                  refine W_seq ?_
                  refine W_regionE (c := 36) (c' := 42) (by kernel_rfl) rfl ?_
                  refine Runs_p rfl (Valid.movek (A := Is _) rfl rfl) rfl rfl ?_ -- ref.go:53 move
                  refine Runs_p rfl (Valid.lss rfl rfl rfl) rfl rfl ?_ -- ref.go:53 binOp
                  refine Runs_p rfl (Valid.movek (A := Is _) rfl rfl) rfl rfl ?_ -- ref.go:53 move
                  refine Runs_cnd rfl rfl (Grd.is rfl) [] (fun hg => trivial) (fun hg => Valid.movek (A := Is _) rfl rfl) (by rfl) rfl ?_
                  refine Runs_cnd rfl rfl (Grd.is rfl) [(50, _)] (fun hg => ⟨cnd_at rfl (by first | exact hg | exact hg.1 | exact hg.1.1 | exact hg.1.1.1), trivial⟩) (fun hg => Valid.gtr rfl rfl rfl) (by rfl) rfl ?_
                  refine Runs_p rfl (Valid.pickor rfl rfl rfl rfl (fun h => by first | exact h | exact ⟨hg, h⟩)) rfl rfl ?_ -- ref.go:53 pick
                  refine Runs_nil ?_
                  refine thenQ_n ?_
                  refine W_cond _ rfl (fun hb6 => ?_) (fun hb6 => ?_)
                  · try simp only [decide_eq_true_eq, Bool.or_eq_true] at hb6
                    all_goals (
                      refine W_seq ?_
                      refine W_regionE (c := 42) (c' := 45) (by kernel_rfl) rfl ?_
                      refine Runs_p rfl (Valid.assignk (A := Is _) rfl rfl) rfl rfl ?_ -- ref.go:54 assign
                      refine Runs_p rfl (Valid.assignk (A := Is _) rfl rfl) rfl rfl ?_ -- ref.go:54 assign
                      refine Runs_p rfl (Valid.assignk (A := Is _) rfl rfl) rfl rfl ?_ -- ref.go:54 assign
                      refine Runs_nil ?_
                      refine thenQ_n ?_
                      refine W_ret ?_
                      refine thenQ_r ?_
                      refine blockQ_r ?_
                      refine loopQ_r ?_
                      refine blockQ_r ?_
                      refine finQ_r ?_
                      refine ResOk.three rfl (RVal.is rfl rfl (by first | (rw [← hi4, ln_1 hi1 he1]; done) | (rw [← hi4, ln_2 hz1 hz2]; done) | (rw [← hi4, ln_3 hz1 hn2 he3]; done) | (rw [← hi4, ln_4 hz1 hn2 hz3 (by rw [hst]; unfold Da.good; omega)]; done))) (RVal.is rfl rfl (by first | (rw [← hi4, ln_1 hi1 he1]; done) | (rw [← hi4, ln_2 hz1 hz2]; done) | (rw [← hi4, ln_3 hz1 hn2 he3]; done) | (rw [← hi4, ln_4 hz1 hn2 hz3 (by rw [hst]; unfold Da.good; omega)]; done))) (RVal.is rfl rfl (by first | (rw [← hi4, ln_1 hi1 he1]; done) | (rw [← hi4, ln_2 hz1 hz2]; done) | (rw [← hi4, ln_3 hz1 hn2 he3]; done) | (rw [← hi4, ln_4 hz1 hn2 hz3 (by rw [hst]; unfold Da.good; omega)]; done)))
                      done)
                  · try simp only [decide_eq_false_iff_not, Bool.or_eq_false_iff] at hb6
                    all_goals (
                      refine W_skip ?_
                      refine thenQ_n ?_
                      refine W_regionE (c := 42) (c' := 45) (by kernel_rfl) rfl ?_
                      refine Runs_p rfl (Valid.movek (A := Is _) rfl rfl) rfl rfl ?_ -- ref.go:56 move
                      refine Runs_p rfl (Valid.add rfl rfl rfl (room64 (by first | omega | (simp only [Int.toNat_natCast, toNat_add, toNat_add1, List.length_append, List.length_cons, List.length_nil, List.length_replicate]; omega)) (by first | omega | (simp only [Int.toNat_natCast, toNat_add, toNat_add1, List.length_append, List.length_cons, List.length_nil, List.length_replicate]; omega)))) rfl rfl ?_ -- ref.go:56 binOp
                      refine Runs_p rfl (Valid.assignk (A := Is _) rfl rfl) rfl rfl ?_ -- ref.go:56 assign
                      refine Runs_nil ?_
                      refine blockQ_n ?_
                      refine LoopQ.next (⟨a + 2, n - 1⟩) [] (⟨by omega, by omega, by unfold Da.good; omega, by rw [← hi4, ln_5 hz1 hn2 hz3 (by rw [hst]; unfold Da.good; omega), hst]⟩) (by dsimp only; omega) ⟨⟨(leq_is rfl rfl (by first | rfl | exact congrArg (Value.int .i64) (by omega))), (leq_is rfl rfl (by first | rfl | exact congrArg (Value.int .i64) (by omega))), trivial⟩, ⟨(leq_is rfl rfl rfl), trivial⟩, trivial, trivial, rfl, ⟨supg rfl, supg rfl, trivial⟩, ⟨supg rfl, trivial⟩, trivial, trivial, rfl, rfl⟩
                      done)
                  done)
              done)
          done)
      done)

set_option maxRecDepth 100000 in
set_option maxHeartbeats 1000000 in
theorem rtake_s (s : ByteArray) (hs : s.size ≤ 100000000000) (a n : Int) (ha : -9223372036854775808 ≤ a ∧ a ≤ 9223372036854775807) (hn : -9223372036854775808 ≤ n ∧ n ≤ 9223372036854775807) :
    FPure Try.prog 15 [Is (.string s), Is (.int .i64 a), Is (.int .i64 n)] (Tup [Sl 1 (takeD s a n).1.length ((takeD s a n).1.map (Value.int .i64)), Is (.int .i64 (takeD s a n).2.1), Is (.int .i64 (takeD s a n).2.2)]) := by
  refine FPure.of Try.func15 Try.ntmps15 rfl (by kernel_rfl) rfl rfl rfl ?_
  refine W_seq ?_
  refine W_regionE (c := 1) (c' := 4) (by kernel_rfl) rfl ?_
  refine Runs_p rfl (Valid.assignk (A := Is (.slice none 0 0)) rfl rfl) rfl rfl ?_ -- ref.go:61 assign
  refine Runs_p rfl (Valid.assignk (A := Is _) rfl rfl) rfl rfl ?_ -- ref.go:61 assign
  refine Runs_p rfl (Valid.assignk (A := Is _) rfl rfl) rfl rfl ?_ -- ref.go:61 assign
  refine Runs_nil ?_
  refine thenQ_n ?_
  refine W_seq ?_
  refine W_seq ?_
  refine W_regionE (c := 4) (c' := 14) (by kernel_rfl) rfl ?_
  refine Runs_p rfl (Valid.movek (A := Is _) rfl rfl) rfl rfl ?_ -- ref.go:62 move
  refine Runs_p rfl (Valid.lss rfl rfl rfl) rfl rfl ?_ -- ref.go:62 binOp
  refine Runs_p rfl (Valid.movek (A := Is _) rfl rfl) rfl rfl ?_ -- ref.go:62 move
  refine Runs_cnd rfl rfl (Grd.is rfl) [] (fun hg => trivial) (fun hg => Valid.movek (A := Is _) rfl rfl) (by rfl) rfl ?_
  refine Runs_cnd rfl rfl (Grd.is rfl) [(21, _)] (fun hg => ⟨cnd_at rfl (by first | exact hg | exact hg.1 | exact hg.1.1 | exact hg.1.1.1), trivial⟩) (fun hg => Valid.lss rfl rfl rfl) (by rfl) rfl ?_
  refine Runs_p rfl (Valid.pickor rfl rfl rfl rfl (fun h => by first | exact h | exact ⟨hg, h⟩)) rfl rfl ?_ -- ref.go:62 pick
  refine Runs_p rfl (Valid.movek (A := Is _) rfl rfl) rfl rfl ?_ -- ref.go:62 move
  refine Runs_cnd rfl rfl (Grd.is rfl) [] (fun hg => trivial) (fun hg => Valid.movek (A := Is _) rfl rfl) (by rfl) rfl ?_
  refine Runs_cnd rfl rfl (Grd.is rfl) [(25, _)] (fun hg => ⟨cnd_at rfl (by first | exact hg | exact hg.1 | exact hg.1.1 | exact hg.1.1.1), trivial⟩) (fun hg => Valid.gtr rfl rfl rfl) (by rfl) rfl ?_
  refine Runs_p rfl (Valid.pickor rfl rfl rfl rfl (fun h => by first | exact h | exact ⟨hg, h⟩)) rfl rfl ?_ -- ref.go:62 pick
  refine Runs_nil ?_
  refine thenQ_n ?_
  refine W_cond _ rfl (fun hb1 => ?_) (fun hb1 => ?_)
  · try simp only [decide_eq_true_eq, Bool.or_eq_true] at hb1
    all_goals (
      have htd := td_1 (s := s) hb1
      refine W_seq ?_
      refine W_regionE (c := 14) (c' := 17) (by kernel_rfl) rfl ?_
      refine Runs_p rfl (Valid.assignk (A := Is (.slice none 0 0)) rfl rfl) rfl rfl ?_ -- ref.go:63 assign
      refine Runs_p rfl (Valid.assignk (A := Is _) rfl rfl) rfl rfl ?_ -- ref.go:63 assign
      refine Runs_p rfl (Valid.assignk (A := Is _) rfl rfl) rfl rfl ?_ -- ref.go:63 assign
      refine Runs_nil ?_
      refine thenQ_n ?_
      refine W_ret ?_
      refine thenQ_r ?_
      refine finQ_r ?_
      refine ResOk.three rfl (RVal.sl (Reads.nil rfl) rfl (by first | (rw [htd]; done) | (rw [htd]; rfl) | (rw [htd, hts.1]; omega) | (rw [htd, show n.toNat = k by omega, hts.1]; done) | (rw [htd, show n.toNat = k by omega]; done) | (rw [htd, show n.toNat = k by omega]; exact congrArg (Value.int .i64) hi3.symm) | (rw [htd, show n.toNat = k by omega, hi3]; done)) (by first | (rw [htd]; done) | (rw [htd]; rfl) | (rw [htd, hts.1]; omega) | (rw [htd, show n.toNat = k by omega, hts.1]; done) | (rw [htd, show n.toNat = k by omega]; done) | (rw [htd, show n.toNat = k by omega]; exact congrArg (Value.int .i64) hi3.symm) | (rw [htd, show n.toNat = k by omega, hi3]; done))) (RVal.is rfl rfl (by first | (rw [htd]; done) | (rw [htd]; rfl) | (rw [htd, hts.1]; omega) | (rw [htd, show n.toNat = k by omega, hts.1]; done) | (rw [htd, show n.toNat = k by omega]; done) | (rw [htd, show n.toNat = k by omega]; exact congrArg (Value.int .i64) hi3.symm) | (rw [htd, show n.toNat = k by omega, hi3]; done))) (RVal.is rfl rfl (by first | (rw [htd]; done) | (rw [htd]; rfl) | (rw [htd, hts.1]; omega) | (rw [htd, show n.toNat = k by omega, hts.1]; done) | (rw [htd, show n.toNat = k by omega]; done) | (rw [htd, show n.toNat = k by omega]; exact congrArg (Value.int .i64) hi3.symm) | (rw [htd, show n.toNat = k by omega, hi3]; done)))
      done)
  · try simp only [decide_eq_false_iff_not, Bool.or_eq_false_iff] at hb1
    all_goals (
      have hgs := gvS s a 5 (by omega)
      refine W_skip ?_
      refine thenQ_n ?_
      refine W_seq ?_
      refine W_regionE (c := 14) (c' := 22) (by kernel_rfl) rfl ?_
      refine Runs_p rfl (Valid.movek (A := Is _) rfl rfl) rfl rfl ?_ -- ref.go:65 move
      refine Runs_p rfl (Valid.movek (A := Is _) rfl rfl) rfl rfl ?_ -- ref.go:65 move
      refine Runs_p rfl (Valid.call rfl (rget_s _ _ _ (by omega) (by omega)) ⟨argle rfl, argle rfl, argle rfl, trivial⟩) rfl rfl ?_ -- ref.go:65 call
      refine Runs_p rfl (Valid.movek (A := Tup [Is _, Is _]) rfl rfl) rfl rfl ?_ -- ref.go:65 move
      refine Runs_p rfl (Valid.extract _ rfl rfl rfl) rfl rfl ?_ -- ref.go:65 extract
      refine Runs_p rfl (Valid.extract _ rfl rfl rfl) rfl rfl ?_ -- ref.go:65 extract
      refine Runs_p rfl (Valid.assignk (A := Is _) rfl rfl) rfl rfl ?_ -- ref.go:65 assign
      refine Runs_p rfl (Valid.assignk (A := Is _) rfl rfl) rfl rfl ?_ -- ref.go:65 assign
      refine Runs_nil ?_
      refine thenQ_n ?_
      refine W_seq ?_
      refine W_seq ?_
      refine W_regionE (c := 22) (c' := 24) (by kernel_rfl) rfl ?_
      refine Runs_p rfl (Valid.movek (A := Is _) rfl rfl) rfl rfl ?_ -- ref.go:66 move
      refine Runs_p rfl (Valid.neq rfl rfl rfl) rfl rfl ?_ -- ref.go:66 binOp
      refine Runs_nil ?_
      refine thenQ_n ?_
      refine W_cond _ rfl (fun hb2 => ?_) (fun hb2 => ?_)
      · try simp only [decide_eq_true_eq, ne_eq] at hb2
        all_goals (
          have he : ¬ (getV s a 5).2 = 0 := hb2
          have htd := td_2 (n := n) (by omega) he
          refine W_seq ?_
          refine W_regionE (c := 24) (c' := 28) (by kernel_rfl) rfl ?_
          refine Runs_p rfl (Valid.movek (A := Is _) rfl rfl) rfl rfl ?_ -- ref.go:67 move
          refine Runs_p rfl (Valid.assignk (A := Is (.slice none 0 0)) rfl rfl) rfl rfl ?_ -- ref.go:67 assign
          refine Runs_p rfl (Valid.assignk (A := Is _) rfl rfl) rfl rfl ?_ -- ref.go:67 assign
          refine Runs_p rfl (Valid.assignk (A := Is _) rfl rfl) rfl rfl ?_ -- ref.go:67 assign
          refine Runs_nil ?_
          refine thenQ_n ?_
          refine W_ret ?_
          refine thenQ_r ?_
          refine finQ_r ?_
          refine ResOk.three rfl (RVal.sl (Reads.nil rfl) rfl (by first | (rw [htd]; done) | (rw [htd]; rfl) | (rw [htd, hts.1]; omega) | (rw [htd, show n.toNat = k by omega, hts.1]; done) | (rw [htd, show n.toNat = k by omega]; done) | (rw [htd, show n.toNat = k by omega]; exact congrArg (Value.int .i64) hi3.symm) | (rw [htd, show n.toNat = k by omega, hi3]; done)) (by first | (rw [htd]; done) | (rw [htd]; rfl) | (rw [htd, hts.1]; omega) | (rw [htd, show n.toNat = k by omega, hts.1]; done) | (rw [htd, show n.toNat = k by omega]; done) | (rw [htd, show n.toNat = k by omega]; exact congrArg (Value.int .i64) hi3.symm) | (rw [htd, show n.toNat = k by omega, hi3]; done))) (RVal.is rfl rfl (by first | (rw [htd]; done) | (rw [htd]; rfl) | (rw [htd, hts.1]; omega) | (rw [htd, show n.toNat = k by omega, hts.1]; done) | (rw [htd, show n.toNat = k by omega]; done) | (rw [htd, show n.toNat = k by omega]; exact congrArg (Value.int .i64) hi3.symm) | (rw [htd, show n.toNat = k by omega, hi3]; done))) (RVal.is rfl rfl (by first | (rw [htd]; done) | (rw [htd]; rfl) | (rw [htd, hts.1]; omega) | (rw [htd, show n.toNat = k by omega, hts.1]; done) | (rw [htd, show n.toNat = k by omega]; done) | (rw [htd, show n.toNat = k by omega]; exact congrArg (Value.int .i64) hi3.symm) | (rw [htd, show n.toNat = k by omega, hi3]; done)))
          done)
      · try simp only [decide_eq_false_iff_not, ne_eq] at hb2
        all_goals (
          have hz : (getV s a 5).2 = 0 := by simpa using hb2
          have hge := gvE s a 5 hz
          refine W_skip ?_
          refine thenQ_n ?_
          refine W_seq ?_
          refine W_regionE (c := 24) (c' := 27) (by kernel_rfl) rfl ?_
          refine Runs_p rfl (Valid.movek (A := Is _) rfl rfl) rfl rfl ?_ -- ref.go:69 move
          refine Runs_p rfl (Valid.convr rfl rfl Try.underlying47 Try.underlying3 (room64 (by first | omega | (simp only [Int.toNat_natCast, toNat_add, toNat_add1, List.length_append, List.length_cons, List.length_nil, List.length_replicate]; omega)) (by first | omega | (simp only [Int.toNat_natCast, toNat_add, toNat_add1, List.length_append, List.length_cons, List.length_nil, List.length_replicate]; omega)))) rfl rfl ?_ -- ref.go:69 convert
          refine Runs_p rfl (Valid.assignk (A := Is _) rfl rfl) rfl rfl ?_ -- ref.go:69 assign
          refine Runs_nil ?_
          refine thenQ_n ?_
          refine W_seq ?_
          refine W_seq ?_
          refine W_regionE (c := 27) (c' := 33) (by kernel_rfl) rfl ?_
          refine Runs_p rfl (Valid.movek (A := Is _) rfl rfl) rfl rfl ?_ -- ref.go:70 move
          refine Runs_p rfl (Valid.lss rfl rfl rfl) rfl rfl ?_ -- ref.go:70 binOp
          refine Runs_p rfl (Valid.movek (A := Is _) rfl rfl) rfl rfl ?_ -- ref.go:70 move
          refine Runs_cnd rfl rfl (Grd.is rfl) [] (fun hg => trivial) (fun hg => Valid.movek (A := Is _) rfl rfl) (by rfl) rfl ?_
          refine Runs_cnd rfl rfl (Grd.is rfl) [(42, _)] (fun hg => ⟨cnd_at rfl (by first | exact hg | exact hg.1 | exact hg.1.1 | exact hg.1.1.1), trivial⟩) (fun hg => Valid.gtr rfl rfl rfl) (by rfl) rfl ?_
          refine Runs_p rfl (Valid.pickor rfl rfl rfl rfl (fun h => by first | exact h | exact ⟨hg, h⟩)) rfl rfl ?_ -- ref.go:70 pick
          refine Runs_nil ?_
          refine thenQ_n ?_
          refine W_cond _ rfl (fun hb3 => ?_) (fun hb3 => ?_)
          · try simp only [decide_eq_true_eq, Bool.or_eq_true] at hb3
            all_goals (
              have htd := td_3 (n := n) (by omega) hz (by unfold Da.good; omega)
              refine W_seq ?_
              refine W_regionE (c := 33) (c' := 36) (by kernel_rfl) rfl ?_
              refine Runs_p rfl (Valid.assignk (A := Is (.slice none 0 0)) rfl rfl) rfl rfl ?_ -- ref.go:71 assign
              refine Runs_p rfl (Valid.assignk (A := Is _) rfl rfl) rfl rfl ?_ -- ref.go:71 assign
              refine Runs_p rfl (Valid.assignk (A := Is _) rfl rfl) rfl rfl ?_ -- ref.go:71 assign
              refine Runs_nil ?_
              refine thenQ_n ?_
              refine W_ret ?_
              refine thenQ_r ?_
              refine finQ_r ?_
              refine ResOk.three rfl (RVal.sl (Reads.nil rfl) rfl (by first | (rw [htd]; done) | (rw [htd]; rfl) | (rw [htd, hts.1]; omega) | (rw [htd, show n.toNat = k by omega, hts.1]; done) | (rw [htd, show n.toNat = k by omega]; done) | (rw [htd, show n.toNat = k by omega]; exact congrArg (Value.int .i64) hi3.symm) | (rw [htd, show n.toNat = k by omega, hi3]; done)) (by first | (rw [htd]; done) | (rw [htd]; rfl) | (rw [htd, hts.1]; omega) | (rw [htd, show n.toNat = k by omega, hts.1]; done) | (rw [htd, show n.toNat = k by omega]; done) | (rw [htd, show n.toNat = k by omega]; exact congrArg (Value.int .i64) hi3.symm) | (rw [htd, show n.toNat = k by omega, hi3]; done))) (RVal.is rfl rfl (by first | (rw [htd]; done) | (rw [htd]; rfl) | (rw [htd, hts.1]; omega) | (rw [htd, show n.toNat = k by omega, hts.1]; done) | (rw [htd, show n.toNat = k by omega]; done) | (rw [htd, show n.toNat = k by omega]; exact congrArg (Value.int .i64) hi3.symm) | (rw [htd, show n.toNat = k by omega, hi3]; done))) (RVal.is rfl rfl (by first | (rw [htd]; done) | (rw [htd]; rfl) | (rw [htd, hts.1]; omega) | (rw [htd, show n.toNat = k by omega, hts.1]; done) | (rw [htd, show n.toNat = k by omega]; done) | (rw [htd, show n.toNat = k by omega]; exact congrArg (Value.int .i64) hi3.symm) | (rw [htd, show n.toNat = k by omega, hi3]; done)))
              done)
          · try simp only [decide_eq_false_iff_not, Bool.or_eq_false_iff] at hb3
            all_goals (
              have hg : Da.good (getV s a 5).1 := by unfold Da.good; omega
              have htd0 := td_4 (n := n) (by omega) hz hg
              refine W_skip ?_
              refine thenQ_n ?_
              refine W_seq ?_
              refine W_regionE (c := 33) (c' := 36) (by kernel_rfl) rfl ?_
              refine Runs_p rfl (Valid.movek (A := Is _) rfl rfl) rfl rfl ?_ -- ref.go:73 move
              refine Runs_p rfl (Valid.add rfl rfl rfl (room64 (by first | omega | (simp only [Int.toNat_natCast, toNat_add, toNat_add1, List.length_append, List.length_cons, List.length_nil, List.length_replicate]; omega)) (by first | omega | (simp only [Int.toNat_natCast, toNat_add, toNat_add1, List.length_append, List.length_cons, List.length_nil, List.length_replicate]; omega)))) rfl rfl ?_ -- ref.go:73 binOp
              refine Runs_p rfl (Valid.assignk (A := Is _) rfl rfl) rfl rfl ?_ -- ref.go:73 assign
              refine Runs_nil ?_
              refine thenQ_n ?_
              refine W_seq ?_
              refine W_regionE (c := 36) (c' := 37) (by kernel_rfl) rfl ?_
              refine Runs_p rfl (Valid.assignk (A := Is (.slice none 0 0)) rfl rfl) rfl rfl ?_ -- ref.go:74 assign
              refine Runs_nil ?_
              refine thenQ_n ?_
              refine W_seq ?_
              refine W_seq ?_
              refine W_regionE (c := 37) (c' := 38) (by kernel_rfl) rfl ?_
              refine Runs_p rfl (Valid.assignk (A := Is _) rfl rfl) rfl rfl ?_ -- ref.go:75 assign
              refine Runs_nil ?_
              refine thenQ_n ?_
              refine W_block ?_
              refine W.ent ?_ (Ent.ownnil 13 3 1 rfl)
              refine W_loopx (G := Nat) (fun (k : Nat) => (k : Int) ≤ n ∧ (tsk s (getV s a 5).1 (a + 5) k).2.2.2 = 0) [(0, Is _), (2, Is _)] (fun (k : Nat) => [(14, Is (.int .i64 (k : Int))), (11, Is (.int .i64 (tsk s (getV s a 5).1 (a + 5) k).2.1)), (12, Is (.int .i64 (tsk s (getV s a 5).1 (a + 5) k).2.2.1)), (13, Ab.Own 304 1 k ((tsk s (getV s a 5).1 (a + 5) k).1.map (Value.int .i64)))]) [] (fun (k : Nat) => [(304, .row 3 1 k ((tsk s (getV s a 5).1 (a + 5) k).1.map (Value.int .i64)))]) 39 (fun (k : Nat) => n.toNat - k) (0) [] (⟨by omega, rfl⟩) ⟨⟨(leq_is rfl rfl (by first | rfl)), (leq_is rfl rfl (by first | rfl)), (leq_is rfl rfl (by first | rfl)), (leq_own rfl rfl rfl (by first | rfl) (by first | rfl)), trivial⟩, ⟨(leq_is rfl rfl rfl), (leq_is rfl rfl rfl), trivial⟩, ⟨hp_row rfl (by first | rfl) (by first | rfl), trivial⟩, trivial, rfl, ⟨supg rfl, supg rfl, supg rfl, supg rfl, trivial⟩, ⟨supg rfl, supg rfl, trivial⟩, ⟨suph rfl rfl, trivial⟩, trivial, rfl, rfl⟩ ?_
              intro k hI1
              obtain ⟨hi2, hi3⟩ := hI1
              have hts := ts_in (s := s) (v := (getV s a 5).1) (a := a + 5) (by omega) hg k hi3
              refine W_seq ?_
              refine W_seq ?_
              refine W_regionE (c := 39) (c' := 42) (by kernel_rfl) rfl ?_
              refine Runs_p rfl (Valid.movek (A := Is _) rfl rfl) rfl rfl ?_ -- ref.go:75 move
              refine Runs_p rfl (Valid.movek (A := Is _) rfl rfl) rfl rfl ?_ -- ref.go:75 move
              refine Runs_p rfl (Valid.lss rfl rfl rfl) rfl rfl ?_ -- ref.go:75 binOp
              refine Runs_nil ?_
              refine thenQ_n ?_
              refine W_cond _ rfl (fun hb4 => ?_) (fun hb4 => ?_)
              · try simp only [decide_eq_true_eq] at hb4
                all_goals (
                  refine W_skip ?_
                  refine thenQ_n ?_
                  refine W_seq ?_
                  refine W_block ?_
                  refine W_seq ?_
                  refine W_regionE (c := 42) (c' := 53) (by kernel_rfl) rfl ?_
                  refine Runs_p rfl (Valid.movek (A := Is _) rfl rfl) rfl rfl ?_ -- ref.go:76 move
                  refine Runs_p rfl (Valid.movek (A := Is _) rfl rfl) rfl rfl ?_ -- ref.go:76 move
                  refine Runs_p rfl (Valid.movek (A := Is _) rfl rfl) rfl rfl ?_ -- ref.go:76 move
                  refine Runs_p rfl (Valid.call rfl (rlen_s s (by omega) _ _ (by omega) hts.2.1) ⟨argle rfl, argle rfl, argle rfl, trivial⟩) rfl rfl ?_ -- ref.go:76 call
                  refine Runs_p rfl (Valid.movek (A := Tup [Is _, Is _, Is _]) rfl rfl) rfl rfl ?_ -- ref.go:76 move
                  refine Runs_p rfl (Valid.extract _ rfl rfl rfl) rfl rfl ?_ -- ref.go:76 extract
                  refine Runs_p rfl (Valid.extract _ rfl rfl rfl) rfl rfl ?_ -- ref.go:76 extract
                  refine Runs_p rfl (Valid.extract _ rfl rfl rfl) rfl rfl ?_ -- ref.go:76 extract
                  refine Runs_p rfl (Valid.assignk (A := Is _) rfl rfl) rfl rfl ?_ -- ref.go:76 assign
                  refine Runs_p rfl (Valid.assignk (A := Is _) rfl rfl) rfl rfl ?_ -- ref.go:76 assign
                  refine Runs_p rfl (Valid.assignk (A := Is _) rfl rfl) rfl rfl ?_ -- ref.go:76 assign
                  refine Runs_nil ?_
                  refine thenQ_n ?_
                  refine W_seq ?_
                  refine W_seq ?_
                  refine W_regionE (c := 53) (c' := 55) (by kernel_rfl) rfl ?_
                  refine Runs_p rfl (Valid.movek (A := Is _) rfl rfl) rfl rfl ?_ -- ref.go:77 move
                  refine Runs_p rfl (Valid.neq rfl rfl rfl) rfl rfl ?_ -- ref.go:77 binOp
                  refine Runs_nil ?_
                  refine thenQ_n ?_
                  refine W_cond _ rfl (fun hb5 => ?_) (fun hb5 => ?_)
                  · try simp only [decide_eq_true_eq, ne_eq] at hb5
                    all_goals (
                      have hln : ¬ (lnV s (tsk s (getV s a 5).1 (a + 5) k).2.2.1 (tsk s (getV s a 5).1 (a + 5) k).2.1).2.2 = 0 := hb5
                      have hte := ts_err (n := n.toNat) (by omega) hi3 hln
                      have htd := htd0
                      rw [hte] at htd
                      refine W_seq ?_
                      refine W_regionE (c := 55) (c' := 59) (by kernel_rfl) rfl ?_
                      refine Runs_p rfl (Valid.movek (A := Is _) rfl rfl) rfl rfl ?_ -- ref.go:78 move
                      refine Runs_p rfl (Valid.assignk (A := Is (.slice none 0 0)) rfl rfl) rfl rfl ?_ -- ref.go:78 assign
                      refine Runs_p rfl (Valid.assignk (A := Is _) rfl rfl) rfl rfl ?_ -- ref.go:78 assign
                      refine Runs_p rfl (Valid.assignk (A := Is _) rfl rfl) rfl rfl ?_ -- ref.go:78 assign
                      refine Runs_nil ?_
                      refine thenQ_n ?_
                      refine W_ret ?_
                      refine thenQ_r ?_
                      refine blockQ_r ?_
                      refine thenQ_r ?_
                      refine loopQ_r ?_
                      refine blockQ_r ?_
                      refine thenQ_r ?_
                      refine finQ_r ?_
                      refine ResOk.three rfl (RVal.sl (Reads.nil rfl) rfl (by first | (rw [htd]; done) | (rw [htd]; rfl) | (rw [htd, hts.1]; omega) | (rw [htd, show n.toNat = k by omega, hts.1]; done) | (rw [htd, show n.toNat = k by omega]; done) | (rw [htd, show n.toNat = k by omega]; exact congrArg (Value.int .i64) hi3.symm) | (rw [htd, show n.toNat = k by omega, hi3]; done)) (by first | (rw [htd]; done) | (rw [htd]; rfl) | (rw [htd, hts.1]; omega) | (rw [htd, show n.toNat = k by omega, hts.1]; done) | (rw [htd, show n.toNat = k by omega]; done) | (rw [htd, show n.toNat = k by omega]; exact congrArg (Value.int .i64) hi3.symm) | (rw [htd, show n.toNat = k by omega, hi3]; done))) (RVal.is rfl rfl (by first | (rw [htd]; done) | (rw [htd]; rfl) | (rw [htd, hts.1]; omega) | (rw [htd, show n.toNat = k by omega, hts.1]; done) | (rw [htd, show n.toNat = k by omega]; done) | (rw [htd, show n.toNat = k by omega]; exact congrArg (Value.int .i64) hi3.symm) | (rw [htd, show n.toNat = k by omega, hi3]; done))) (RVal.is rfl rfl (by first | (rw [htd]; done) | (rw [htd]; rfl) | (rw [htd, hts.1]; omega) | (rw [htd, show n.toNat = k by omega, hts.1]; done) | (rw [htd, show n.toNat = k by omega]; done) | (rw [htd, show n.toNat = k by omega]; exact congrArg (Value.int .i64) hi3.symm) | (rw [htd, show n.toNat = k by omega, hi3]; done)))
                      done)
                  · try simp only [decide_eq_false_iff_not, ne_eq] at hb5
                    all_goals (
                      have hln : (lnV s (tsk s (getV s a 5).1 (a + 5) k).2.2.1 (tsk s (getV s a 5).1 (a + 5) k).2.1).2.2 = 0 := by simpa using hb5
                      have hst := ts_s hi3 hln
                      refine W_skip ?_
                      refine thenQ_n ?_
                      refine W_seq ?_
                      refine W_regionE (c := 55) (c' := 57) (by kernel_rfl) rfl ?_
                      refine Runs_p rfl (Valid.movek (A := Is _) rfl rfl) rfl rfl ?_ -- ref.go:80 move
                      refine Runs_p rfl (Valid.assignk (A := Is _) rfl rfl) rfl rfl ?_ -- ref.go:80 assign
                      refine Runs_nil ?_
                      refine thenQ_n ?_
                      refine W_seq ?_
                      refine W_regionE (c := 57) (c' := 59) (by kernel_rfl) rfl ?_
                      refine Runs_p rfl (Valid.movek (A := Is _) rfl rfl) rfl rfl ?_ -- ref.go:81 move
                      refine Runs_p rfl (Valid.assignk (A := Is _) rfl rfl) rfl rfl ?_ -- ref.go:81 assign
                      refine Runs_nil ?_
                      refine thenQ_n ?_
                      refine W_regionE (c := 59) (c' := 64) (by kernel_rfl) rfl ?_
                      refine Runs_p rfl (Valid.movek (A := Ab.Own 304 1 _ _) rfl rfl) rfl rfl ?_ -- ref.go:82 move
                      refine Runs_p rfl (Valid.movek (A := Is _) rfl rfl) rfl rfl ?_ -- ref.go:82 move
                      refine Runs_p rfl (Valid.lit (el := 3) [_] rfl rfl (fun _ => by kernel_rfl) rfl (by decide)) rfl rfl ?_ -- ref.go:82 buildSlice
                      refine Runs_w rfl (Valid.app rfl Try.underlying22 ti3 (by decide) rfl rfl (Reads.sl rfl) (by first | exact one_map (fun _ => rfl) | exact one_cons rfl one_nil | exact one_app (one_map (fun _ => rfl)) (one_cons rfl one_nil) | exact one_app (one_map (fun _ => rfl)) (one_map (fun _ => rfl)) | exact one_rep rfl | exact one_app (one_rep rfl) (one_map (fun _ => rfl)) | (intro u hu; simp at hu; rcases hu with rfl | hu <;> first | rfl | (subst hu; rfl))) (by first | (simp only [maxLen]; omega) | (simp only [maxLen, Int.toNat_natCast, toNat_add, toNat_add1, List.length_append, List.length_cons, List.length_nil, List.length_replicate]; omega)) (by first | omega | (simp only [Int.toNat_natCast, toNat_add, toNat_add1, List.length_append, List.length_cons, List.length_nil, List.length_replicate]; omega))) rfl rfl ?_ -- ref.go:82 call
                      refine Runs_p rfl (Valid.assignk (A := Ab.Own 496 1 _ _) rfl rfl) rfl rfl ?_ -- ref.go:82 assign
                      refine Runs_nil ?_
                      refine blockQ_n ?_
                      refine thenQ_n ?_
                      refine W_regionE (c := 64) (c' := 67) (by kernel_rfl) rfl ?_
                      refine Runs_p rfl (Valid.movek (A := Is _) rfl rfl) rfl rfl ?_ -- ref.go:75 move
                      refine Runs_p rfl (Valid.add rfl rfl rfl (room64 (by first | omega | (simp only [Int.toNat_natCast, toNat_add, toNat_add1, List.length_append, List.length_cons, List.length_nil, List.length_replicate]; omega)) (by first | omega | (simp only [Int.toNat_natCast, toNat_add, toNat_add1, List.length_append, List.length_cons, List.length_nil, List.length_replicate]; omega)))) rfl rfl ?_ -- ref.go:75 binOp
                      refine Runs_p rfl (Valid.assignk (A := Is _) rfl rfl) rfl rfl ?_ -- ref.go:75 assign
                      refine Runs_nil ?_
                      refine LoopQ.next (k + 1) [(304, 496)] (⟨by omega, by rw [hst]⟩) (by omega) ⟨⟨(leq_is rfl rfl (by first | rfl | (rw [hst]; done) | (rw [hst]; rfl) | (rw [hst]; simp; done))), (leq_is rfl rfl (by first | rfl | (rw [hst]; done) | (rw [hst]; rfl) | (rw [hst]; simp; done))), (leq_is rfl rfl (by first | rfl | (rw [hst]; done) | (rw [hst]; rfl) | (rw [hst]; simp; done))), (leq_own rfl rfl rfl (by first | rfl | (rw [hst]; done) | (rw [hst]; rfl) | (rw [hst]; simp; done)) (by first | rfl | (rw [hst]; done) | (rw [hst]; rfl) | (rw [hst]; simp; done))), trivial⟩, ⟨(leq_is rfl rfl rfl), (leq_is rfl rfl rfl), trivial⟩, ⟨hp_row rfl (by first | rfl | (rw [hst]; done) | (rw [hst]; rfl) | (rw [hst]; simp; done)) (by first | rfl | (rw [hst]; done) | (rw [hst]; rfl) | (rw [hst]; simp; done)), trivial⟩, trivial, rfl, ⟨supg rfl, supg rfl, supg rfl, supg rfl, trivial⟩, ⟨supg rfl, supg rfl, trivial⟩, ⟨suph rfl rfl, trivial⟩, trivial, rfl, rfl⟩
                      done)
                  done)
              · try simp only [decide_eq_false_iff_not] at hb4
                all_goals (
                  refine W_exit ?_
                  refine thenQ_e ?_
                  refine loopQ_e ?_
                  refine blockQ_x ?_
                  refine thenQ_n ?_
                  refine W_seq ?_
                  have htd := htd0
                  refine W_regionE (c := 42) (c' := 47) (by kernel_rfl) rfl ?_
                  refine Runs_p rfl (Valid.movek (A := Ab.Own 304 1 _ _) rfl rfl) rfl rfl ?_ -- ref.go:84 move
                  refine Runs_p rfl (Valid.movek (A := Is _) rfl rfl) rfl rfl ?_ -- ref.go:84 move
                  refine Runs_p rfl (Valid.assignk (A := Ab.Own 304 1 _ _) rfl rfl) rfl rfl ?_ -- ref.go:84 assign
                  refine Runs_p rfl (Valid.assignk (A := Is _) rfl rfl) rfl rfl ?_ -- ref.go:84 assign
                  refine Runs_p rfl (Valid.assignk (A := Is _) rfl rfl) rfl rfl ?_ -- ref.go:84 assign
                  refine Runs_nil ?_
                  refine thenQ_n ?_
                  refine W_ret ?_
                  refine finQ_r ?_
                  refine ResOk.three rfl (RVal.sl (Reads.own rfl) rfl (by first | (rw [htd]; done) | (rw [htd]; rfl) | (rw [htd, hts.1]; omega) | (rw [htd, show n.toNat = k by omega, hts.1]; done) | (rw [htd, show n.toNat = k by omega]; done) | (rw [htd, show n.toNat = k by omega]; exact congrArg (Value.int .i64) hi3.symm) | (rw [htd, show n.toNat = k by omega, hi3]; done)) (by first | (rw [htd]; done) | (rw [htd]; rfl) | (rw [htd, hts.1]; omega) | (rw [htd, show n.toNat = k by omega, hts.1]; done) | (rw [htd, show n.toNat = k by omega]; done) | (rw [htd, show n.toNat = k by omega]; exact congrArg (Value.int .i64) hi3.symm) | (rw [htd, show n.toNat = k by omega, hi3]; done))) (RVal.is rfl rfl (by first | (rw [htd]; done) | (rw [htd]; rfl) | (rw [htd, hts.1]; omega) | (rw [htd, show n.toNat = k by omega, hts.1]; done) | (rw [htd, show n.toNat = k by omega]; done) | (rw [htd, show n.toNat = k by omega]; exact congrArg (Value.int .i64) hi3.symm) | (rw [htd, show n.toNat = k by omega, hi3]; done))) (RVal.is rfl rfl (by first | (rw [htd]; done) | (rw [htd]; rfl) | (rw [htd, hts.1]; omega) | (rw [htd, show n.toNat = k by omega, hts.1]; done) | (rw [htd, show n.toNat = k by omega]; done) | (rw [htd, show n.toNat = k by omega]; exact congrArg (Value.int .i64) hi3.symm) | (rw [htd, show n.toNat = k by omega, hi3]; done)))
                  done)
              done)
          done)
      done)

theorem fl_last (l : List Int) (i : Nat) : ((dps l i).flatten ++ chg (l.getD i 0 - l.getD (i - 1) 0).toNat false ++ chg (l.getD (i - 1) 0 - l.getD i 0).toNat true).map bI ++ [Value.int .i64 0] = ((dps l (i + 1)).flatten).map bI := by
  rw [dps_s, List.flatten_append, chgB]
  simp only [List.flatten_cons, List.flatten_nil, List.append_nil, List.map_append, List.append_assoc]
  rfl
theorem fl_f (b : List Bool) (m : Nat) : (b ++ chg m false).map bI ++ [Value.int .i64 1, Value.int .i64 0] = (b ++ chg (m + 1) false).map bI := by
  rw [chg_s]; simp only [List.map_append, List.append_assoc]; rfl
theorem fl_t (b : List Bool) (m : Nat) : (b ++ chg m true).map bI ++ [Value.int .i64 1, Value.int .i64 1] = (b ++ chg (m + 1) true).map bI := by
  rw [chg_s]; simp only [List.map_append, List.append_assoc]; rfl
def bl (b : List Bool) : Nat := b.length
theorem bl_a (a b : List Bool) : bl (a ++ b) = bl a + bl b := List.length_append
theorem bl_c (n : Nat) (x : Bool) : bl (chg n x) = 2 * n := chg_len x n
theorem bl_l (l : List Int) (i : Nat) : bl ((dps l (i + 1)).flatten) = bl ((dps l i).flatten) + 2 * (l.getD i 0 - l.getD (i - 1) 0).toNat + 2 * (l.getD (i - 1) 0 - l.getD i 0).toNat + 1 := by
  rw [dps_s, List.flatten_append, bl_a]
  show _ + bl (chgB _ _ ++ []) = _
  rw [List.append_nil]
  have := chgB_len (l.getD (i - 1) 0) (l.getD i 0)
  unfold bl at *
  omega

set_option maxRecDepth 100000 in
set_option maxHeartbeats 1000000 in
theorem rput_s (l : List Int) (hl : l.length ≤ 9223372036854775807) :
    FPure Try.prog 12 [Sl 1 l.length (l.map (Value.int .i64))] (Tup [Agg [Is (.string (putD l).1.1), Is (.int .i64 (putD l).1.2)], Is (.int .i64 (putD l).2)]) := by
  refine FPure.of Try.func12 Try.ntmps12 rfl (by kernel_rfl) rfl rfl rfl ?_
  refine W_seq ?_
  refine W_regionE (c := 1) (c' := 3) (by kernel_rfl) rfl ?_
  refine Runs_w rfl (Valid.alloc [(Value.string ⟨#[]⟩), (Value.int .i64 0)] rfl zv27 rfl) rfl rfl ?_ -- ref.go:10 alloc
  refine Runs_p rfl (Valid.assignk (A := Is _) rfl rfl) rfl rfl ?_ -- ref.go:10 assign
  refine Runs_nil ?_
  refine thenQ_n ?_
  refine W_seq ?_
  refine W_seq ?_
  refine W_regionE (c := 3) (c' := 11) (by kernel_rfl) rfl ?_
  refine Runs_p rfl (Valid.movek (A := Sl 1 _ _) rfl rfl) rfl rfl ?_ -- ref.go:11 move
  refine Runs_p rfl (Valid.len rfl Try.underlying22 (Reads.sl rfl)) rfl rfl ?_ -- ref.go:11 call
  refine Runs_p rfl (Valid.lss rfl rfl rfl) rfl rfl ?_ -- ref.go:11 binOp
  refine Runs_p rfl (Valid.movek (A := Is _) rfl rfl) rfl rfl ?_ -- ref.go:11 move
  refine Runs_cnd rfl rfl (Grd.is rfl) [] (fun hg => trivial) (fun hg => Valid.movek (A := Sl 1 _ _) rfl rfl) (by rfl) rfl ?_
  refine Runs_cnd rfl rfl (Grd.is rfl) [(14, _)] (fun hg => ⟨cnd_at rfl (by first | exact hg | exact hg.1 | exact hg.1.1 | exact hg.1.1.1), trivial⟩) (fun hg => Valid.len rfl Try.underlying22 (Reads.sl rfl)) (by rfl) rfl ?_
  refine Runs_cnd rfl rfl (Grd.is rfl) [(15, _)] (fun hg => ⟨cnd_at rfl (by first | exact hg | exact hg.1 | exact hg.1.1 | exact hg.1.1.1), trivial⟩) (fun hg => Valid.gtr rfl rfl rfl) (by rfl) rfl ?_
  refine Runs_p rfl (Valid.pickor rfl rfl rfl rfl (fun h => by first | exact h | exact ⟨hg, h⟩)) rfl rfl ?_ -- ref.go:11 pick
  refine Runs_nil ?_
  refine thenQ_n ?_
  refine W_cond _ rfl (fun hb1 => ?_) (fun hb1 => ?_)
  · try simp only [decide_eq_true_eq, Bool.or_eq_true] at hb1
    all_goals (
      refine W_seq ?_
      refine W_regionE (c := 11) (c' := 14) (by kernel_rfl) rfl ?_
      refine Runs_p rfl (Valid.build [] [(Value.string ⟨#[]⟩), (Value.int .i64 0)] rfl rfl (fun _ => by kernel_rfl)) rfl rfl ?_ -- ref.go:12 build
      refine Runs_op rfl (Valid.storeagg (l := [_, _]) rfl sz27 rfl rfl (Nat.le_of_ble_eq_true rfl) rfl ⟨(One.is rfl rfl rfl), (One.is rfl rfl rfl), trivial⟩) rfl ?_ -- ref.go:12 store
      refine Runs_p rfl (Valid.assignk (A := Is _) rfl rfl) rfl rfl ?_ -- ref.go:12 assign
      refine Runs_nil ?_
      refine thenQ_n ?_
      refine W_ret ?_
      refine thenQ_r ?_
      refine finQ_r ?_
      refine ResOk.two rfl (RVal.cellagg ag27 sz27 rfl rfl (Nat.le_of_ble_eq_true rfl) (argle (by first | (rw [pd_1 (by omega)]; done) | (rw [pd_1 (by omega)]; rfl) | (have h5 := pd_2 (l := l) (k := k) (by omega) (by unfold Da.good; have hjj : l.getD (k : Int).toNat 0 = l.getD k 0 := rfl; omega); rw [h5]; done) | (have h5 := pd_2 (l := l) (k := k) (by omega) (by unfold Da.good; have hjj : l.getD (k : Int).toNat 0 = l.getD k 0 := rfl; omega); rw [h5]; rfl) | (have h0 := pd_0 (by omega) hal; rw [h0]; done) | (have h0 := pd_0 (by omega) hal; rw [h0]; rfl)))) (RVal.is rfl rfl (by first | (rw [pd_1 (by omega)]; done) | (rw [pd_1 (by omega)]; rfl) | (have h5 := pd_2 (l := l) (k := k) (by omega) (by unfold Da.good; have hjj : l.getD (k : Int).toNat 0 = l.getD k 0 := rfl; omega); rw [h5]; done) | (have h5 := pd_2 (l := l) (k := k) (by omega) (by unfold Da.good; have hjj : l.getD (k : Int).toNat 0 = l.getD k 0 := rfl; omega); rw [h5]; rfl) | (have h0 := pd_0 (by omega) hal; rw [h0]; done) | (have h0 := pd_0 (by omega) hal; rw [h0]; rfl)))
      done)
  · try simp only [decide_eq_false_iff_not, Bool.or_eq_false_iff] at hb1
    all_goals (
      refine W_skip ?_
      refine thenQ_n ?_
      refine W_seq ?_
      refine W_seq ?_
      refine W_regionE (c := 11) (c' := 12) (by kernel_rfl) rfl ?_
      refine Runs_p rfl (Valid.assignk (A := Is _) rfl rfl) rfl rfl ?_ -- ref.go:14 assign
      refine Runs_nil ?_
      refine thenQ_n ?_
      refine W_block ?_
      refine W_loopx (G := Nat) (fun (k : Nat) => k ≤ l.length ∧ ∀ j, j < k → Da.good (l.getD j 0)) [(0, Sl 1 _ _), (2, Ptr 8 0)] (fun (k : Nat) => [(4, Is (.int .i64 (k : Int)))]) [(8, .var 27 [Is _, Is _])] (fun (k : Nat) => []) 12 (fun (k : Nat) => l.length - k) (0) [] (⟨by omega, fun j hj => by omega⟩) ⟨⟨(leq_is rfl rfl (by first | rfl | (simp; done) | omega | (simp [toNat_add, toNat_add1, Nat.add_assoc]; done) | (simp [toNat_add, toNat_add1]; omega))), trivial⟩, ⟨(leq_sl (Reads.sl rfl) rfl rfl rfl), (leq_ptr rfl rfl rfl), trivial⟩, trivial, ⟨hp_var rfl ⟨(leq_is rfl rfl rfl), (leq_is rfl rfl rfl), trivial⟩, trivial⟩, rfl, ⟨supg rfl, trivial⟩, ⟨supg rfl, supg rfl, trivial⟩, trivial, ⟨suph rfl rfl, trivial⟩, rfl, rfl⟩ ?_
      intro k hI1
      obtain ⟨hk1, hk2⟩ := hI1
      refine W_seq ?_
      refine W_seq ?_
      refine W_regionE (c := 12) (c' := 16) (by kernel_rfl) rfl ?_
      refine Runs_p rfl (Valid.movek (A := Is _) rfl rfl) rfl rfl ?_ -- ref.go:14 move
      refine Runs_p rfl (Valid.movek (A := Sl 1 _ _) rfl rfl) rfl rfl ?_ -- ref.go:14 move
      refine Runs_p rfl (Valid.len rfl Try.underlying22 (Reads.sl rfl)) rfl rfl ?_ -- ref.go:14 call
      refine Runs_p rfl (Valid.lss rfl rfl rfl) rfl rfl ?_ -- ref.go:14 binOp
      refine Runs_nil ?_
      refine thenQ_n ?_
      refine W_cond _ rfl (fun hb2 => ?_) (fun hb2 => ?_)
      · try simp only [decide_eq_true_eq] at hb2
        all_goals (
          refine W_skip ?_
          refine thenQ_n ?_
          refine W_seq ?_
          refine W_block ?_
          refine W_seq ?_
          refine W_regionE (c := 16) (c' := 28) (by kernel_rfl) rfl ?_
          refine Runs_p rfl (Valid.movek (A := Sl 1 _ _) rfl rfl) rfl rfl ?_ -- ref.go:15 move
          refine Runs_p rfl (Valid.movek (A := Is _) rfl rfl) rfl rfl ?_ -- ref.go:15 move
          refine Runs_p rfl (Valid.eltaddr1 0 rfl Try.underlying22 sz3 (Reads.sl rfl) rfl (by first | omega | (simp only [Int.toNat_natCast, toNat_add, toNat_add1, List.length_append, List.length_cons, List.length_nil, List.length_replicate]; omega)) (by first | rfl | simp)) rfl rfl ?_ -- ref.go:15 indexAddr
          refine Runs_p rfl (Valid.loadelt rfl ag3 rfl) rfl rfl ?_ -- ref.go:15 load
          refine Runs_p rfl (Valid.lss rfl rfl rfl) rfl rfl ?_ -- ref.go:15 binOp
          refine Runs_p rfl (Valid.movek (A := Is _) rfl rfl) rfl rfl ?_ -- ref.go:15 move
          refine Runs_cnd rfl rfl (Grd.is rfl) [] (fun hg => trivial) (fun hg => Valid.movek (A := Sl 1 _ _) rfl rfl) (by rfl) rfl ?_
          refine Runs_cnd rfl rfl (Grd.is rfl) [] (fun hg => trivial) (fun hg => Valid.movek (A := Is _) rfl rfl) (by rfl) rfl ?_
          refine Runs_cnd rfl rfl (Grd.is rfl) [(31, _), (32, _)] (fun hg => ⟨cnd_at rfl (by first | exact hg | exact hg.1 | exact hg.1.1 | exact hg.1.1.1), cnd_at rfl (by first | exact hg | exact hg.1 | exact hg.1.1 | exact hg.1.1.1), trivial⟩) (fun hg => Valid.eltaddr1 0 rfl Try.underlying22 sz3 (Reads.sl rfl) rfl (by (try simp only [Int.toNat_natCast, decide_eq_false_iff_not] at hg); first | omega | (simp only [Int.toNat_natCast, toNat_add, toNat_add1, List.length_append, List.length_cons, List.length_nil, List.length_replicate]; omega)) (by first | rfl | simp)) (by rfl) rfl ?_
          refine Runs_cnd rfl rfl (Grd.is rfl) [(33, _)] (fun hg => ⟨cnd_at rfl (by first | exact hg | exact hg.1 | exact hg.1.1 | exact hg.1.1.1), trivial⟩) (fun hg => Valid.loadelt rfl ag3 rfl) (by rfl) rfl ?_
          refine Runs_cnd rfl rfl (Grd.is rfl) [(34, _)] (fun hg => ⟨cnd_at rfl (by first | exact hg | exact hg.1 | exact hg.1.1 | exact hg.1.1.1), trivial⟩) (fun hg => Valid.gtr rfl rfl rfl) (by rfl) rfl ?_
          refine Runs_p rfl (Valid.pickor rfl rfl rfl rfl (fun h => by first | exact h | exact ⟨hg, h⟩)) rfl rfl ?_ -- ref.go:15 pick
          refine Runs_nil ?_
          refine thenQ_n ?_
          refine W_cond _ rfl (fun hb3 => ?_) (fun hb3 => ?_)
          · try simp only [Int.toNat_natCast, decide_eq_true_eq, Bool.or_eq_true] at hb3
            all_goals (
              refine W_seq ?_
              refine W_regionE (c := 28) (c' := 31) (by kernel_rfl) rfl ?_
              refine Runs_p rfl (Valid.build [] [(Value.string ⟨#[]⟩), (Value.int .i64 0)] rfl rfl (fun _ => by kernel_rfl)) rfl rfl ?_ -- ref.go:16 build
              refine Runs_op rfl (Valid.storeagg (l := [_, _]) rfl sz27 rfl rfl (Nat.le_of_ble_eq_true rfl) rfl ⟨(One.is rfl rfl rfl), (One.is rfl rfl rfl), trivial⟩) rfl ?_ -- ref.go:16 store
              refine Runs_p rfl (Valid.assignk (A := Is _) rfl rfl) rfl rfl ?_ -- ref.go:16 assign
              refine Runs_nil ?_
              refine thenQ_n ?_
              refine W_ret ?_
              refine blockQ_r ?_
              refine thenQ_r ?_
              refine loopQ_r ?_
              refine blockQ_r ?_
              refine thenQ_r ?_
              refine finQ_r ?_
              refine ResOk.two rfl (RVal.cellagg ag27 sz27 rfl rfl (Nat.le_of_ble_eq_true rfl) (argle (by first | (rw [pd_1 (by omega)]; done) | (rw [pd_1 (by omega)]; rfl) | (have h5 := pd_2 (l := l) (k := k) (by omega) (by unfold Da.good; have hjj : l.getD (k : Int).toNat 0 = l.getD k 0 := rfl; omega); rw [h5]; done) | (have h5 := pd_2 (l := l) (k := k) (by omega) (by unfold Da.good; have hjj : l.getD (k : Int).toNat 0 = l.getD k 0 := rfl; omega); rw [h5]; rfl) | (have h0 := pd_0 (by omega) hal; rw [h0]; done) | (have h0 := pd_0 (by omega) hal; rw [h0]; rfl)))) (RVal.is rfl rfl (by first | (rw [pd_1 (by omega)]; done) | (rw [pd_1 (by omega)]; rfl) | (have h5 := pd_2 (l := l) (k := k) (by omega) (by unfold Da.good; have hjj : l.getD (k : Int).toNat 0 = l.getD k 0 := rfl; omega); rw [h5]; done) | (have h5 := pd_2 (l := l) (k := k) (by omega) (by unfold Da.good; have hjj : l.getD (k : Int).toNat 0 = l.getD k 0 := rfl; omega); rw [h5]; rfl) | (have h0 := pd_0 (by omega) hal; rw [h0]; done) | (have h0 := pd_0 (by omega) hal; rw [h0]; rfl)))
              done)
          · try simp only [Int.toNat_natCast, decide_eq_false_iff_not, Bool.or_eq_false_iff] at hb3
            all_goals (
              refine W_skip ?_
              refine blockQ_n ?_
              refine thenQ_n ?_
              refine W_regionE (c := 28) (c' := 31) (by kernel_rfl) rfl ?_
              refine Runs_p rfl (Valid.movek (A := Is _) rfl rfl) rfl rfl ?_ -- ref.go:14 move
              refine Runs_p rfl (Valid.add rfl rfl rfl (room64 (by first | omega | (simp only [Int.toNat_natCast, toNat_add, toNat_add1, List.length_append, List.length_cons, List.length_nil, List.length_replicate]; omega)) (by first | omega | (simp only [Int.toNat_natCast, toNat_add, toNat_add1, List.length_append, List.length_cons, List.length_nil, List.length_replicate]; omega)))) rfl rfl ?_ -- ref.go:14 binOp
              refine Runs_p rfl (Valid.assignk (A := Is _) rfl rfl) rfl rfl ?_ -- ref.go:14 assign
              refine Runs_nil ?_
              refine LoopQ.next (k + 1) [] (⟨by omega, fun j hj => by by_cases e : j = k; (· subst e; unfold Da.good; have hjj : l.getD (j : Int).toNat 0 = l.getD j 0 := rfl; omega); (· exact hk2 j (by omega))⟩) (by omega) ⟨⟨(leq_is rfl rfl (by first | rfl | (simp; done) | omega | (simp [toNat_add, toNat_add1, Nat.add_assoc]; done) | (simp [toNat_add, toNat_add1]; omega))), trivial⟩, ⟨(leq_sl (Reads.sl rfl) rfl rfl rfl), (leq_ptr rfl rfl rfl), trivial⟩, trivial, ⟨hp_var rfl ⟨(leq_is rfl rfl rfl), (leq_is rfl rfl rfl), trivial⟩, trivial⟩, rfl, ⟨supg rfl, trivial⟩, ⟨supg rfl, supg rfl, trivial⟩, trivial, ⟨suph rfl rfl, trivial⟩, rfl, rfl⟩
              done)
          done)
      · try simp only [decide_eq_false_iff_not] at hb2
        all_goals (
          refine W_exit ?_
          refine thenQ_e ?_
          refine loopQ_e ?_
          refine blockQ_x ?_
          refine thenQ_n ?_
          refine W_seq ?_
          have hal : ∀ j, j < l.length → Da.good (l.getD j 0) := fun j hj => hk2 j (by omega)
          have h0 := hal 0 (by omega)
          have h0g : 1 ≤ l.getD 0 0 ∧ l.getD 0 0 ≤ 20 := h0
          have hz : l.getD (0 : Int).toNat 0 = l.getD 0 0 := rfl
          refine W_regionE (c := 16) (c' := 22) (by kernel_rfl) rfl ?_
          refine Runs_p rfl (Valid.movek (A := Sl 1 _ _) rfl rfl) rfl rfl ?_ -- ref.go:19 move
          refine Runs_p rfl (Valid.eltaddr1 0 rfl Try.underlying22 sz3 (Reads.sl rfl) rfl (by first | omega | (simp only [Int.toNat_natCast, toNat_add, toNat_add1, List.length_append, List.length_cons, List.length_nil, List.length_replicate]; omega)) (by first | rfl | simp)) rfl rfl ?_ -- ref.go:19 indexAddr
          refine Runs_p rfl (Valid.loadelt rfl ag3 rfl) rfl rfl ?_ -- ref.go:19 load
          refine Runs_p rfl (Valid.convr rfl rfl Try.underlying3 Try.underlying47 (by unfold Room; rw [IntKind.wrap_u64]; omega)) rfl rfl ?_ -- ref.go:19 convert
          refine Runs_w rfl (Valid.callm [] rfl (.inl ⟨rfl, rfl⟩) (number_x (l.getD 0 0).toNat 5 _ (by omega) (by omega) (by decide)) ⟨(leq_is rfl rfl rfl), (leq_is rfl rfl rfl), trivial⟩ trivial (up_own' (id' := 160) rfl) (hpup_cons (j := 160) rfl cup_row hpup_nil) (by kernel_rfl) (by kernel_rfl) (by kernel_rfl) (by kernel_rfl) (by kernel_rfl) (by kernel_rfl) (by kernel_rfl) (by kernel_rfl) (by kernel_rfl)) rfl rfl ?_ -- ref.go:19 call
          refine Runs_p rfl (Valid.assignk (A := Ab.Own 160 1 _ _) rfl rfl) rfl rfl ?_ -- ref.go:19 assign
          refine Runs_nil ?_
          refine thenQ_n ?_
          refine W_seq ?_
          refine W_seq ?_
          refine W_regionE (c := 22) (c' := 23) (by kernel_rfl) rfl ?_
          refine Runs_p rfl (Valid.assignk (A := Is _) rfl rfl) rfl rfl ?_ -- ref.go:20 assign
          refine Runs_nil ?_
          refine thenQ_n ?_
          refine W_block ?_
          refine W_loopx (G := Nat) (fun (i : Nat) => i ≤ l.length) [(0, Sl 1 _ _), (2, Ptr 8 0)] (fun (i : Nat) => [(6, Is (.int .i64 (i : Int))), (5, Ab.Own 160 1 (bl ((dps l i).flatten)) (((dps l i).flatten).map bI))]) [(8, .var 27 [Is _, Is _])] (fun (i : Nat) => [(160, .row 3 1 (bl ((dps l i).flatten)) (((dps l i).flatten).map bI))]) 23 (fun (i : Nat) => l.length - i) (0) [] (by omega) ⟨⟨(leq_is rfl rfl (by first | rfl | (rw [show (dps l 0).flatten = num (l.getD 0 0).toNat 5 from List.append_nil _]; done) | (unfold bl; rw [show (dps l 0).flatten = num (l.getD 0 0).toNat 5 from List.append_nil _, num_len]; done))), (leq_own rfl rfl rfl (by first | rfl | (rw [show (dps l 0).flatten = num (l.getD 0 0).toNat 5 from List.append_nil _]; done) | (unfold bl; rw [show (dps l 0).flatten = num (l.getD 0 0).toNat 5 from List.append_nil _, num_len]; done)) (by first | rfl | (rw [show (dps l 0).flatten = num (l.getD 0 0).toNat 5 from List.append_nil _]; done) | (unfold bl; rw [show (dps l 0).flatten = num (l.getD 0 0).toNat 5 from List.append_nil _, num_len]; done))), trivial⟩, ⟨(leq_sl (Reads.sl rfl) rfl rfl rfl), (leq_ptr rfl rfl rfl), trivial⟩, ⟨hp_row rfl (by first | rfl | (rw [show (dps l 0).flatten = num (l.getD 0 0).toNat 5 from List.append_nil _]; done) | (unfold bl; rw [show (dps l 0).flatten = num (l.getD 0 0).toNat 5 from List.append_nil _, num_len]; done)) (by first | rfl | (rw [show (dps l 0).flatten = num (l.getD 0 0).toNat 5 from List.append_nil _]; done) | (unfold bl; rw [show (dps l 0).flatten = num (l.getD 0 0).toNat 5 from List.append_nil _, num_len]; done)), trivial⟩, ⟨hp_var rfl ⟨(leq_is rfl rfl rfl), (leq_is rfl rfl rfl), trivial⟩, trivial⟩, rfl, ⟨supg rfl, supg rfl, trivial⟩, ⟨supg rfl, supg rfl, trivial⟩, ⟨suph rfl rfl, trivial⟩, ⟨suph rfl rfl, trivial⟩, rfl, rfl⟩ ?_
          intro i hI2
          refine W_seq ?_
          refine W_seq ?_
          refine W_regionE (c := 23) (c' := 27) (by kernel_rfl) rfl ?_
          refine Runs_p rfl (Valid.movek (A := Is _) rfl rfl) rfl rfl ?_ -- ref.go:20 move
          refine Runs_p rfl (Valid.movek (A := Sl 1 _ _) rfl rfl) rfl rfl ?_ -- ref.go:20 move
          refine Runs_p rfl (Valid.len rfl Try.underlying22 (Reads.sl rfl)) rfl rfl ?_ -- ref.go:20 call
          refine Runs_p rfl (Valid.lss rfl rfl rfl) rfl rfl ?_ -- ref.go:20 binOp
          refine Runs_nil ?_
          refine thenQ_n ?_
          refine W_cond _ rfl (fun hb4 => ?_) (fun hb4 => ?_)
          · try simp only [decide_eq_true_eq] at hb4
            all_goals (
              refine W_skip ?_
              refine thenQ_n ?_
              refine W_seq ?_
              refine W_block ?_
              refine W_seq ?_
              have hmx : (max ((i : Int) - 1) 0).toNat = i - 1 := by omega
              have hL : l.getD (max ((i : Int) - 1) 0).toNat 0 = l.getD (i - 1) 0 := by rw [hmx]
              have hii : l.getD (i : Int).toNat 0 = l.getD i 0 := rfl
              have hgk : 1 ≤ l.getD i 0 ∧ l.getD i 0 ≤ 20 := hal i (by omega)
              have hgp : 1 ≤ l.getD (i - 1) 0 ∧ l.getD (i - 1) 0 ≤ 20 := hal (i - 1) (by omega)
              have hfl : bl (dps l i).flatten ≤ 5 + 39 * i := dps_flat (l := l) i (fun j hj => hal j (by omega))
              refine W_regionE (c := 27) (c' := 34) (by kernel_rfl) rfl ?_
              refine Runs_p rfl (Valid.movek (A := Sl 1 _ _) rfl rfl) rfl rfl ?_ -- ref.go:21 move
              refine Runs_p rfl (Valid.movek (A := Is _) rfl rfl) rfl rfl ?_ -- ref.go:21 move
              refine Runs_p rfl (Valid.sub rfl rfl rfl (room64 (by first | omega | (simp only [Int.toNat_natCast, toNat_add, toNat_add1, List.length_append, List.length_cons, List.length_nil, List.length_replicate]; omega)) (by first | omega | (simp only [Int.toNat_natCast, toNat_add, toNat_add1, List.length_append, List.length_cons, List.length_nil, List.length_replicate]; omega)))) rfl rfl ?_ -- ref.go:21 binOp
              refine Runs_p rfl (Valid.max rfl rfl rfl) rfl rfl ?_ -- ref.go:21 call
              refine Runs_p rfl (Valid.eltaddr1 0 rfl Try.underlying22 sz3 (Reads.sl rfl) rfl (by first | omega | (simp only [Int.toNat_natCast, toNat_add, toNat_add1, List.length_append, List.length_cons, List.length_nil, List.length_replicate]; omega)) (by first | rfl | simp)) rfl rfl ?_ -- ref.go:21 indexAddr
              refine Runs_p rfl (Valid.loadelt rfl ag3 rfl) rfl rfl ?_ -- ref.go:21 load
              refine Runs_p rfl (Valid.assignk (A := Is _) rfl rfl) rfl rfl ?_ -- ref.go:21 assign
              refine Runs_nil ?_
              refine thenQ_n ?_
              refine W_seq ?_
              refine W_seq ?_
              refine W_regionE (c := 34) (c' := 36) (by kernel_rfl) rfl ?_
              refine Runs_p rfl (Valid.movek (A := Is _) rfl rfl) rfl rfl ?_ -- ref.go:22 move
              refine Runs_p rfl (Valid.assignk (A := Is _) rfl rfl) rfl rfl ?_ -- ref.go:22 assign
              refine Runs_nil ?_
              refine thenQ_n ?_
              refine W_block ?_
              refine W_loopx (G := Nat) (fun (m : Nat) => m ≤ (l.getD i 0 - l.getD (i - 1) 0).toNat) [(0, Sl 1 _ _), (2, Ptr 8 0), (6, Is _), (7, Is _)] (fun (m : Nat) => [(8, Is (.int .i64 (l.getD (i - 1) 0 + (m : Int)))), (5, Ab.Own 160 1 (bl ((dps l i).flatten ++ chg m false)) (((dps l i).flatten ++ chg m false).map bI))]) [(8, .var 27 [Is _, Is _])] (fun (m : Nat) => [(160, .row 3 1 (bl ((dps l i).flatten ++ chg m false)) (((dps l i).flatten ++ chg m false).map bI))]) 36 (fun (m : Nat) => (l.getD i 0 - l.getD (i - 1) 0).toNat - m) (0) [] (by omega) ⟨⟨(leq_is rfl rfl (by first | rfl | exact fl_f _ _ | exact fl_t _ _ | exact fl_last _ _ | exact congrArg (Value.int .i64) (by omega) | (simp only [bl_a, bl_c]; omega) | (rw [bl_l]; simp only [bl_a, bl_c]; done) | (rw [show chg 0 false = [] from rfl, List.append_nil]; done) | (rw [show chg 0 true = [] from rfl, List.append_nil]; done))), (leq_own rfl rfl rfl (by first | rfl | exact fl_f _ _ | exact fl_t _ _ | exact fl_last _ _ | exact congrArg (Value.int .i64) (by omega) | (simp only [bl_a, bl_c]; omega) | (rw [bl_l]; simp only [bl_a, bl_c]; done) | (rw [show chg 0 false = [] from rfl, List.append_nil]; done) | (rw [show chg 0 true = [] from rfl, List.append_nil]; done)) (by first | rfl | exact fl_f _ _ | exact fl_t _ _ | exact fl_last _ _ | exact congrArg (Value.int .i64) (by omega) | (simp only [bl_a, bl_c]; omega) | (rw [bl_l]; simp only [bl_a, bl_c]; done) | (rw [show chg 0 false = [] from rfl, List.append_nil]; done) | (rw [show chg 0 true = [] from rfl, List.append_nil]; done))), trivial⟩, ⟨(leq_sl (Reads.sl rfl) rfl rfl rfl), (leq_ptr rfl rfl rfl), (leq_is rfl rfl rfl), (leq_is rfl rfl rfl), trivial⟩, ⟨hp_row rfl (by first | rfl | exact fl_f _ _ | exact fl_t _ _ | exact fl_last _ _ | exact congrArg (Value.int .i64) (by omega) | (simp only [bl_a, bl_c]; omega) | (rw [bl_l]; simp only [bl_a, bl_c]; done) | (rw [show chg 0 false = [] from rfl, List.append_nil]; done) | (rw [show chg 0 true = [] from rfl, List.append_nil]; done)) (by first | rfl | exact fl_f _ _ | exact fl_t _ _ | exact fl_last _ _ | exact congrArg (Value.int .i64) (by omega) | (simp only [bl_a, bl_c]; omega) | (rw [bl_l]; simp only [bl_a, bl_c]; done) | (rw [show chg 0 false = [] from rfl, List.append_nil]; done) | (rw [show chg 0 true = [] from rfl, List.append_nil]; done)), trivial⟩, ⟨hp_var rfl ⟨(leq_is rfl rfl rfl), (leq_is rfl rfl rfl), trivial⟩, trivial⟩, rfl, ⟨supg rfl, supg rfl, trivial⟩, ⟨supg rfl, supg rfl, supg rfl, supg rfl, trivial⟩, ⟨suph rfl rfl, trivial⟩, ⟨suph rfl rfl, trivial⟩, rfl, rfl⟩ ?_
              intro m hI3
              refine W_seq ?_
              refine W_seq ?_
              refine W_regionE (c := 36) (c' := 42) (by kernel_rfl) rfl ?_
              refine Runs_p rfl (Valid.movek (A := Is _) rfl rfl) rfl rfl ?_ -- ref.go:22 move
              refine Runs_p rfl (Valid.movek (A := Sl 1 _ _) rfl rfl) rfl rfl ?_ -- ref.go:22 move
              refine Runs_p rfl (Valid.movek (A := Is _) rfl rfl) rfl rfl ?_ -- ref.go:22 move
              refine Runs_p rfl (Valid.eltaddr1 0 rfl Try.underlying22 sz3 (Reads.sl rfl) rfl (by first | omega | (simp only [Int.toNat_natCast, toNat_add, toNat_add1, List.length_append, List.length_cons, List.length_nil, List.length_replicate]; omega)) (by first | rfl | simp)) rfl rfl ?_ -- ref.go:22 indexAddr
              refine Runs_p rfl (Valid.loadelt rfl ag3 rfl) rfl rfl ?_ -- ref.go:22 load
              refine Runs_p rfl (Valid.lss rfl rfl rfl) rfl rfl ?_ -- ref.go:22 binOp
              refine Runs_nil ?_
              refine thenQ_n ?_
              refine W_cond _ rfl (fun hb5 => ?_) (fun hb5 => ?_)
              · try simp only [Int.toNat_natCast, decide_eq_true_eq] at hb5
                all_goals (
                  refine W_skip ?_
                  refine thenQ_n ?_
                  refine W_seq ?_
                  refine W_block ?_
                  have hbm := bl_a (dps l i).flatten (chg m false)
                  rw [bl_c] at hbm
                  refine W_regionE (c := 42) (c' := 46) (by kernel_rfl) rfl ?_
                  refine Runs_p rfl (Valid.movek (A := Ab.Own 160 1 _ _) rfl rfl) rfl rfl ?_ -- ref.go:23 move
                  refine Runs_p rfl (Valid.lit (el := 3) [_, _] rfl rfl (fun _ => by kernel_rfl) rfl (by decide)) rfl rfl ?_ -- ref.go:23 buildSlice
                  refine Runs_w rfl (Valid.app rfl Try.underlying22 ti3 (by decide) rfl rfl (Reads.sl rfl) (by first | exact one_map (fun _ => rfl) | exact one_cons rfl one_nil | exact one_app (one_map (fun _ => rfl)) (one_cons rfl one_nil) | exact one_app (one_map (fun _ => rfl)) (one_map (fun _ => rfl)) | exact one_rep rfl | exact one_app (one_rep rfl) (one_map (fun _ => rfl)) | (intro u hu; simp at hu; rcases hu with rfl | hu <;> first | rfl | (subst hu; rfl))) (by first | (simp only [maxLen]; omega) | (simp only [maxLen, Int.toNat_natCast, toNat_add, toNat_add1, List.length_append, List.length_cons, List.length_nil, List.length_replicate]; omega)) (by first | omega | (simp only [Int.toNat_natCast, toNat_add, toNat_add1, List.length_append, List.length_cons, List.length_nil, List.length_replicate]; omega))) rfl rfl ?_ -- ref.go:23 call
                  refine Runs_p rfl (Valid.assignk (A := Ab.Own 352 1 _ _) rfl rfl) rfl rfl ?_ -- ref.go:23 assign
                  refine Runs_nil ?_
                  refine blockQ_n ?_
                  refine thenQ_n ?_
                  refine W_regionE (c := 46) (c' := 49) (by kernel_rfl) rfl ?_
                  refine Runs_p rfl (Valid.movek (A := Is _) rfl rfl) rfl rfl ?_ -- ref.go:22 move
                  refine Runs_p rfl (Valid.add rfl rfl rfl (room64 (by first | omega | (simp only [Int.toNat_natCast, toNat_add, toNat_add1, List.length_append, List.length_cons, List.length_nil, List.length_replicate]; omega)) (by first | omega | (simp only [Int.toNat_natCast, toNat_add, toNat_add1, List.length_append, List.length_cons, List.length_nil, List.length_replicate]; omega)))) rfl rfl ?_ -- ref.go:22 binOp
                  refine Runs_p rfl (Valid.assignk (A := Is _) rfl rfl) rfl rfl ?_ -- ref.go:22 assign
                  refine Runs_nil ?_
                  refine LoopQ.next (m + 1) [(160, 352)] (by omega) (by omega) ⟨⟨(leq_is rfl rfl (by first | rfl | exact fl_f _ _ | exact fl_t _ _ | exact fl_last _ _ | exact congrArg (Value.int .i64) (by omega) | (simp only [bl_a, bl_c]; omega) | (rw [bl_l]; simp only [bl_a, bl_c]; done) | (rw [show chg 0 false = [] from rfl, List.append_nil]; done) | (rw [show chg 0 true = [] from rfl, List.append_nil]; done))), (leq_own rfl rfl rfl (by first | rfl | exact fl_f _ _ | exact fl_t _ _ | exact fl_last _ _ | exact congrArg (Value.int .i64) (by omega) | (simp only [bl_a, bl_c]; omega) | (rw [bl_l]; simp only [bl_a, bl_c]; done) | (rw [show chg 0 false = [] from rfl, List.append_nil]; done) | (rw [show chg 0 true = [] from rfl, List.append_nil]; done)) (by first | rfl | exact fl_f _ _ | exact fl_t _ _ | exact fl_last _ _ | exact congrArg (Value.int .i64) (by omega) | (simp only [bl_a, bl_c]; omega) | (rw [bl_l]; simp only [bl_a, bl_c]; done) | (rw [show chg 0 false = [] from rfl, List.append_nil]; done) | (rw [show chg 0 true = [] from rfl, List.append_nil]; done))), trivial⟩, ⟨(leq_sl (Reads.sl rfl) rfl rfl rfl), (leq_ptr rfl rfl rfl), (leq_is rfl rfl rfl), (leq_is rfl rfl rfl), trivial⟩, ⟨hp_row rfl (by first | rfl | exact fl_f _ _ | exact fl_t _ _ | exact fl_last _ _ | exact congrArg (Value.int .i64) (by omega) | (simp only [bl_a, bl_c]; omega) | (rw [bl_l]; simp only [bl_a, bl_c]; done) | (rw [show chg 0 false = [] from rfl, List.append_nil]; done) | (rw [show chg 0 true = [] from rfl, List.append_nil]; done)) (by first | rfl | exact fl_f _ _ | exact fl_t _ _ | exact fl_last _ _ | exact congrArg (Value.int .i64) (by omega) | (simp only [bl_a, bl_c]; omega) | (rw [bl_l]; simp only [bl_a, bl_c]; done) | (rw [show chg 0 false = [] from rfl, List.append_nil]; done) | (rw [show chg 0 true = [] from rfl, List.append_nil]; done)), trivial⟩, ⟨hp_var rfl ⟨(leq_is rfl rfl rfl), (leq_is rfl rfl rfl), trivial⟩, trivial⟩, rfl, ⟨supg rfl, supg rfl, trivial⟩, ⟨supg rfl, supg rfl, supg rfl, supg rfl, trivial⟩, ⟨suph rfl rfl, trivial⟩, ⟨suph rfl rfl, trivial⟩, rfl, rfl⟩
                  done)
              · try simp only [Int.toNat_natCast, decide_eq_false_iff_not] at hb5
                all_goals (
                  refine W_exit ?_
                  refine thenQ_e ?_
                  refine loopQ_e ?_
                  refine blockQ_x ?_
                  refine thenQ_n ?_
                  refine W_seq ?_
                  refine W_seq ?_
                  refine W_regionE (c := 42) (c' := 44) (by kernel_rfl) rfl ?_
                  refine Runs_p rfl (Valid.movek (A := Is _) rfl rfl) rfl rfl ?_ -- ref.go:25 move
                  refine Runs_p rfl (Valid.assignk (A := Is _) rfl rfl) rfl rfl ?_ -- ref.go:25 assign
                  refine Runs_nil ?_
                  refine thenQ_n ?_
                  refine W_block ?_
                  refine W_loopx (G := Nat) (fun (j : Nat) => j ≤ (l.getD (i - 1) 0 - l.getD i 0).toNat ∧ m = (l.getD i 0 - l.getD (i - 1) 0).toNat) [(0, Sl 1 _ _), (2, Ptr 8 0), (6, Is _)] (fun (j : Nat) => [(9, Is (.int .i64 (l.getD (i - 1) 0 - (j : Int)))), (5, Ab.Own 160 1 (bl ((dps l i).flatten ++ chg m false ++ chg j true)) (((dps l i).flatten ++ chg m false ++ chg j true).map bI))]) [(8, .var 27 [Is _, Is _])] (fun (j : Nat) => [(160, .row 3 1 (bl ((dps l i).flatten ++ chg m false ++ chg j true)) (((dps l i).flatten ++ chg m false ++ chg j true).map bI))]) 44 (fun (j : Nat) => (l.getD (i - 1) 0 - l.getD i 0).toNat - j) (0) [] (⟨by omega, by omega⟩) ⟨⟨(leq_is rfl rfl (by first | rfl | exact fl_f _ _ | exact fl_t _ _ | exact fl_last _ _ | exact congrArg (Value.int .i64) (by omega) | (simp only [bl_a, bl_c]; omega) | (rw [bl_l]; simp only [bl_a, bl_c]; done) | (rw [show chg 0 false = [] from rfl, List.append_nil]; done) | (rw [show chg 0 true = [] from rfl, List.append_nil]; done))), (leq_own rfl rfl rfl (by first | rfl | exact fl_f _ _ | exact fl_t _ _ | exact fl_last _ _ | exact congrArg (Value.int .i64) (by omega) | (simp only [bl_a, bl_c]; omega) | (rw [bl_l]; simp only [bl_a, bl_c]; done) | (rw [show chg 0 false = [] from rfl, List.append_nil]; done) | (rw [show chg 0 true = [] from rfl, List.append_nil]; done)) (by first | rfl | exact fl_f _ _ | exact fl_t _ _ | exact fl_last _ _ | exact congrArg (Value.int .i64) (by omega) | (simp only [bl_a, bl_c]; omega) | (rw [bl_l]; simp only [bl_a, bl_c]; done) | (rw [show chg 0 false = [] from rfl, List.append_nil]; done) | (rw [show chg 0 true = [] from rfl, List.append_nil]; done))), trivial⟩, ⟨(leq_sl (Reads.sl rfl) rfl rfl rfl), (leq_ptr rfl rfl rfl), (leq_is rfl rfl rfl), trivial⟩, ⟨hp_row rfl (by first | rfl | exact fl_f _ _ | exact fl_t _ _ | exact fl_last _ _ | exact congrArg (Value.int .i64) (by omega) | (simp only [bl_a, bl_c]; omega) | (rw [bl_l]; simp only [bl_a, bl_c]; done) | (rw [show chg 0 false = [] from rfl, List.append_nil]; done) | (rw [show chg 0 true = [] from rfl, List.append_nil]; done)) (by first | rfl | exact fl_f _ _ | exact fl_t _ _ | exact fl_last _ _ | exact congrArg (Value.int .i64) (by omega) | (simp only [bl_a, bl_c]; omega) | (rw [bl_l]; simp only [bl_a, bl_c]; done) | (rw [show chg 0 false = [] from rfl, List.append_nil]; done) | (rw [show chg 0 true = [] from rfl, List.append_nil]; done)), trivial⟩, ⟨hp_var rfl ⟨(leq_is rfl rfl rfl), (leq_is rfl rfl rfl), trivial⟩, trivial⟩, rfl, ⟨supg rfl, supg rfl, trivial⟩, ⟨supg rfl, supg rfl, supg rfl, trivial⟩, ⟨suph rfl rfl, trivial⟩, ⟨suph rfl rfl, trivial⟩, rfl, rfl⟩ ?_
                  intro j hI4
                  obtain ⟨hj1, hj2⟩ := hI4
                  refine W_seq ?_
                  refine W_seq ?_
                  refine W_regionE (c := 44) (c' := 50) (by kernel_rfl) rfl ?_
                  refine Runs_p rfl (Valid.movek (A := Is _) rfl rfl) rfl rfl ?_ -- ref.go:25 move
                  refine Runs_p rfl (Valid.movek (A := Sl 1 _ _) rfl rfl) rfl rfl ?_ -- ref.go:25 move
                  refine Runs_p rfl (Valid.movek (A := Is _) rfl rfl) rfl rfl ?_ -- ref.go:25 move
                  refine Runs_p rfl (Valid.eltaddr1 0 rfl Try.underlying22 sz3 (Reads.sl rfl) rfl (by first | omega | (simp only [Int.toNat_natCast, toNat_add, toNat_add1, List.length_append, List.length_cons, List.length_nil, List.length_replicate]; omega)) (by first | rfl | simp)) rfl rfl ?_ -- ref.go:25 indexAddr
                  refine Runs_p rfl (Valid.loadelt rfl ag3 rfl) rfl rfl ?_ -- ref.go:25 load
                  refine Runs_p rfl (Valid.gtr rfl rfl rfl) rfl rfl ?_ -- ref.go:25 binOp
                  refine Runs_nil ?_
                  refine thenQ_n ?_
                  refine W_cond _ rfl (fun hb6 => ?_) (fun hb6 => ?_)
                  · try simp only [Int.toNat_natCast, decide_eq_true_eq] at hb6
                    all_goals (
                      refine W_skip ?_
                      refine thenQ_n ?_
                      refine W_seq ?_
                      refine W_block ?_
                      have hbj := bl_a ((dps l i).flatten ++ chg m false) (chg j true)
                      have hbm := bl_a (dps l i).flatten (chg m false)
                      rw [bl_c] at hbj hbm
                      refine W_regionE (c := 50) (c' := 54) (by kernel_rfl) rfl ?_
                      refine Runs_p rfl (Valid.movek (A := Ab.Own 160 1 _ _) rfl rfl) rfl rfl ?_ -- ref.go:26 move
                      refine Runs_p rfl (Valid.lit (el := 3) [_, _] rfl rfl (fun _ => by kernel_rfl) rfl (by decide)) rfl rfl ?_ -- ref.go:26 buildSlice
                      refine Runs_w rfl (Valid.app rfl Try.underlying22 ti3 (by decide) rfl rfl (Reads.sl rfl) (by first | exact one_map (fun _ => rfl) | exact one_cons rfl one_nil | exact one_app (one_map (fun _ => rfl)) (one_cons rfl one_nil) | exact one_app (one_map (fun _ => rfl)) (one_map (fun _ => rfl)) | exact one_rep rfl | exact one_app (one_rep rfl) (one_map (fun _ => rfl)) | (intro u hu; simp at hu; rcases hu with rfl | hu <;> first | rfl | (subst hu; rfl))) (by first | (simp only [maxLen]; omega) | (simp only [maxLen, Int.toNat_natCast, toNat_add, toNat_add1, List.length_append, List.length_cons, List.length_nil, List.length_replicate]; omega)) (by first | omega | (simp only [Int.toNat_natCast, toNat_add, toNat_add1, List.length_append, List.length_cons, List.length_nil, List.length_replicate]; omega))) rfl rfl ?_ -- ref.go:26 call
                      refine Runs_p rfl (Valid.assignk (A := Ab.Own 416 1 _ _) rfl rfl) rfl rfl ?_ -- ref.go:26 assign
                      refine Runs_nil ?_
                      refine blockQ_n ?_
                      refine thenQ_n ?_
                      refine W_regionE (c := 54) (c' := 57) (by kernel_rfl) rfl ?_
                      refine Runs_p rfl (Valid.movek (A := Is _) rfl rfl) rfl rfl ?_ -- ref.go:25 move
                      refine Runs_p rfl (Valid.sub rfl rfl rfl (room64 (by first | omega | (simp only [Int.toNat_natCast, toNat_add, toNat_add1, List.length_append, List.length_cons, List.length_nil, List.length_replicate]; omega)) (by first | omega | (simp only [Int.toNat_natCast, toNat_add, toNat_add1, List.length_append, List.length_cons, List.length_nil, List.length_replicate]; omega)))) rfl rfl ?_ -- ref.go:25 binOp
                      refine Runs_p rfl (Valid.assignk (A := Is _) rfl rfl) rfl rfl ?_ -- ref.go:25 assign
                      refine Runs_nil ?_
                      refine LoopQ.next (j + 1) [(160, 416)] (⟨by omega, hj2⟩) (by omega) ⟨⟨(leq_is rfl rfl (by first | rfl | exact fl_f _ _ | exact fl_t _ _ | exact fl_last _ _ | exact congrArg (Value.int .i64) (by omega) | (simp only [bl_a, bl_c]; omega) | (rw [bl_l]; simp only [bl_a, bl_c]; done) | (rw [show chg 0 false = [] from rfl, List.append_nil]; done) | (rw [show chg 0 true = [] from rfl, List.append_nil]; done))), (leq_own rfl rfl rfl (by first | rfl | exact fl_f _ _ | exact fl_t _ _ | exact fl_last _ _ | exact congrArg (Value.int .i64) (by omega) | (simp only [bl_a, bl_c]; omega) | (rw [bl_l]; simp only [bl_a, bl_c]; done) | (rw [show chg 0 false = [] from rfl, List.append_nil]; done) | (rw [show chg 0 true = [] from rfl, List.append_nil]; done)) (by first | rfl | exact fl_f _ _ | exact fl_t _ _ | exact fl_last _ _ | exact congrArg (Value.int .i64) (by omega) | (simp only [bl_a, bl_c]; omega) | (rw [bl_l]; simp only [bl_a, bl_c]; done) | (rw [show chg 0 false = [] from rfl, List.append_nil]; done) | (rw [show chg 0 true = [] from rfl, List.append_nil]; done))), trivial⟩, ⟨(leq_sl (Reads.sl rfl) rfl rfl rfl), (leq_ptr rfl rfl rfl), (leq_is rfl rfl rfl), trivial⟩, ⟨hp_row rfl (by first | rfl | exact fl_f _ _ | exact fl_t _ _ | exact fl_last _ _ | exact congrArg (Value.int .i64) (by omega) | (simp only [bl_a, bl_c]; omega) | (rw [bl_l]; simp only [bl_a, bl_c]; done) | (rw [show chg 0 false = [] from rfl, List.append_nil]; done) | (rw [show chg 0 true = [] from rfl, List.append_nil]; done)) (by first | rfl | exact fl_f _ _ | exact fl_t _ _ | exact fl_last _ _ | exact congrArg (Value.int .i64) (by omega) | (simp only [bl_a, bl_c]; omega) | (rw [bl_l]; simp only [bl_a, bl_c]; done) | (rw [show chg 0 false = [] from rfl, List.append_nil]; done) | (rw [show chg 0 true = [] from rfl, List.append_nil]; done)), trivial⟩, ⟨hp_var rfl ⟨(leq_is rfl rfl rfl), (leq_is rfl rfl rfl), trivial⟩, trivial⟩, rfl, ⟨supg rfl, supg rfl, trivial⟩, ⟨supg rfl, supg rfl, supg rfl, trivial⟩, ⟨suph rfl rfl, trivial⟩, ⟨suph rfl rfl, trivial⟩, rfl, rfl⟩
                      done)
                  · try simp only [Int.toNat_natCast, decide_eq_false_iff_not] at hb6
                    all_goals (
                      refine W_exit ?_
                      refine thenQ_e ?_
                      refine loopQ_e ?_
                      refine blockQ_x ?_
                      refine thenQ_n ?_
                      obtain rfl : m = (l.getD i 0 - l.getD (i - 1) 0).toNat := by omega
                      obtain rfl : j = (l.getD (i - 1) 0 - l.getD i 0).toNat := by omega
                      have hbj := bl_a ((dps l i).flatten ++ chg (l.getD i 0 - l.getD (i - 1) 0).toNat false) (chg (l.getD (i - 1) 0 - l.getD i 0).toNat true)
                      have hbm := bl_a (dps l i).flatten (chg (l.getD i 0 - l.getD (i - 1) 0).toNat false)
                      rw [bl_c] at hbj hbm
                      refine W_regionE (c := 50) (c' := 54) (by kernel_rfl) rfl ?_
                      refine Runs_p rfl (Valid.movek (A := Ab.Own 160 1 _ _) rfl rfl) rfl rfl ?_ -- ref.go:28 move
                      refine Runs_p rfl (Valid.lit (el := 3) [_] rfl rfl (fun _ => by kernel_rfl) rfl (by decide)) rfl rfl ?_ -- ref.go:28 buildSlice
                      refine Runs_w rfl (Valid.app rfl Try.underlying22 ti3 (by decide) rfl rfl (Reads.sl rfl) (by first | exact one_map (fun _ => rfl) | exact one_cons rfl one_nil | exact one_app (one_map (fun _ => rfl)) (one_cons rfl one_nil) | exact one_app (one_map (fun _ => rfl)) (one_map (fun _ => rfl)) | exact one_rep rfl | exact one_app (one_rep rfl) (one_map (fun _ => rfl)) | (intro u hu; simp at hu; rcases hu with rfl | hu <;> first | rfl | (subst hu; rfl))) (by first | (simp only [maxLen]; omega) | (simp only [maxLen, Int.toNat_natCast, toNat_add, toNat_add1, List.length_append, List.length_cons, List.length_nil, List.length_replicate]; omega)) (by first | omega | (simp only [Int.toNat_natCast, toNat_add, toNat_add1, List.length_append, List.length_cons, List.length_nil, List.length_replicate]; omega))) rfl rfl ?_ -- ref.go:28 call
                      refine Runs_p rfl (Valid.assignk (A := Ab.Own 416 1 _ _) rfl rfl) rfl rfl ?_ -- ref.go:28 assign
                      refine Runs_nil ?_
                      refine blockQ_n ?_
                      refine thenQ_n ?_
                      refine W_regionE (c := 54) (c' := 57) (by kernel_rfl) rfl ?_
                      refine Runs_p rfl (Valid.movek (A := Is _) rfl rfl) rfl rfl ?_ -- ref.go:20 move
                      refine Runs_p rfl (Valid.add rfl rfl rfl (room64 (by first | omega | (simp only [Int.toNat_natCast, toNat_add, toNat_add1, List.length_append, List.length_cons, List.length_nil, List.length_replicate]; omega)) (by first | omega | (simp only [Int.toNat_natCast, toNat_add, toNat_add1, List.length_append, List.length_cons, List.length_nil, List.length_replicate]; omega)))) rfl rfl ?_ -- ref.go:20 binOp
                      refine Runs_p rfl (Valid.assignk (A := Is _) rfl rfl) rfl rfl ?_ -- ref.go:20 assign
                      refine Runs_nil ?_
                      refine LoopQ.next (i + 1) [(160, 416)] (by omega) (by omega) ⟨⟨(leq_is rfl rfl (by first | rfl | exact fl_f _ _ | exact fl_t _ _ | exact fl_last _ _ | exact congrArg (Value.int .i64) (by omega) | (simp only [bl_a, bl_c]; omega) | (rw [bl_l]; simp only [bl_a, bl_c]; done) | (rw [show chg 0 false = [] from rfl, List.append_nil]; done) | (rw [show chg 0 true = [] from rfl, List.append_nil]; done))), (leq_own rfl rfl rfl (by first | rfl | exact fl_f _ _ | exact fl_t _ _ | exact fl_last _ _ | exact congrArg (Value.int .i64) (by omega) | (simp only [bl_a, bl_c]; omega) | (rw [bl_l]; simp only [bl_a, bl_c]; done) | (rw [show chg 0 false = [] from rfl, List.append_nil]; done) | (rw [show chg 0 true = [] from rfl, List.append_nil]; done)) (by first | rfl | exact fl_f _ _ | exact fl_t _ _ | exact fl_last _ _ | exact congrArg (Value.int .i64) (by omega) | (simp only [bl_a, bl_c]; omega) | (rw [bl_l]; simp only [bl_a, bl_c]; done) | (rw [show chg 0 false = [] from rfl, List.append_nil]; done) | (rw [show chg 0 true = [] from rfl, List.append_nil]; done))), trivial⟩, ⟨(leq_sl (Reads.sl rfl) rfl rfl rfl), (leq_ptr rfl rfl rfl), trivial⟩, ⟨hp_row rfl (by first | rfl | exact fl_f _ _ | exact fl_t _ _ | exact fl_last _ _ | exact congrArg (Value.int .i64) (by omega) | (simp only [bl_a, bl_c]; omega) | (rw [bl_l]; simp only [bl_a, bl_c]; done) | (rw [show chg 0 false = [] from rfl, List.append_nil]; done) | (rw [show chg 0 true = [] from rfl, List.append_nil]; done)) (by first | rfl | exact fl_f _ _ | exact fl_t _ _ | exact fl_last _ _ | exact congrArg (Value.int .i64) (by omega) | (simp only [bl_a, bl_c]; omega) | (rw [bl_l]; simp only [bl_a, bl_c]; done) | (rw [show chg 0 false = [] from rfl, List.append_nil]; done) | (rw [show chg 0 true = [] from rfl, List.append_nil]; done)), trivial⟩, ⟨hp_var rfl ⟨(leq_is rfl rfl rfl), (leq_is rfl rfl rfl), trivial⟩, trivial⟩, rfl, ⟨supg rfl, supg rfl, trivial⟩, ⟨supg rfl, supg rfl, trivial⟩, ⟨suph rfl rfl, trivial⟩, ⟨suph rfl rfl, trivial⟩, rfl, rfl⟩
                      done)
                  done)
              done)
          · try simp only [decide_eq_false_iff_not] at hb4
            all_goals (
              refine W_exit ?_
              refine thenQ_e ?_
              refine loopQ_e ?_
              refine blockQ_x ?_
              refine thenQ_n ?_
              refine W_seq ?_
              obtain rfl : i = l.length := by omega
              refine W_regionE (c := 27) (c' := 31) (by kernel_rfl) rfl ?_
              refine Runs_p rfl (Valid.movek (A := Ab.Own 160 1 _ _) rfl rfl) rfl rfl ?_ -- ref.go:30 move
              refine Runs_p rfl (Valid.call rfl (of_t (b := (dps l l.length).flatten) (by have := dps_flat (l := l) l.length hal; omega) rfl rfl) ⟨argle_sl (Reads.own rfl), trivial⟩) rfl rfl ?_ -- ref.go:30 call
              refine Runs_op rfl (Valid.storeagg (l := [_, _]) rfl sz27 rfl rfl (Nat.le_of_ble_eq_true rfl) rfl ⟨(One.is rfl rfl rfl), (One.is rfl rfl rfl), trivial⟩) rfl ?_ -- ref.go:30 store
              refine Runs_p rfl (Valid.assignk (A := Is _) rfl rfl) rfl rfl ?_ -- ref.go:30 assign
              refine Runs_nil ?_
              refine thenQ_n ?_
              refine W_ret ?_
              refine finQ_r ?_
              refine ResOk.two rfl (RVal.cellagg ag27 sz27 rfl rfl (Nat.le_of_ble_eq_true rfl) (argle (by first | (rw [pd_1 (by omega)]; done) | (rw [pd_1 (by omega)]; rfl) | (have h5 := pd_2 (l := l) (k := k) (by omega) (by unfold Da.good; have hjj : l.getD (k : Int).toNat 0 = l.getD k 0 := rfl; omega); rw [h5]; done) | (have h5 := pd_2 (l := l) (k := k) (by omega) (by unfold Da.good; have hjj : l.getD (k : Int).toNat 0 = l.getD k 0 := rfl; omega); rw [h5]; rfl) | (have h0 := pd_0 (by omega) hal; rw [h0]; done) | (have h0 := pd_0 (by omega) hal; rw [h0]; rfl)))) (RVal.is rfl rfl (by first | (rw [pd_1 (by omega)]; done) | (rw [pd_1 (by omega)]; rfl) | (have h5 := pd_2 (l := l) (k := k) (by omega) (by unfold Da.good; have hjj : l.getD (k : Int).toNat 0 = l.getD k 0 := rfl; omega); rw [h5]; done) | (have h5 := pd_2 (l := l) (k := k) (by omega) (by unfold Da.good; have hjj : l.getD (k : Int).toNat 0 = l.getD k 0 := rfl; omega); rw [h5]; rfl) | (have h0 := pd_0 (by omega) hal; rw [h0]; done) | (have h0 := pd_0 (by omega) hal; rw [h0]; rfl)))
              done)
          done)
      done)
end Df
end Go.Proofs.Ytbfigolloaeknaa
