/-
  WALKS of stage 12: the reference.
-/
import Derived.Test.YtkjmdnehlodihaaRows
import Derived.Test.YtkjmdnehlodihaaAbs
import Derived.Test.YtkjmdnehlodihaaBb
import Derived.Test.YtkjmdnehlodihaaCm
import Derived.Test.YtkjmdnehlodihaaFz
import Derived.Test.YtkjmdnehlodihaaGm
import Derived.Test.YtkjmdnehlodihaaCa
import Derived.Test.YtkjmdnehlodihaaEa
import Derived.Test.YtkjmdnehlodihaaEb
import Derived.Test.YtkjmdnehlodihaaEc
import Derived.Test.YtkjmdnehlodihaaEd
namespace Go.Proofs.Ytkjmdnehlodihaa
open Go.RowKit
namespace Ee
open Ab Bm Bt Bb Cm Fz Gm Ca Ea Eb Ec Ed

theorem bit_val (u : UInt8) (j : Nat) (h : j ≤ 7) : Int.fdiv (u.toNat : Int) (2 ^ min j 64) % 2 = (((u.toNat.testBit j).toNat : Nat) : Int) := by
  rw [show min j 64 = j by omega]
  have h1 : ((2 : Int) ^ j) = ((2 ^ j : Nat) : Int) := by simp
  rw [h1, Int.fdiv_eq_ediv_of_nonneg _ (Int.natCast_nonneg _), ← Int.natCast_ediv, Nat.testBit_eq_decide_div_mod_eq]
  generalize u.toNat / 2 ^ j = q
  by_cases h2 : q % 2 = 1
  · rw [decide_eq_true h2]; show (q : Int) % 2 = 1; omega
  · rw [decide_eq_false h2]; show (q : Int) % 2 = 0; omega
theorem bit_at (s : ByteArray) (a : Int) (h0 : 0 ≤ a) : Int.fdiv ((bat s (a / 8)).toNat : Int) (2 ^ min (7 - a % 8).toNat (IntKind.i64.bits)) % 2 = (((Bm.bit s.data.toList a.toNat).toNat : Nat) : Int) := by
  have := bit_val (bat s (a / 8)) (7 - a % 8).toNat (by omega)
  rw [show IntKind.i64.bits = 64 from rfl, this]
  unfold Bm.bit bitAt bat
  rw [show (a / 8).toNat = a.toNat / 8 by omega, show (7 - a % 8).toNat = 7 - a.toNat % 8 by omega]

set_option maxRecDepth 100000 in
set_option maxHeartbeats 1000000 in
theorem bit_s (s : ByteArray) (a : Int) (h0 : 0 ≤ a) (h : a < 8 * s.size) (hs : s.size ≤ 1000000000000) :
    FPure Try.prog 52 [Is (.string s), Is (.int .i64 a)] (Is (.int .i64 ((Bm.bit s.data.toList a.toNat).toNat : Int))) := by
  refine FPure.of Try.func52 Try.ntmps52 rfl (by kernel_rfl) rfl rfl rfl ?_
  refine W_seq ?_
  refine W_regionE (c := 1) (c' := 2) (by kernel_rfl) rfl ?_
  refine Runs_p rfl (Valid.assignk (A := Is _) rfl rfl) rfl rfl ?_ -- ref.go:9 assign
  refine Runs_nil ?_
  refine thenQ_n ?_
  refine W_seq ?_
  refine W_regionE (c := 2) (c' := 13) (by kernel_rfl) rfl ?_
  refine Runs_p rfl (Valid.movek (A := Is _) rfl rfl) rfl rfl ?_ -- ref.go:9 move
  refine Runs_p rfl (Valid.movek (A := Is _) rfl rfl) rfl rfl ?_ -- ref.go:9 move
  refine Runs_p rfl (Valid.quo rfl rfl rfl (by first | omega | (simp only [Int.toNat_natCast, toNat_add, toNat_add1, List.length_append, List.length_cons, List.length_nil, List.length_replicate]; omega)) (by first | omega | (simp only [Int.toNat_natCast, toNat_add, toNat_add1, List.length_append, List.length_cons, List.length_nil, List.length_replicate]; omega)) (room64 (by first | omega | (simp only [Int.toNat_natCast, toNat_add, toNat_add1, List.length_append, List.length_cons, List.length_nil, List.length_replicate]; omega)) (by first | omega | (simp only [Int.toNat_natCast, toNat_add, toNat_add1, List.length_append, List.length_cons, List.length_nil, List.length_replicate]; omega)))) rfl rfl ?_ -- ref.go:9 binOp
  refine Runs_p rfl (Valid.sindex rfl Try.underlying9 rfl rfl (by first | omega | (simp only [Int.toNat_natCast, toNat_add, toNat_add1, List.length_append, List.length_cons, List.length_nil, List.length_replicate]; omega))) rfl rfl ?_ -- ref.go:9 index
  refine Runs_p rfl (Valid.convr rfl rfl Try.underlying5 Try.underlying3 (room64 (by first | omega | (have hbb := (bat s (a / 8)).toNat_lt; omega)) (by first | omega | (have hbb := (bat s (a / 8)).toNat_lt; omega)))) rfl rfl ?_ -- ref.go:9 convert
  refine Runs_p rfl (Valid.movek (A := Is _) rfl rfl) rfl rfl ?_ -- ref.go:9 move
  refine Runs_p rfl (Valid.rem rfl rfl rfl (by first | omega | exact Int.fdiv_nonneg (by omega) (Int.le_of_lt (Int.pow_pos (by omega)))) (by first | omega | exact Int.fdiv_nonneg (by omega) (Int.le_of_lt (Int.pow_pos (by omega))))) rfl rfl ?_ -- ref.go:9 binOp
  refine Runs_p rfl (Valid.sub rfl rfl rfl (room64 (by first | omega | (simp only [Int.toNat_natCast, toNat_add, toNat_add1, List.length_append, List.length_cons, List.length_nil, List.length_replicate]; omega)) (by first | omega | (simp only [Int.toNat_natCast, toNat_add, toNat_add1, List.length_append, List.length_cons, List.length_nil, List.length_replicate]; omega)))) rfl rfl ?_ -- ref.go:9 binOp
  refine Runs_p rfl (Valid.shrw rfl rfl rfl (by first | omega | (simp only [Int.toNat_natCast, toNat_add, toNat_add1, List.length_append, List.length_cons, List.length_nil, List.length_replicate]; omega))) rfl rfl ?_ -- ref.go:9 binOp
  refine Runs_p rfl (Valid.rem rfl rfl rfl (by first | omega | exact Int.fdiv_nonneg (by omega) (Int.le_of_lt (Int.pow_pos (by omega)))) (by first | omega | exact Int.fdiv_nonneg (by omega) (Int.le_of_lt (Int.pow_pos (by omega))))) rfl rfl ?_ -- ref.go:9 binOp
  refine Runs_p rfl (Valid.assignk (A := Is _) rfl rfl) rfl rfl ?_ -- ref.go:9 assign
  refine Runs_nil ?_
  refine thenQ_n ?_
  refine W_ret ?_
  refine finQ_r ?_
  refine ResOk.one rfl (RVal.is rfl rfl (by rw [bit_at s a h0]))

theorem get_step (s : ByteArray) (a k : Nat) (hk : k < 64) : IntKind.u64.wrap (IntKind.u64.wrap (2 * ((val (bitsAt s.data.toList a k) : Nat) : Int)) + (((Bm.bit s.data.toList (a + k)).toNat : Nat) : Int)) = ((val (bitsAt s.data.toList a (k + 1)) : Nat) : Int) := by
  have h1 := val_lt (bitsAt s.data.toList a (k + 1))
  rw [bitsAt_len] at h1
  have h2 : 2 ^ (k + 1) ≤ 2 ^ 64 := Nat.pow_le_pow_right (by omega) (by omega)
  have h3 : val (bitsAt s.data.toList a (k + 1)) = 2 * val (bitsAt s.data.toList a k) + (Bm.bit s.data.toList (a + k)).toNat := by
    unfold bitsAt
    rw [List.range_succ, List.map_append, val_append]
    simp [val]; omega
  rw [h3] at h1 ⊢
  rw [IntKind.wrap_u64, IntKind.wrap_u64]
  omega
theorem val_0 (s : ByteArray) (a : Nat) : val (bitsAt s.data.toList a 0) = 0 := rfl
theorem gv_1 {s : ByteArray} {a n : Int} (h : (n < 0 ∨ 64 < n) ∨ a < 0) : getV s a n = (0, 1) := by
  rw [getV, if_pos]
  rcases h with (h | h) | h
  · rw [decide_eq_false (show ¬ 0 ≤ n by omega)]; rfl
  · rw [decide_eq_false (show ¬ n ≤ 64 by omega)]; simp
  · rw [decide_eq_false (show ¬ 0 ≤ a by omega)]; simp
theorem gv_no {a n : Int} (h : ¬ ((n < 0 ∨ 64 < n) ∨ a < 0)) : ¬ (decide (0 ≤ n) && decide (n ≤ 64) && decide (0 ≤ a)) = false := by
  rw [decide_eq_true (show 0 ≤ n by omega), decide_eq_true (show n ≤ 64 by omega), decide_eq_true (show 0 ≤ a by omega)]; decide
theorem gv_2 {s : ByteArray} {a n : Int} (h : ¬ ((n < 0 ∨ 64 < n) ∨ a < 0)) (h2 : 8 * (s.size : Int) - n < a) : getV s a n = (0, 2) := by
  rw [getV, if_neg (gv_no h), if_neg (by omega)]
theorem gv_0 {s : ByteArray} {a n : Int} (h : ¬ ((n < 0 ∨ 64 < n) ∨ a < 0)) (h2 : ¬ 8 * (s.size : Int) - n < a) {k : Nat} (hk : n.toNat = k) : getV s a n = (((val (bitsAt s.data.toList a.toNat k) : Nat) : Int), 0) := by
  rw [getV, if_neg (gv_no h), if_pos (by omega), hk]

set_option maxRecDepth 100000 in
set_option maxHeartbeats 1000000 in
theorem rget_s (s : ByteArray) (a n : Int) (hs : s.size ≤ 1000000000000) (ha : a ≤ 9223372036854775807) :
    FPure Try.prog 43 [Is (.string s), Is (.int .i64 a), Is (.int .i64 n)] (Tup [Is (.int .u64 (getV s a n).1), Is (.int .i64 (getV s a n).2)]) := by
  refine FPure.of Try.func43 Try.ntmps43 rfl (by kernel_rfl) rfl rfl rfl ?_
  refine W_seq ?_
  refine W_regionE (c := 1) (c' := 3) (by kernel_rfl) rfl ?_
  refine Runs_p rfl (Valid.assignk (A := Is _) rfl rfl) rfl rfl ?_ -- ref.go:88 assign
  refine Runs_p rfl (Valid.assignk (A := Is _) rfl rfl) rfl rfl ?_ -- ref.go:88 assign
  refine Runs_nil ?_
  refine thenQ_n ?_
  refine W_seq ?_
  refine W_seq ?_
  refine W_regionE (c := 3) (c' := 13) (by kernel_rfl) rfl ?_
  refine Runs_p rfl (Valid.movek (A := Is _) rfl rfl) rfl rfl ?_ -- ref.go:89 move
  refine Runs_p rfl (Valid.lss rfl rfl rfl) rfl rfl ?_ -- ref.go:89 binOp
  refine Runs_p rfl (Valid.movek (A := Is _) rfl rfl) rfl rfl ?_ -- ref.go:89 move
  refine Runs_cnd rfl rfl (Grd.is rfl) [] (fun hg => trivial) (fun hg => Valid.movek (A := Is _) rfl rfl) (by rfl) rfl ?_
  refine Runs_cnd rfl rfl (Grd.is rfl) [(13, _)] (fun hg => ⟨cnd_at rfl (by first | exact hg | exact hg.1 | exact hg.1.1 | exact hg.1.1.1), trivial⟩) (fun hg => Valid.gtr rfl rfl rfl) (by rfl) rfl ?_
  refine Runs_p rfl (Valid.pickor rfl rfl rfl rfl (fun h => by first | exact h | exact ⟨hg, h⟩)) rfl rfl ?_ -- ref.go:89 pick
  refine Runs_p rfl (Valid.movek (A := Is _) rfl rfl) rfl rfl ?_ -- ref.go:89 move
  refine Runs_cnd rfl rfl (Grd.is rfl) [] (fun hg => trivial) (fun hg => Valid.movek (A := Is _) rfl rfl) (by rfl) rfl ?_
  refine Runs_cnd rfl rfl (Grd.is rfl) [(17, _)] (fun hg => ⟨cnd_at rfl (by first | exact hg | exact hg.1 | exact hg.1.1 | exact hg.1.1.1), trivial⟩) (fun hg => Valid.lss rfl rfl rfl) (by rfl) rfl ?_
  refine Runs_p rfl (Valid.pickor rfl rfl rfl rfl (fun h => by first | exact h | exact ⟨hg, h⟩)) rfl rfl ?_ -- ref.go:89 pick
  refine Runs_nil ?_
  refine thenQ_n ?_
  refine W_cond _ rfl (fun hb1 => ?_) (fun hb1 => ?_)
  · try simp only [decide_eq_true_eq, Bool.or_eq_true] at hb1
    all_goals (
      refine W_seq ?_
      refine W_regionE (c := 13) (c' := 15) (by kernel_rfl) rfl ?_
      refine Runs_p rfl (Valid.assignk (A := Is _) rfl rfl) rfl rfl ?_ -- ref.go:90 assign
      refine Runs_p rfl (Valid.assignk (A := Is _) rfl rfl) rfl rfl ?_ -- ref.go:90 assign
      refine Runs_nil ?_
      refine thenQ_n ?_
      refine W_ret ?_
      refine thenQ_r ?_
      refine finQ_r ?_
      refine ResOk.two rfl (RVal.is rfl rfl (by first | (rw [gv_1 (by omega)]; done) | (rw [gv_2 (by omega) (by omega)]; done) | (rw [gv_0 (by omega) (by omega) (k := k) (by omega)]))) (RVal.is rfl rfl (by first | (rw [gv_1 (by omega)]; done) | (rw [gv_2 (by omega) (by omega)]; done) | (rw [gv_0 (by omega) (by omega) (k := k) (by omega)])))
      done)
  · try simp only [decide_eq_false_iff_not, Bool.or_eq_false_iff] at hb1
    all_goals (
      refine W_skip ?_
      refine thenQ_n ?_
      refine W_seq ?_
      refine W_seq ?_
      refine W_regionE (c := 13) (c' := 20) (by kernel_rfl) rfl ?_
      refine Runs_p rfl (Valid.movek (A := Is _) rfl rfl) rfl rfl ?_ -- ref.go:92 move
      refine Runs_p rfl (Valid.movek (A := Is _) rfl rfl) rfl rfl ?_ -- ref.go:92 move
      refine Runs_p rfl (Valid.slen rfl Try.underlying9 rfl) rfl rfl ?_ -- ref.go:92 call
      refine Runs_p rfl (Valid.mul rfl rfl rfl (room64 (by first | omega | (simp only [Int.toNat_natCast, toNat_add, toNat_add1, List.length_append, List.length_cons, List.length_nil, List.length_replicate]; omega)) (by first | omega | (simp only [Int.toNat_natCast, toNat_add, toNat_add1, List.length_append, List.length_cons, List.length_nil, List.length_replicate]; omega)))) rfl rfl ?_ -- ref.go:92 binOp
      refine Runs_p rfl (Valid.movek (A := Is _) rfl rfl) rfl rfl ?_ -- ref.go:92 move
      refine Runs_p rfl (Valid.sub rfl rfl rfl (room64 (by first | omega | (simp only [Int.toNat_natCast, toNat_add, toNat_add1, List.length_append, List.length_cons, List.length_nil, List.length_replicate]; omega)) (by first | omega | (simp only [Int.toNat_natCast, toNat_add, toNat_add1, List.length_append, List.length_cons, List.length_nil, List.length_replicate]; omega)))) rfl rfl ?_ -- ref.go:92 binOp
      refine Runs_p rfl (Valid.gtr rfl rfl rfl) rfl rfl ?_ -- ref.go:92 binOp
      refine Runs_nil ?_
      refine thenQ_n ?_
      refine W_cond _ rfl (fun hb2 => ?_) (fun hb2 => ?_)
      · try simp only [decide_eq_true_eq] at hb2
        all_goals (
          refine W_seq ?_
          refine W_regionE (c := 20) (c' := 22) (by kernel_rfl) rfl ?_
          refine Runs_p rfl (Valid.assignk (A := Is _) rfl rfl) rfl rfl ?_ -- ref.go:93 assign
          refine Runs_p rfl (Valid.assignk (A := Is _) rfl rfl) rfl rfl ?_ -- ref.go:93 assign
          refine Runs_nil ?_
          refine thenQ_n ?_
          refine W_ret ?_
          refine thenQ_r ?_
          refine finQ_r ?_
          refine ResOk.two rfl (RVal.is rfl rfl (by first | (rw [gv_1 (by omega)]; done) | (rw [gv_2 (by omega) (by omega)]; done) | (rw [gv_0 (by omega) (by omega) (k := k) (by omega)]))) (RVal.is rfl rfl (by first | (rw [gv_1 (by omega)]; done) | (rw [gv_2 (by omega) (by omega)]; done) | (rw [gv_0 (by omega) (by omega) (k := k) (by omega)])))
          done)
      · try simp only [decide_eq_false_iff_not] at hb2
        all_goals (
          refine W_skip ?_
          refine thenQ_n ?_
          refine W_seq ?_
          refine W_regionE (c := 20) (c' := 21) (by kernel_rfl) rfl ?_
          refine Runs_p rfl (Valid.assignk (A := Is _) rfl rfl) rfl rfl ?_ -- ref.go:95 assign
          refine Runs_nil ?_
          refine thenQ_n ?_
          refine W_seq ?_
          refine W_seq ?_
          refine W_regionE (c := 21) (c' := 22) (by kernel_rfl) rfl ?_
          refine Runs_p rfl (Valid.assignk (A := Is _) rfl rfl) rfl rfl ?_ -- ref.go:96 assign
          refine Runs_nil ?_
          refine thenQ_n ?_
          refine W_block ?_
          refine W_loopx (G := Nat) (fun (k : Nat) => (k : Int) ≤ n) [(0, Is _), (1, Is _), (2, Is _)] (fun (k : Nat) => [(9, Is (.int .i64 (k : Int))), (8, Is (.int .u64 ((val (bitsAt s.data.toList a.toNat k) : Nat) : Int)))]) [] (fun (k : Nat) => []) 22 (fun (k : Nat) => n.toNat - k) (0) [] (by first | trivial | omega | (simp; omega)) ⟨⟨(leq_is rfl rfl (by rfl)), (leq_is rfl rfl (by rfl)), trivial⟩, ⟨(leq_is rfl rfl rfl), (leq_is rfl rfl rfl), (leq_is rfl rfl rfl), trivial⟩, trivial, trivial, rfl, ⟨supg rfl, supg rfl, trivial⟩, ⟨supg rfl, supg rfl, supg rfl, trivial⟩, trivial, trivial, rfl, rfl⟩ ?_
          intro k hI1
          have hbl := Bool.toNat_le (Bm.bit s.data.toList (a + (k : Int)).toNat)
          have hgs := get_step s a.toNat k
          have hak : (a + (k : Int)).toNat = a.toNat + k := by omega
          rw [← hak] at hgs
          refine W_seq ?_
          refine W_seq ?_
          refine W_regionE (c := 22) (c' := 25) (by kernel_rfl) rfl ?_
          refine Runs_p rfl (Valid.movek (A := Is _) rfl rfl) rfl rfl ?_ -- ref.go:96 move
          refine Runs_p rfl (Valid.movek (A := Is _) rfl rfl) rfl rfl ?_ -- ref.go:96 move
          refine Runs_p rfl (Valid.lss rfl rfl rfl) rfl rfl ?_ -- ref.go:96 binOp
          refine Runs_nil ?_
          refine thenQ_n ?_
          refine W_cond _ rfl (fun hb3 => ?_) (fun hb3 => ?_)
          · try simp only [decide_eq_true_eq] at hb3
            all_goals (
              refine W_skip ?_
              refine thenQ_n ?_
              refine W_seq ?_
              refine W_block ?_
              refine W_regionE (c := 25) (c' := 35) (by kernel_rfl) rfl ?_
              refine Runs_p rfl (Valid.movek (A := Is _) rfl rfl) rfl rfl ?_ -- ref.go:97 move
              refine Runs_p rfl (Valid.mulw rfl rfl rfl) rfl rfl ?_ -- ref.go:97 binOp
              refine Runs_p rfl (Valid.movek (A := Is _) rfl rfl) rfl rfl ?_ -- ref.go:97 move
              refine Runs_p rfl (Valid.movek (A := Is _) rfl rfl) rfl rfl ?_ -- ref.go:97 move
              refine Runs_p rfl (Valid.movek (A := Is _) rfl rfl) rfl rfl ?_ -- ref.go:97 move
              refine Runs_p rfl (Valid.add rfl rfl rfl (room64 (by first | omega | (simp only [Int.toNat_natCast, toNat_add, toNat_add1, List.length_append, List.length_cons, List.length_nil, List.length_replicate]; omega)) (by first | omega | (simp only [Int.toNat_natCast, toNat_add, toNat_add1, List.length_append, List.length_cons, List.length_nil, List.length_replicate]; omega)))) rfl rfl ?_ -- ref.go:97 binOp
              refine Runs_p rfl (Valid.call rfl (bit_s _ _ (by omega) (by omega) (by omega)) ⟨argle rfl, argle rfl, trivial⟩) rfl rfl ?_ -- ref.go:97 call
              refine Runs_p rfl (Valid.convr rfl rfl Try.underlying3 Try.underlying44 (by unfold Room; rw [IntKind.wrap_u64]; omega)) rfl rfl ?_ -- ref.go:97 convert
              refine Runs_p rfl (Valid.addw rfl rfl rfl) rfl rfl ?_ -- ref.go:97 binOp
              refine Runs_p rfl (Valid.assignk (A := Is _) rfl rfl) rfl rfl ?_ -- ref.go:97 assign
              refine Runs_nil ?_
              refine blockQ_n ?_
              refine thenQ_n ?_
              refine W_regionE (c := 35) (c' := 38) (by kernel_rfl) rfl ?_
              refine Runs_p rfl (Valid.movek (A := Is _) rfl rfl) rfl rfl ?_ -- ref.go:96 move
              refine Runs_p rfl (Valid.add rfl rfl rfl (room64 (by first | omega | (simp only [Int.toNat_natCast, toNat_add, toNat_add1, List.length_append, List.length_cons, List.length_nil, List.length_replicate]; omega)) (by first | omega | (simp only [Int.toNat_natCast, toNat_add, toNat_add1, List.length_append, List.length_cons, List.length_nil, List.length_replicate]; omega)))) rfl rfl ?_ -- ref.go:96 binOp
              refine Runs_p rfl (Valid.assignk (A := Is _) rfl rfl) rfl rfl ?_ -- ref.go:96 assign
              refine Runs_nil ?_
              refine LoopQ.next (k + 1) [] (by omega) (by omega) ⟨⟨(leq_is rfl rfl (by first | rfl | exact congrArg (Value.int .u64) (hgs (by omega)))), (leq_is rfl rfl (by first | rfl | exact congrArg (Value.int .u64) (hgs (by omega)))), trivial⟩, ⟨(leq_is rfl rfl rfl), (leq_is rfl rfl rfl), (leq_is rfl rfl rfl), trivial⟩, trivial, trivial, rfl, ⟨supg rfl, supg rfl, trivial⟩, ⟨supg rfl, supg rfl, supg rfl, trivial⟩, trivial, trivial, rfl, rfl⟩
              done)
          · try simp only [decide_eq_false_iff_not] at hb3
            all_goals (
              refine W_exit ?_
              refine thenQ_e ?_
              refine loopQ_e ?_
              refine blockQ_x ?_
              refine thenQ_n ?_
              refine W_seq ?_
              refine W_regionE (c := 25) (c' := 28) (by kernel_rfl) rfl ?_
              refine Runs_p rfl (Valid.movek (A := Is _) rfl rfl) rfl rfl ?_ -- ref.go:99 move
              refine Runs_p rfl (Valid.assignk (A := Is _) rfl rfl) rfl rfl ?_ -- ref.go:99 assign
              refine Runs_p rfl (Valid.assignk (A := Is _) rfl rfl) rfl rfl ?_ -- ref.go:99 assign
              refine Runs_nil ?_
              refine thenQ_n ?_
              refine W_ret ?_
              refine finQ_r ?_
              refine ResOk.two rfl (RVal.is rfl rfl (by first | (rw [gv_1 (by omega)]; done) | (rw [gv_2 (by omega) (by omega)]; done) | (rw [gv_0 (by omega) (by omega) (k := k) (by omega)]))) (RVal.is rfl rfl (by first | (rw [gv_1 (by omega)]; done) | (rw [gv_2 (by omega) (by omega)]; done) | (rw [gv_0 (by omega) (by omega) (k := k) (by omega)])))
              done)
          done)
      done)

set_option maxRecDepth 100000 in
set_option maxHeartbeats 1000000 in
theorem place_r (s : ByteArray) (a0 t : Int) (hs : s.size ≤ 1000000000000) (h0 : 0 ≤ a0) (ha : a0 ≤ 9223372036854775807) (ht : 2 ≤ t ∧ t ≤ 6) :
    FPure Try.prog 27 [Is (.string s), Is (.int .i64 a0), Is (.int .i64 t)] (Tup [Is (.int .i64 (((tkF s t.toNat 0 a0).1 : Nat) : Int)), Is (.int .i64 (tkF s t.toNat 0 a0).2.1), Is (.int .i64 (tkF s t.toNat 0 a0).2.2)]) := by
  refine FPure.of Try.func27 Try.ntmps27 rfl (by kernel_rfl) rfl rfl rfl ?_
  refine W_seq ?_
  refine W_regionE (c := 1) (c' := 4) (by kernel_rfl) rfl ?_
  refine Runs_p rfl (Valid.assignk (A := Is _) rfl rfl) rfl rfl ?_ -- ref.go:37 assign
  refine Runs_p rfl (Valid.assignk (A := Is _) rfl rfl) rfl rfl ?_ -- ref.go:37 assign
  refine Runs_p rfl (Valid.assignk (A := Is _) rfl rfl) rfl rfl ?_ -- ref.go:37 assign
  refine Runs_nil ?_
  refine thenQ_n ?_
  refine W_seq ?_
  refine W_regionE (c := 4) (c' := 5) (by kernel_rfl) rfl ?_
  refine Runs_p rfl (Valid.assignk (A := Is _) rfl rfl) rfl rfl ?_ -- ref.go:38 assign
  refine Runs_nil ?_
  refine thenQ_n ?_
  refine W_seq ?_
  refine W_regionE (c := 5) (c' := 7) (by kernel_rfl) rfl ?_
  refine Runs_p rfl (Valid.movek (A := Is _) rfl rfl) rfl rfl ?_ -- ref.go:39 move
  refine Runs_p rfl (Valid.assignk (A := Is _) rfl rfl) rfl rfl ?_ -- ref.go:39 assign
  refine Runs_nil ?_
  refine thenQ_n ?_
  refine W_block ?_
  refine W_loopx (G := Nat × Int) (fun (g_ : Nat × Int) => match g_ with | ⟨k, a⟩ => (k : Int) < t ∧ 0 ≤ a ∧ a ≤ 9223372036854775807 ∧ tkF s (t.toNat - k) k a = (tkF s t.toNat 0 a0)) [(0, Is _), (2, Is _)] (fun (g_ : Nat × Int) => match g_ with | ⟨k, a⟩ => [(9, Is (.int .i64 (k : Int))), (10, Is (.int .i64 a))]) [] (fun (g_ : Nat × Int) => match g_ with | ⟨k, a⟩ => []) 7 (fun (g_ : Nat × Int) => match g_ with | ⟨k, a⟩ => t.toNat - k) (⟨0, a0⟩) [] (⟨by omega, h0, ha, rfl⟩) ⟨⟨(leq_is rfl rfl (by rfl)), (leq_is rfl rfl (by rfl)), trivial⟩, ⟨(leq_is rfl rfl rfl), (leq_is rfl rfl rfl), trivial⟩, trivial, trivial, rfl, ⟨supg rfl, supg rfl, trivial⟩, ⟨supg rfl, supg rfl, trivial⟩, trivial, trivial, rfl, rfl⟩ ?_
  intro ⟨k, a⟩ hI1
  obtain ⟨hI2, hI3, hI5, hI4⟩ := hI1
  have hg : (getV s a 1).2 = 0 → _ := fun h => getV_ok h
  refine W_seq ?_
  refine W_block ?_
  refine W_seq ?_
  refine W_regionE (c := 7) (c' := 15) (by kernel_rfl) rfl ?_
  refine Runs_p rfl (Valid.movek (A := Is _) rfl rfl) rfl rfl ?_ -- ref.go:40 move
  refine Runs_p rfl (Valid.movek (A := Is _) rfl rfl) rfl rfl ?_ -- ref.go:40 move
  refine Runs_p rfl (Valid.call rfl (rget_s _ _ _ (by omega) (by omega)) ⟨argle rfl, argle rfl, argle rfl, trivial⟩) rfl rfl ?_ -- ref.go:40 call
  refine Runs_p rfl (Valid.movek (A := Tup [Is _, Is _]) rfl rfl) rfl rfl ?_ -- ref.go:40 move
  refine Runs_p rfl (Valid.extract _ rfl rfl rfl) rfl rfl ?_ -- ref.go:40 extract
  refine Runs_p rfl (Valid.extract _ rfl rfl rfl) rfl rfl ?_ -- ref.go:40 extract
  refine Runs_p rfl (Valid.assignk (A := Is _) rfl rfl) rfl rfl ?_ -- ref.go:40 assign
  refine Runs_p rfl (Valid.assignk (A := Is _) rfl rfl) rfl rfl ?_ -- ref.go:40 assign
  refine Runs_nil ?_
  refine thenQ_n ?_
  refine W_seq ?_
  refine W_seq ?_
  refine W_regionE (c := 15) (c' := 17) (by kernel_rfl) rfl ?_
  refine Runs_p rfl (Valid.movek (A := Is _) rfl rfl) rfl rfl ?_ -- ref.go:41 move
  refine Runs_p rfl (Valid.neq rfl rfl rfl) rfl rfl ?_ -- ref.go:41 binOp
  refine Runs_nil ?_
  refine thenQ_n ?_
  refine W_cond _ rfl (fun hb1 => ?_) (fun hb1 => ?_)
  · try simp only [decide_eq_true_eq, ne_eq] at hb1
    all_goals (
      have he : ¬ (getV s a 1).2 = 0 := hb1
      refine W_seq ?_
      refine W_regionE (c := 17) (c' := 21) (by kernel_rfl) rfl ?_
      refine Runs_p rfl (Valid.movek (A := Is _) rfl rfl) rfl rfl ?_ -- ref.go:42 move
      refine Runs_p rfl (Valid.assignk (A := Is _) rfl rfl) rfl rfl ?_ -- ref.go:42 assign
      refine Runs_p rfl (Valid.assignk (A := Is _) rfl rfl) rfl rfl ?_ -- ref.go:42 assign
      refine Runs_p rfl (Valid.assignk (A := Is _) rfl rfl) rfl rfl ?_ -- ref.go:42 assign
      refine Runs_nil ?_
      refine thenQ_n ?_
      refine W_ret ?_
      refine thenQ_r ?_
      refine blockQ_r ?_
      refine thenQ_r ?_
      refine loopQ_r ?_
      refine blockQ_r ?_
      refine finQ_r ?_
      refine ResOk.three rfl (RVal.is rfl rfl (by first | (rw [(hI4.symm.trans (tk_e (by omega) he))]; done) | (rw [(hI4.symm.trans (tk_n (by omega) hz h0))]; done) | (rw [(hI4.symm.trans ((tk_o (by omega) hz h1).trans (by rw [show t.toNat - k - 1 = 0 by omega, tk_0])))]; done) | (rw [(hI4.symm.trans (tk_e (by omega) he))]; rfl) | (rw [(hI4.symm.trans (tk_n (by omega) hz h0))]; rfl) | (rw [(hI4.symm.trans ((tk_o (by omega) hz h1).trans (by rw [show t.toNat - k - 1 = 0 by omega, tk_0])))]; rfl))) (RVal.is rfl rfl (by first | (rw [(hI4.symm.trans (tk_e (by omega) he))]; done) | (rw [(hI4.symm.trans (tk_n (by omega) hz h0))]; done) | (rw [(hI4.symm.trans ((tk_o (by omega) hz h1).trans (by rw [show t.toNat - k - 1 = 0 by omega, tk_0])))]; done) | (rw [(hI4.symm.trans (tk_e (by omega) he))]; rfl) | (rw [(hI4.symm.trans (tk_n (by omega) hz h0))]; rfl) | (rw [(hI4.symm.trans ((tk_o (by omega) hz h1).trans (by rw [show t.toNat - k - 1 = 0 by omega, tk_0])))]; rfl))) (RVal.is rfl rfl (by first | (rw [(hI4.symm.trans (tk_e (by omega) he))]; done) | (rw [(hI4.symm.trans (tk_n (by omega) hz h0))]; done) | (rw [(hI4.symm.trans ((tk_o (by omega) hz h1).trans (by rw [show t.toNat - k - 1 = 0 by omega, tk_0])))]; done) | (rw [(hI4.symm.trans (tk_e (by omega) he))]; rfl) | (rw [(hI4.symm.trans (tk_n (by omega) hz h0))]; rfl) | (rw [(hI4.symm.trans ((tk_o (by omega) hz h1).trans (by rw [show t.toNat - k - 1 = 0 by omega, tk_0])))]; rfl)))
      done)
  · try simp only [decide_eq_false_iff_not, ne_eq] at hb1
    all_goals (
      have hz : (getV s a 1).2 = 0 := by simpa using hb1
      refine W_skip ?_
      refine thenQ_n ?_
      refine W_seq ?_
      refine W_seq ?_
      refine W_regionE (c := 17) (c' := 19) (by kernel_rfl) rfl ?_
      refine Runs_p rfl (Valid.movek (A := Is _) rfl rfl) rfl rfl ?_ -- ref.go:44 move
      refine Runs_p rfl (Valid.eql rfl rfl rfl) rfl rfl ?_ -- ref.go:44 binOp
      refine Runs_nil ?_
      refine thenQ_n ?_
      refine W_cond _ rfl (fun hb2 => ?_) (fun hb2 => ?_)
      · try simp only [decide_eq_true_eq] at hb2
        all_goals (
          have h0 : (getV s a 1).1 = 0 := hb2
          refine W_seq ?_
          refine W_regionE (c := 19) (c' := 25) (by kernel_rfl) rfl ?_
          refine Runs_p rfl (Valid.movek (A := Is _) rfl rfl) rfl rfl ?_ -- ref.go:45 move
          refine Runs_p rfl (Valid.movek (A := Is _) rfl rfl) rfl rfl ?_ -- ref.go:45 move
          refine Runs_p rfl (Valid.add rfl rfl rfl (room64 (by have := hg hz; omega) (by have := hg hz; omega))) rfl rfl ?_ -- ref.go:45 binOp
          refine Runs_p rfl (Valid.assignk (A := Is _) rfl rfl) rfl rfl ?_ -- ref.go:45 assign
          refine Runs_p rfl (Valid.assignk (A := Is _) rfl rfl) rfl rfl ?_ -- ref.go:45 assign
          refine Runs_p rfl (Valid.assignk (A := Is _) rfl rfl) rfl rfl ?_ -- ref.go:45 assign
          refine Runs_nil ?_
          refine thenQ_n ?_
          refine W_ret ?_
          refine thenQ_r ?_
          refine blockQ_r ?_
          refine thenQ_r ?_
          refine loopQ_r ?_
          refine blockQ_r ?_
          refine finQ_r ?_
          refine ResOk.three rfl (RVal.is rfl rfl (by first | (rw [(hI4.symm.trans (tk_e (by omega) he))]; done) | (rw [(hI4.symm.trans (tk_n (by omega) hz h0))]; done) | (rw [(hI4.symm.trans ((tk_o (by omega) hz h1).trans (by rw [show t.toNat - k - 1 = 0 by omega, tk_0])))]; done) | (rw [(hI4.symm.trans (tk_e (by omega) he))]; rfl) | (rw [(hI4.symm.trans (tk_n (by omega) hz h0))]; rfl) | (rw [(hI4.symm.trans ((tk_o (by omega) hz h1).trans (by rw [show t.toNat - k - 1 = 0 by omega, tk_0])))]; rfl))) (RVal.is rfl rfl (by first | (rw [(hI4.symm.trans (tk_e (by omega) he))]; done) | (rw [(hI4.symm.trans (tk_n (by omega) hz h0))]; done) | (rw [(hI4.symm.trans ((tk_o (by omega) hz h1).trans (by rw [show t.toNat - k - 1 = 0 by omega, tk_0])))]; done) | (rw [(hI4.symm.trans (tk_e (by omega) he))]; rfl) | (rw [(hI4.symm.trans (tk_n (by omega) hz h0))]; rfl) | (rw [(hI4.symm.trans ((tk_o (by omega) hz h1).trans (by rw [show t.toNat - k - 1 = 0 by omega, tk_0])))]; rfl))) (RVal.is rfl rfl (by first | (rw [(hI4.symm.trans (tk_e (by omega) he))]; done) | (rw [(hI4.symm.trans (tk_n (by omega) hz h0))]; done) | (rw [(hI4.symm.trans ((tk_o (by omega) hz h1).trans (by rw [show t.toNat - k - 1 = 0 by omega, tk_0])))]; done) | (rw [(hI4.symm.trans (tk_e (by omega) he))]; rfl) | (rw [(hI4.symm.trans (tk_n (by omega) hz h0))]; rfl) | (rw [(hI4.symm.trans ((tk_o (by omega) hz h1).trans (by rw [show t.toNat - k - 1 = 0 by omega, tk_0])))]; rfl)))
          done)
      · try simp only [decide_eq_false_iff_not] at hb2
        all_goals (
          have h1 : ¬ (getV s a 1).1 = 0 := hb2
          refine W_skip ?_
          refine thenQ_n ?_
          refine W_seq ?_
          refine W_regionE (c := 19) (c' := 22) (by kernel_rfl) rfl ?_
          refine Runs_p rfl (Valid.movek (A := Is _) rfl rfl) rfl rfl ?_ -- ref.go:47 move
          refine Runs_p rfl (Valid.add rfl rfl rfl (room64 (by first | omega | (simp only [Int.toNat_natCast, toNat_add, toNat_add1, List.length_append, List.length_cons, List.length_nil, List.length_replicate]; omega)) (by first | omega | (simp only [Int.toNat_natCast, toNat_add, toNat_add1, List.length_append, List.length_cons, List.length_nil, List.length_replicate]; omega)))) rfl rfl ?_ -- ref.go:47 binOp
          refine Runs_p rfl (Valid.assignk (A := Is _) rfl rfl) rfl rfl ?_ -- ref.go:47 assign
          refine Runs_nil ?_
          refine thenQ_n ?_
          refine W_seq ?_
          refine W_regionE (c := 22) (c' := 25) (by kernel_rfl) rfl ?_
          refine Runs_p rfl (Valid.movek (A := Is _) rfl rfl) rfl rfl ?_ -- ref.go:48 move
          refine Runs_p rfl (Valid.movek (A := Is _) rfl rfl) rfl rfl ?_ -- ref.go:48 move
          refine Runs_p rfl (Valid.eql rfl rfl rfl) rfl rfl ?_ -- ref.go:48 binOp
          refine Runs_nil ?_
          refine thenQ_n ?_
          refine W_cond _ rfl (fun hb3 => ?_) (fun hb3 => ?_)
          · try simp only [decide_eq_true_eq] at hb3
            all_goals (
              refine W_seq ?_
              refine W_regionE (c := 25) (c' := 28) (by kernel_rfl) rfl ?_
              refine Runs_p rfl (Valid.assignk (A := Is _) rfl rfl) rfl rfl ?_ -- ref.go:49 assign
              refine Runs_p rfl (Valid.assignk (A := Is _) rfl rfl) rfl rfl ?_ -- ref.go:49 assign
              refine Runs_p rfl (Valid.assignk (A := Is _) rfl rfl) rfl rfl ?_ -- ref.go:49 assign
              refine Runs_nil ?_
              refine thenQ_n ?_
              refine W_ret ?_
              refine blockQ_r ?_
              refine thenQ_r ?_
              refine loopQ_r ?_
              refine blockQ_r ?_
              refine finQ_r ?_
              refine ResOk.three rfl (RVal.is rfl rfl (by first | (rw [(hI4.symm.trans (tk_e (by omega) he))]; done) | (rw [(hI4.symm.trans (tk_n (by omega) hz h0))]; done) | (rw [(hI4.symm.trans ((tk_o (by omega) hz h1).trans (by rw [show t.toNat - k - 1 = 0 by omega, tk_0])))]; done) | (rw [(hI4.symm.trans (tk_e (by omega) he))]; rfl) | (rw [(hI4.symm.trans (tk_n (by omega) hz h0))]; rfl) | (rw [(hI4.symm.trans ((tk_o (by omega) hz h1).trans (by rw [show t.toNat - k - 1 = 0 by omega, tk_0])))]; rfl))) (RVal.is rfl rfl (by first | (rw [(hI4.symm.trans (tk_e (by omega) he))]; done) | (rw [(hI4.symm.trans (tk_n (by omega) hz h0))]; done) | (rw [(hI4.symm.trans ((tk_o (by omega) hz h1).trans (by rw [show t.toNat - k - 1 = 0 by omega, tk_0])))]; done) | (rw [(hI4.symm.trans (tk_e (by omega) he))]; rfl) | (rw [(hI4.symm.trans (tk_n (by omega) hz h0))]; rfl) | (rw [(hI4.symm.trans ((tk_o (by omega) hz h1).trans (by rw [show t.toNat - k - 1 = 0 by omega, tk_0])))]; rfl))) (RVal.is rfl rfl (by first | (rw [(hI4.symm.trans (tk_e (by omega) he))]; done) | (rw [(hI4.symm.trans (tk_n (by omega) hz h0))]; done) | (rw [(hI4.symm.trans ((tk_o (by omega) hz h1).trans (by rw [show t.toNat - k - 1 = 0 by omega, tk_0])))]; done) | (rw [(hI4.symm.trans (tk_e (by omega) he))]; rfl) | (rw [(hI4.symm.trans (tk_n (by omega) hz h0))]; rfl) | (rw [(hI4.symm.trans ((tk_o (by omega) hz h1).trans (by rw [show t.toNat - k - 1 = 0 by omega, tk_0])))]; rfl)))
              done)
          · try simp only [decide_eq_false_iff_not] at hb3
            all_goals (
              refine W_skip ?_
              refine blockQ_n ?_
              refine thenQ_n ?_
              refine W_regionE (c := 25) (c' := 28) (by kernel_rfl) rfl ?_
              refine Runs_p rfl (Valid.movek (A := Is _) rfl rfl) rfl rfl ?_ -- ref.go:39 move
              refine Runs_p rfl (Valid.add rfl rfl rfl (room64 (by have := hg hz; omega) (by have := hg hz; omega))) rfl rfl ?_ -- ref.go:39 binOp
              refine Runs_p rfl (Valid.assignk (A := Is _) rfl rfl) rfl rfl ?_ -- ref.go:39 assign
              refine Runs_nil ?_
              refine LoopQ.next (⟨k + 1, a + 1⟩) [] (⟨by omega, by omega, by have := hg hz; omega, by rw [← hI4, tk_o (f := t.toNat - k) (by omega) hz h1, show t.toNat - (k + 1) = t.toNat - k - 1 by omega]⟩) (by dsimp only; omega) ⟨⟨(leq_is rfl rfl (by rfl)), (leq_is rfl rfl (by rfl)), trivial⟩, ⟨(leq_is rfl rfl rfl), (leq_is rfl rfl rfl), trivial⟩, trivial, trivial, rfl, ⟨supg rfl, supg rfl, trivial⟩, ⟨supg rfl, supg rfl, trivial⟩, trivial, trivial, rfl, rfl⟩
              done)
          done)
      done)

set_option maxRecDepth 100000 in
set_option maxHeartbeats 1000000 in
theorem alph_r (t : Int) (ht : 0 ≤ t ∧ t ≤ 6) :
    FPure Try.prog 24 [Is (.int .i64 t)] (Is (.string ((⟨#[0, 1, 2, 3, 4, 5]⟩ : ByteArray).extract 0 t.toNat))) := by
  refine FPure.of Try.func24 Try.ntmps24 rfl (by kernel_rfl) rfl rfl rfl ?_
  refine W_seq ?_
  refine W_regionE (c := 1) (c' := 2) (by kernel_rfl) rfl ?_
  refine Runs_p rfl (Valid.assignk (A := Is _) rfl rfl) rfl rfl ?_ -- ref.go:11 assign
  refine Runs_nil ?_
  refine thenQ_n ?_
  refine W_seq ?_
  refine W_regionE (c := 2) (c' := 5) (by kernel_rfl) rfl ?_
  refine Runs_p rfl (Valid.movek (A := Is _) rfl rfl) rfl rfl ?_ -- ref.go:11 move
  refine Runs_p rfl (Valid.ssliceto rfl Try.underlying9 rfl rfl (by show 0 ≤ t ∧ t ≤ 6; omega)) rfl rfl ?_ -- ref.go:11 slice
  refine Runs_p rfl (Valid.assignk (A := Is _) rfl rfl) rfl rfl ?_ -- ref.go:11 assign
  refine Runs_nil ?_
  refine thenQ_n ?_
  refine W_ret ?_
  refine finQ_r ?_
  refine ResOk.one rfl (RVal.is rfl rfl (rfl))
end Ee
end Go.Proofs.Ytkjmdnehlodihaa
