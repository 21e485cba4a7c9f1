/-
  WALKS of stage 6: numbers, rows of noughts.
-/
import Derived.Test.YtimpmdcebapfiaaRows
import Derived.Test.YtimpmdcebapfiaaZm
import Derived.Test.YtimpmdcebapfiaaZn
import Derived.Test.YtimpmdcebapfiaaZa
import Derived.Test.YtimpmdcebapfiaaZb
namespace Go.Proofs.Ytimpmdcebapfiaa
open Go.RowKit
namespace Zc
open Ab Zm Zn Za Zb
theorem ag3 (w : World) : (isAgg 3).run Try.prog w = .ok false w := by kernel_rfl
theorem sz3 (w : World) : (sizeOf 3).run Try.prog w = .ok 1 w := by kernel_rfl
set_option maxRecDepth 100000 in
set_option maxHeartbeats 1000000 in
theorem end_s (m : List Int) (a : Nat) (hm : m.length ≤ 1000000000000) (ha : a ≤ m.length) :
    FPure Try.prog 26 [Sl 1 m.length (m.map (Value.int .i64)), Is (.int .i64 (a : Int))] (Is (.int .i64 (runE m a : Int))) := by
  refine FPure.of Try.func26 Try.ntmps26 rfl (by kernel_rfl) rfl rfl rfl ?_
  refine W_seq ?_
  refine W_regionE (c := 1) (c' := 2) (by kernel_rfl) rfl ?_
  refine Runs_p rfl (Valid.assignk (A := Is _) rfl rfl) rfl rfl ?_ -- zero.go:132 assign
  refine Runs_nil ?_
  refine thenQ_n ?_
  refine W_seq ?_
  refine W_block ?_
  refine W_loopx (G := Nat) (fun (j : Nat) => j ≤ m.length ∧ runE m j = runE m a) [(0, Sl 1 _ _)] (fun (j : Nat) => [(1, Is (.int .i64 (j : Int)))]) [] (fun (j : Nat) => []) 2 (fun (j : Nat) => m.length - j) (a) [] (⟨ha, rfl⟩) ⟨⟨(leq_is rfl rfl (by first | rfl | (simp; done) | omega | (simp [toNat_add, toNat_add1, Nat.add_assoc]; done) | (simp [toNat_add, toNat_add1]; omega))), trivial⟩, ⟨(leq_sl (Reads.sl rfl) rfl rfl rfl), trivial⟩, trivial, trivial, rfl, ⟨supg rfl, trivial⟩, ⟨supg rfl, trivial⟩, trivial, trivial, rfl, rfl⟩ ?_
  intro j hI1
  obtain ⟨hj1, hj2⟩ := hI1
  refine W_seq ?_
  refine W_seq ?_
  refine W_regionE (c := 2) (c' := 13) (by kernel_rfl) rfl ?_
  refine Runs_p rfl (Valid.movek (A := Is _) rfl rfl) rfl rfl ?_ -- zero.go:133 move
  refine Runs_p rfl (Valid.movek (A := Sl 1 _ _) rfl rfl) rfl rfl ?_ -- zero.go:133 move
  refine Runs_p rfl (Valid.len rfl Try.underlying22 (Reads.sl rfl)) rfl rfl ?_ -- zero.go:133 call
  refine Runs_p rfl (Valid.lss rfl rfl rfl) rfl rfl ?_ -- zero.go:133 binOp
  refine Runs_p rfl (Valid.movek (A := Is _) rfl rfl) rfl rfl ?_ -- zero.go:133 move
  refine Runs_cnd rfl rfl (Grd.is rfl) [] (fun hg => trivial) (fun hg => Valid.movek (A := Sl 1 _ _) rfl rfl) (by rfl) rfl ?_
  refine Runs_cnd rfl rfl (Grd.is rfl) [] (fun hg => trivial) (fun hg => Valid.movek (A := Is _) rfl rfl) (by rfl) rfl ?_
  refine Runs_cnd rfl rfl (Grd.is rfl) [(10, _), (11, _)] (fun hg => ⟨cnd_at rfl (by first | exact hg | exact hg.1 | exact hg.1.1 | exact hg.1.1.1), cnd_at rfl (by first | exact hg | exact hg.1 | exact hg.1.1 | exact hg.1.1.1), trivial⟩) (fun hg => Valid.eltaddr1 0 rfl Try.underlying22 sz3 (Reads.sl rfl) rfl (by simp only [decide_eq_true_eq] at hg; first | omega | (simp only [Int.toNat_natCast, toNat_add, toNat_add1, List.length_append, List.length_cons, List.length_nil, List.length_replicate]; omega)) (by first | rfl | simp)) (by rfl) rfl ?_
  refine Runs_cnd rfl rfl (Grd.is rfl) [(12, _)] (fun hg => ⟨cnd_at rfl (by first | exact hg | exact hg.1 | exact hg.1.1 | exact hg.1.1.1), trivial⟩) (fun hg => Valid.loadelt rfl ag3 rfl) (by rfl) rfl ?_
  refine Runs_cnd rfl rfl (Grd.is rfl) [(13, _)] (fun hg => ⟨cnd_at rfl (by first | exact hg | exact hg.1 | exact hg.1.1 | exact hg.1.1.1), trivial⟩) (fun hg => Valid.leq rfl rfl rfl) (by rfl) rfl ?_
  refine Runs_p rfl (Valid.pickand rfl rfl rfl (fun h => by first | exact h | exact ⟨hg, h⟩) rfl) rfl rfl ?_ -- zero.go:133 pick
  refine Runs_nil ?_
  refine thenQ_n ?_
  refine W_cond _ rfl (fun hb1 => ?_) (fun hb1 => ?_)
  · try simp only [Int.toNat_natCast, decide_eq_true_eq, Bool.and_eq_true] at hb1
    all_goals (
      refine W_skip ?_
      refine thenQ_n ?_
      refine W_block ?_
      refine W_regionE (c := 13) (c' := 16) (by kernel_rfl) rfl ?_
      refine Runs_p rfl (Valid.movek (A := Is _) rfl rfl) rfl rfl ?_ -- zero.go:134 move
      refine Runs_p rfl (Valid.add rfl rfl rfl (room64 (by first | omega | (simp only [Int.toNat_natCast, toNat_add, toNat_add1, List.length_append, List.length_cons, List.length_nil, List.length_replicate]; omega)) (by first | omega | (simp only [Int.toNat_natCast, toNat_add, toNat_add1, List.length_append, List.length_cons, List.length_nil, List.length_replicate]; omega)))) rfl rfl ?_ -- zero.go:134 binOp
      refine Runs_p rfl (Valid.assignk (A := Is _) rfl rfl) rfl rfl ?_ -- zero.go:134 assign
      refine Runs_nil ?_
      refine blockQ_n ?_
      refine LoopQ.next (j + 1) [] (⟨by omega, by rw [runE_step m j (by omega) (by omega)]; exact hj2⟩) (by first | omega | (dsimp only; omega)) ⟨⟨(leq_is rfl rfl (by first | rfl | (simp; done) | omega | (simp [toNat_add, toNat_add1, Nat.add_assoc]; done) | (simp [toNat_add, toNat_add1]; omega))), trivial⟩, ⟨(leq_sl (Reads.sl rfl) rfl rfl rfl), trivial⟩, trivial, trivial, rfl, ⟨supg rfl, trivial⟩, ⟨supg rfl, trivial⟩, trivial, trivial, rfl, rfl⟩
      done)
  · try simp only [Int.toNat_natCast, decide_eq_false_iff_not, Bool.and_eq_false_iff] at hb1
    all_goals (
      refine W_exit ?_
      refine thenQ_e ?_
      refine loopQ_e ?_
      refine blockQ_x ?_
      refine thenQ_n ?_
      refine W_seq ?_
      refine W_regionE (c := 13) (c' := 15) (by kernel_rfl) rfl ?_
      refine Runs_p rfl (Valid.movek (A := Is _) rfl rfl) rfl rfl ?_ -- zero.go:136 move
      refine Runs_p rfl (Valid.assignk (A := Is _) rfl rfl) rfl rfl ?_ -- zero.go:136 assign
      refine Runs_nil ?_
      refine thenQ_n ?_
      refine W_ret ?_
      refine finQ_r ?_
      refine ResOk.one rfl (RVal.is rfl rfl (by rw [← hj2, runE_stop m j (by omega)]))
      done)

set_option maxRecDepth 100000 in
set_option maxHeartbeats 1000000 in
theorem num_s (d : List Int) (hd : d.length ≤ 1000000000000) :
    FPure Try.prog 16 [Sl 1 d.length (d.map (Value.int .i64))] (Tup [Is (.int .i64 (numR d).1), Is (.int .i64 (numR d).2)]) := by
  refine FPure.of Try.func16 Try.ntmps16 rfl (by kernel_rfl) rfl rfl rfl ?_
  refine W_seq ?_
  refine W_regionE (c := 1) (c' := 3) (by kernel_rfl) rfl ?_
  refine Runs_p rfl (Valid.assignk (A := Is _) rfl rfl) rfl rfl ?_ -- zero.go:34 assign
  refine Runs_p rfl (Valid.assignk (A := Is _) rfl rfl) rfl rfl ?_ -- zero.go:34 assign
  refine Runs_nil ?_
  refine thenQ_n ?_
  refine W_seq ?_
  refine W_seq ?_
  refine W_regionE (c := 3) (c' := 6) (by kernel_rfl) rfl ?_
  refine Runs_p rfl (Valid.movek (A := Sl 1 _ _) rfl rfl) rfl rfl ?_ -- zero.go:35 move
  refine Runs_p rfl (Valid.len rfl Try.underlying22 (Reads.sl rfl)) rfl rfl ?_ -- zero.go:35 call
  refine Runs_p rfl (Valid.movek (A := Is _) rfl rfl) rfl rfl ?_ -- zero.go:35 move
  refine Runs_nil ?_
  refine thenQ_n ?_
  refine W_block ?_
  refine W_loopx (G := Nat) (fun (k : Nat) => k ≤ d.length ∧ (d.take k).any badP = false) [(0, Sl 1 _ _), (9, Sl 1 _ _), (10, Is _)] (fun (k : Nat) => [(11, Is (.int .i64 (k : Int)))]) [] (fun (k : Nat) => []) 6 (fun (k : Nat) => d.length - k) (0) [] (⟨by omega, rfl⟩) ⟨⟨(leq_is rfl rfl (by first | rfl | (simp; done) | omega | (simp [toNat_add, toNat_add1, Nat.add_assoc]; done) | (simp [toNat_add, toNat_add1]; omega))), trivial⟩, ⟨(leq_sl (Reads.sl rfl) rfl rfl rfl), (leq_sl (Reads.sl rfl) rfl rfl rfl), (leq_is rfl rfl rfl), trivial⟩, trivial, trivial, rfl, ⟨supg rfl, trivial⟩, ⟨supg rfl, supg rfl, supg rfl, trivial⟩, trivial, trivial, rfl, rfl⟩ ?_
  intro k hI1
  obtain ⟨hk1, hk2⟩ := hI1
  refine W_seq ?_
  refine W_regionE (c := 6) (c' := 7) (by kernel_rfl) rfl ?_
  refine Runs_p rfl (Valid.lss rfl rfl rfl) rfl rfl ?_ -- zero.go:35 binOp
  refine Runs_nil ?_
  refine thenQ_n ?_
  refine W_seq ?_
  refine W_cond _ rfl (fun hb1 => ?_) (fun hb1 => ?_)
  · try simp only [decide_eq_true_eq] at hb1
    all_goals (
      refine W_skip ?_
      refine thenQ_n ?_
      refine W_seq ?_
      refine W_block ?_
      refine W_seq ?_
      refine W_regionE (c := 7) (c' := 10) (by kernel_rfl) rfl ?_
      refine Runs_p rfl (Valid.eltaddr1 0 rfl Try.underlying22 sz3 (Reads.sl rfl) rfl (by first | omega | (simp only [Int.toNat_natCast, toNat_add, toNat_add1, List.length_append, List.length_cons, List.length_nil, List.length_replicate]; omega)) (by first | rfl | simp)) rfl rfl ?_ -- zero.go:35 indexAddr
      refine Runs_p rfl (Valid.loadelt rfl ag3 rfl) rfl rfl ?_ -- zero.go:35 load
      refine Runs_p rfl (Valid.assignk (A := Is _) rfl rfl) rfl rfl ?_ -- zero.go:35 assign
      refine Runs_nil ?_
      refine thenQ_n ?_
      refine W_seq ?_
      refine W_regionE (c := 10) (c' := 16) (by kernel_rfl) rfl ?_
      refine Runs_p rfl (Valid.movek (A := Is _) rfl rfl) rfl rfl ?_ -- zero.go:36 move
      refine Runs_p rfl (Valid.neq rfl rfl rfl) rfl rfl ?_ -- zero.go:36 binOp
      refine Runs_p rfl (Valid.movek (A := Is _) rfl rfl) rfl rfl ?_ -- zero.go:36 move
      refine Runs_cnd rfl rfl (Grd.is rfl) [] (fun hg => trivial) (fun hg => Valid.movek (A := Is _) rfl rfl) (by rfl) rfl ?_
      refine Runs_cnd rfl rfl (Grd.is rfl) [(18, _)] (fun hg => ⟨cnd_at rfl (by first | exact hg | exact hg.1 | exact hg.1.1 | exact hg.1.1.1), trivial⟩) (fun hg => Valid.neq rfl rfl rfl) (by rfl) rfl ?_
      refine Runs_p rfl (Valid.pickand rfl rfl rfl (fun h => by first | exact h | exact ⟨hg, h⟩) rfl) rfl rfl ?_ -- zero.go:36 pick
      refine Runs_nil ?_
      refine thenQ_n ?_
      refine W_cond _ rfl (fun hb2 => ?_) (fun hb2 => ?_)
      · try simp only [Int.toNat_natCast, decide_eq_true_eq, Bool.and_eq_true, ne_eq] at hb2
        all_goals (
          refine W_seq ?_
          refine W_regionE (c := 16) (c' := 18) (by kernel_rfl) rfl ?_
          refine Runs_p rfl (Valid.assignk (A := Is _) rfl rfl) rfl rfl ?_ -- zero.go:37 assign
          refine Runs_p rfl (Valid.assignk (A := Is _) rfl rfl) rfl rfl ?_ -- zero.go:37 assign
          refine Runs_nil ?_
          refine thenQ_n ?_
          refine W_ret ?_
          refine blockQ_r ?_
          refine thenQ_r ?_
          refine loopQ_r ?_
          refine blockQ_r ?_
          refine thenQ_r ?_
          refine finQ_r ?_
          refine ResOk.two rfl (RVal.is rfl rfl (by first | (rw [numR_bad (any_stop badP d k 0 (by omega) (badP_t (by omega)))]) | (rw [numR_long (any_end badP d k (by omega) hk2) (by omega)]) | (rw [take_all d j (by omega)] at *; rw [numR_big hbad (by omega)]) | (rw [take_all d j (by omega)] at *; rw [numR_ok hbad (by omega)]))) (RVal.is rfl rfl (by first | (rw [numR_bad (any_stop badP d k 0 (by omega) (badP_t (by omega)))]) | (rw [numR_long (any_end badP d k (by omega) hk2) (by omega)]) | (rw [take_all d j (by omega)] at *; rw [numR_big hbad (by omega)]) | (rw [take_all d j (by omega)] at *; rw [numR_ok hbad (by omega)])))
          done)
      · try simp only [Int.toNat_natCast, decide_eq_false_iff_not, Bool.and_eq_false_iff, ne_eq] at hb2
        all_goals (
          refine W_skip ?_
          refine blockQ_n ?_
          refine thenQ_n ?_
          refine W_regionE (c := 16) (c' := 18) (by kernel_rfl) rfl ?_
          refine Runs_p rfl (Valid.add rfl rfl rfl (room64 (by first | omega | (simp only [Int.toNat_natCast, toNat_add, toNat_add1, List.length_append, List.length_cons, List.length_nil, List.length_replicate]; omega)) (by first | omega | (simp only [Int.toNat_natCast, toNat_add, toNat_add1, List.length_append, List.length_cons, List.length_nil, List.length_replicate]; omega)))) rfl rfl ?_ -- zero.go:35 binOp
          refine Runs_p rfl (Valid.movek (A := Is _) rfl rfl) rfl rfl ?_ -- zero.go:35 move
          refine Runs_nil ?_
          refine LoopQ.next (k + 1) [] (⟨by omega, any_step _ _ _ 0 (by omega) hk2 (badP_f (by omega))⟩) (by first | omega | (dsimp only; omega)) ⟨⟨(leq_is rfl rfl (by first | rfl | (simp; done) | omega | (simp [toNat_add, toNat_add1, Nat.add_assoc]; done) | (simp [toNat_add, toNat_add1]; omega))), trivial⟩, ⟨(leq_sl (Reads.sl rfl) rfl rfl rfl), (leq_sl (Reads.sl rfl) rfl rfl rfl), (leq_is rfl rfl rfl), trivial⟩, trivial, trivial, rfl, ⟨supg rfl, trivial⟩, ⟨supg rfl, supg rfl, supg rfl, trivial⟩, trivial, trivial, rfl, rfl⟩
          done)
      done)
  · try simp only [decide_eq_false_iff_not] at hb1
    all_goals (
      refine W_exit ?_
      refine thenQ_e ?_
      refine loopQ_e ?_
      refine blockQ_x ?_
      refine thenQ_n ?_
      refine W_seq ?_
      refine W_seq ?_
      refine W_regionE (c := 7) (c' := 10) (by kernel_rfl) rfl ?_
      refine Runs_p rfl (Valid.movek (A := Sl 1 _ _) rfl rfl) rfl rfl ?_ -- zero.go:40 move
      refine Runs_p rfl (Valid.len rfl Try.underlying22 (Reads.sl rfl)) rfl rfl ?_ -- zero.go:40 call
      refine Runs_p rfl (Valid.gtr rfl rfl rfl) rfl rfl ?_ -- zero.go:40 binOp
      refine Runs_nil ?_
      refine thenQ_n ?_
      refine W_cond _ rfl (fun hb3 => ?_) (fun hb3 => ?_)
      · try simp only [decide_eq_true_eq] at hb3
        all_goals (
          refine W_seq ?_
          refine W_regionE (c := 10) (c' := 12) (by kernel_rfl) rfl ?_
          refine Runs_p rfl (Valid.assignk (A := Is _) rfl rfl) rfl rfl ?_ -- zero.go:41 assign
          refine Runs_p rfl (Valid.assignk (A := Is _) rfl rfl) rfl rfl ?_ -- zero.go:41 assign
          refine Runs_nil ?_
          refine thenQ_n ?_
          refine W_ret ?_
          refine thenQ_r ?_
          refine finQ_r ?_
          refine ResOk.two rfl (RVal.is rfl rfl (by first | (rw [numR_bad (any_stop badP d k 0 (by omega) (badP_t (by omega)))]) | (rw [numR_long (any_end badP d k (by omega) hk2) (by omega)]) | (rw [take_all d j (by omega)] at *; rw [numR_big hbad (by omega)]) | (rw [take_all d j (by omega)] at *; rw [numR_ok hbad (by omega)]))) (RVal.is rfl rfl (by first | (rw [numR_bad (any_stop badP d k 0 (by omega) (badP_t (by omega)))]) | (rw [numR_long (any_end badP d k (by omega) hk2) (by omega)]) | (rw [take_all d j (by omega)] at *; rw [numR_big hbad (by omega)]) | (rw [take_all d j (by omega)] at *; rw [numR_ok hbad (by omega)])))
          done)
      · try simp only [decide_eq_false_iff_not] at hb3
        all_goals (
          refine W_skip ?_
          refine thenQ_n ?_
          refine W_seq ?_
          refine W_regionE (c := 10) (c' := 11) (by kernel_rfl) rfl ?_
          refine Runs_p rfl (Valid.assignk (A := Is _) rfl rfl) rfl rfl ?_ -- zero.go:43 assign
          refine Runs_nil ?_
          refine thenQ_n ?_
          refine W_seq ?_
          refine W_seq ?_
          refine W_regionE (c := 11) (c' := 14) (by kernel_rfl) rfl ?_
          refine Runs_p rfl (Valid.movek (A := Sl 1 _ _) rfl rfl) rfl rfl ?_ -- zero.go:44 move
          refine Runs_p rfl (Valid.len rfl Try.underlying22 (Reads.sl rfl)) rfl rfl ?_ -- zero.go:44 call
          refine Runs_p rfl (Valid.movek (A := Is _) rfl rfl) rfl rfl ?_ -- zero.go:44 move
          refine Runs_nil ?_
          refine thenQ_n ?_
          refine W_block ?_
          refine W_loopx (G := Nat) (fun (j : Nat) => j ≤ d.length) [(25, Sl 1 _ _), (26, Is _)] (fun (j : Nat) => [(6, Is (.int .i64 (numW (d.take j)))), (27, Is (.int .i64 (j : Int)))]) [] (fun (j : Nat) => []) 14 (fun (j : Nat) => d.length - j) (0) [] (by first | trivial | omega | (simp; omega)) ⟨⟨(leq_is rfl rfl (by first | rfl | (rw [numW_take d j (by omega)]; rfl))), (leq_is rfl rfl (by first | rfl | (rw [numW_take d j (by omega)]; rfl))), trivial⟩, ⟨(leq_sl (Reads.sl rfl) rfl rfl rfl), (leq_is rfl rfl rfl), trivial⟩, trivial, trivial, rfl, ⟨supg rfl, supg rfl, trivial⟩, ⟨supg rfl, supg rfl, trivial⟩, trivial, trivial, rfl, rfl⟩ ?_
          intro j hI2
          have hbad : badD d = false := any_end _ _ k (by omega) hk2
          have hn := numW_tk hbad j (by omega)
          refine W_seq ?_
          refine W_regionE (c := 14) (c' := 15) (by kernel_rfl) rfl ?_
          refine Runs_p rfl (Valid.lss rfl rfl rfl) rfl rfl ?_ -- zero.go:44 binOp
          refine Runs_nil ?_
          refine thenQ_n ?_
          refine W_seq ?_
          refine W_cond _ rfl (fun hb4 => ?_) (fun hb4 => ?_)
          · try simp only [decide_eq_true_eq] at hb4
            all_goals (
              refine W_skip ?_
              refine thenQ_n ?_
              refine W_seq ?_
              refine W_block ?_
              refine W_seq ?_
              refine W_regionE (c := 15) (c' := 20) (by kernel_rfl) rfl ?_
              refine Runs_p rfl (Valid.movek (A := Is _) rfl rfl) rfl rfl ?_ -- zero.go:44 move
              refine Runs_p rfl (Valid.eltaddr1 0 rfl Try.underlying22 sz3 (Reads.sl rfl) rfl (by first | omega | (simp only [Int.toNat_natCast, toNat_add, toNat_add1, List.length_append, List.length_cons, List.length_nil, List.length_replicate]; omega)) (by first | rfl | simp)) rfl rfl ?_ -- zero.go:44 indexAddr
              refine Runs_p rfl (Valid.loadelt rfl ag3 rfl) rfl rfl ?_ -- zero.go:44 load
              refine Runs_p rfl (Valid.assignk (A := Is _) rfl rfl) rfl rfl ?_ -- zero.go:44 assign
              refine Runs_p rfl (Valid.assignk (A := Is _) rfl rfl) rfl rfl ?_ -- zero.go:44 assign
              refine Runs_nil ?_
              refine thenQ_n ?_
              refine W_regionE (c := 20) (c' := 27) (by kernel_rfl) rfl ?_
              refine Runs_p rfl (Valid.movek (A := Is _) rfl rfl) rfl rfl ?_ -- zero.go:45 move
              refine Runs_p rfl (Valid.movek (A := Is _) rfl rfl) rfl rfl ?_ -- zero.go:45 move
              refine Runs_p rfl (Valid.add rfl rfl rfl (room64 (by have := mul_bd (bad_at hbad (k := j) (by omega)) j (by omega); have := bad_at hbad (k := j) (by omega); simp only [Int.toNat_natCast]; omega) (by have := mul_bd (bad_at hbad (k := j) (by omega)) j (by omega); have := bad_at hbad (k := j) (by omega); simp only [Int.toNat_natCast]; omega))) rfl rfl ?_ -- zero.go:45 binOp
              refine Runs_p rfl (Valid.movek (A := Is _) rfl rfl) rfl rfl ?_ -- zero.go:45 move
              refine Runs_p rfl (Valid.shl rfl rfl rfl (by omega) (by simp only [Int.toNat_natCast, IntKind.bits]; omega) (by have := mul_bd (bad_at hbad (k := j) (by omega)) j (by omega); simp only [Int.toNat_natCast]; exact room64 (by omega) (by omega))) rfl rfl ?_ -- zero.go:45 binOp
              refine Runs_p rfl (Valid.add rfl rfl rfl (room64 (by have := mul_bd (bad_at hbad (k := j) (by omega)) j (by omega); have := bad_at hbad (k := j) (by omega); simp only [Int.toNat_natCast]; omega) (by have := mul_bd (bad_at hbad (k := j) (by omega)) j (by omega); have := bad_at hbad (k := j) (by omega); simp only [Int.toNat_natCast]; omega))) rfl rfl ?_ -- zero.go:45 binOp
              refine Runs_p rfl (Valid.assignk (A := Is _) rfl rfl) rfl rfl ?_ -- zero.go:45 assign
              refine Runs_nil ?_
              refine blockQ_n ?_
              refine thenQ_n ?_
              refine W_regionE (c := 27) (c' := 29) (by kernel_rfl) rfl ?_
              refine Runs_p rfl (Valid.add rfl rfl rfl (room64 (by first | omega | (simp only [Int.toNat_natCast, toNat_add, toNat_add1, List.length_append, List.length_cons, List.length_nil, List.length_replicate]; omega)) (by first | omega | (simp only [Int.toNat_natCast, toNat_add, toNat_add1, List.length_append, List.length_cons, List.length_nil, List.length_replicate]; omega)))) rfl rfl ?_ -- zero.go:44 binOp
              refine Runs_p rfl (Valid.movek (A := Is _) rfl rfl) rfl rfl ?_ -- zero.go:44 move
              refine Runs_nil ?_
              refine LoopQ.next (j + 1) [] (by first | trivial | omega | (simp; omega)) (by first | omega | (dsimp only; omega)) ⟨⟨(leq_is rfl rfl (by first | rfl | (rw [numW_take d j (by omega)]; rfl))), (leq_is rfl rfl (by first | rfl | (rw [numW_take d j (by omega)]; rfl))), trivial⟩, ⟨(leq_sl (Reads.sl rfl) rfl rfl rfl), (leq_is rfl rfl rfl), trivial⟩, trivial, trivial, rfl, ⟨supg rfl, supg rfl, trivial⟩, ⟨supg rfl, supg rfl, trivial⟩, trivial, trivial, rfl, rfl⟩
              done)
          · try simp only [decide_eq_false_iff_not] at hb4
            all_goals (
              refine W_exit ?_
              refine thenQ_e ?_
              refine loopQ_e ?_
              refine blockQ_x ?_
              refine thenQ_n ?_
              refine W_seq ?_
              refine W_seq ?_
              refine W_regionE (c := 15) (c' := 17) (by kernel_rfl) rfl ?_
              refine Runs_p rfl (Valid.movek (A := Is _) rfl rfl) rfl rfl ?_ -- zero.go:47 move
              refine Runs_p rfl (Valid.gtr rfl rfl rfl) rfl rfl ?_ -- zero.go:47 binOp
              refine Runs_nil ?_
              refine thenQ_n ?_
              refine W_cond _ rfl (fun hb5 => ?_) (fun hb5 => ?_)
              · try simp only [decide_eq_true_eq] at hb5
                all_goals (
                  refine W_seq ?_
                  refine W_regionE (c := 17) (c' := 19) (by kernel_rfl) rfl ?_
                  refine Runs_p rfl (Valid.assignk (A := Is _) rfl rfl) rfl rfl ?_ -- zero.go:48 assign
                  refine Runs_p rfl (Valid.assignk (A := Is _) rfl rfl) rfl rfl ?_ -- zero.go:48 assign
                  refine Runs_nil ?_
                  refine thenQ_n ?_
                  refine W_ret ?_
                  refine thenQ_r ?_
                  refine finQ_r ?_
                  refine ResOk.two rfl (RVal.is rfl rfl (by first | (rw [numR_bad (any_stop badP d k 0 (by omega) (badP_t (by omega)))]) | (rw [numR_long (any_end badP d k (by omega) hk2) (by omega)]) | (rw [take_all d j (by omega)] at *; rw [numR_big hbad (by omega)]) | (rw [take_all d j (by omega)] at *; rw [numR_ok hbad (by omega)]))) (RVal.is rfl rfl (by first | (rw [numR_bad (any_stop badP d k 0 (by omega) (badP_t (by omega)))]) | (rw [numR_long (any_end badP d k (by omega) hk2) (by omega)]) | (rw [take_all d j (by omega)] at *; rw [numR_big hbad (by omega)]) | (rw [take_all d j (by omega)] at *; rw [numR_ok hbad (by omega)])))
                  done)
              · try simp only [decide_eq_false_iff_not] at hb5
                all_goals (
                  refine W_skip ?_
                  refine thenQ_n ?_
                  refine W_seq ?_
                  refine W_regionE (c := 17) (c' := 20) (by kernel_rfl) rfl ?_
                  refine Runs_p rfl (Valid.movek (A := Is _) rfl rfl) rfl rfl ?_ -- zero.go:50 move
                  refine Runs_p rfl (Valid.assignk (A := Is _) rfl rfl) rfl rfl ?_ -- zero.go:50 assign
                  refine Runs_p rfl (Valid.assignk (A := Is _) rfl rfl) rfl rfl ?_ -- zero.go:50 assign
                  refine Runs_nil ?_
                  refine thenQ_n ?_
                  refine W_ret ?_
                  refine finQ_r ?_
                  refine ResOk.two rfl (RVal.is rfl rfl (by first | (rw [numR_bad (any_stop badP d k 0 (by omega) (badP_t (by omega)))]) | (rw [numR_long (any_end badP d k (by omega) hk2) (by omega)]) | (rw [take_all d j (by omega)] at *; rw [numR_big hbad (by omega)]) | (rw [take_all d j (by omega)] at *; rw [numR_ok hbad (by omega)]))) (RVal.is rfl rfl (by first | (rw [numR_bad (any_stop badP d k 0 (by omega) (badP_t (by omega)))]) | (rw [numR_long (any_end badP d k (by omega) hk2) (by omega)]) | (rw [take_all d j (by omega)] at *; rw [numR_big hbad (by omega)]) | (rw [take_all d j (by omega)] at *; rw [numR_ok hbad (by omega)])))
                  done)
              done)
          done)
      done)

set_option maxRecDepth 100000 in
set_option maxHeartbeats 1000000 in
theorem numr_s (d : List Int) (hd : d.length ≤ 1000000000000) :
    FPure Try.prog 17 [Sl 1 d.length (d.map (Value.int .i64))] (Tup [Is (.int .i64 (numR d).1), Is (.int .i64 (numR d).2)]) := by
  refine FPure.of Try.func17 Try.ntmps17 rfl (by kernel_rfl) rfl rfl rfl ?_
  refine W_seq ?_
  refine W_regionE (c := 1) (c' := 3) (by kernel_rfl) rfl ?_
  refine Runs_p rfl (Valid.assignk (A := Is _) rfl rfl) rfl rfl ?_ -- ref.go:18 assign
  refine Runs_p rfl (Valid.assignk (A := Is _) rfl rfl) rfl rfl ?_ -- ref.go:18 assign
  refine Runs_nil ?_
  refine thenQ_n ?_
  refine W_seq ?_
  refine W_seq ?_
  refine W_regionE (c := 3) (c' := 4) (by kernel_rfl) rfl ?_
  refine Runs_p rfl (Valid.assignk (A := Is _) rfl rfl) rfl rfl ?_ -- ref.go:19 assign
  refine Runs_nil ?_
  refine thenQ_n ?_
  refine W_block ?_
  refine W_loopx (G := Nat) (fun (k : Nat) => k ≤ d.length ∧ (d.take k).any badP = false) [(0, Sl 1 _ _)] (fun (k : Nat) => [(4, Is (.int .i64 (k : Int)))]) [] (fun (k : Nat) => []) 4 (fun (k : Nat) => d.length - k) (0) [] (⟨by omega, rfl⟩) ⟨⟨(leq_is rfl rfl (by first | rfl | (simp; done) | omega | (simp [toNat_add, toNat_add1, Nat.add_assoc]; done) | (simp [toNat_add, toNat_add1]; omega))), trivial⟩, ⟨(leq_sl (Reads.sl rfl) rfl rfl rfl), trivial⟩, trivial, trivial, rfl, ⟨supg rfl, trivial⟩, ⟨supg rfl, trivial⟩, trivial, trivial, rfl, rfl⟩ ?_
  intro k hI1
  obtain ⟨hk1, hk2⟩ := hI1
  refine W_seq ?_
  refine W_seq ?_
  refine W_regionE (c := 4) (c' := 8) (by kernel_rfl) rfl ?_
  refine Runs_p rfl (Valid.movek (A := Is _) rfl rfl) rfl rfl ?_ -- ref.go:19 move
  refine Runs_p rfl (Valid.movek (A := Sl 1 _ _) rfl rfl) rfl rfl ?_ -- ref.go:19 move
  refine Runs_p rfl (Valid.len rfl Try.underlying22 (Reads.sl rfl)) rfl rfl ?_ -- ref.go:19 call
  refine Runs_p rfl (Valid.lss rfl rfl rfl) rfl rfl ?_ -- ref.go:19 binOp
  refine Runs_nil ?_
  refine thenQ_n ?_
  refine W_cond _ rfl (fun hb1 => ?_) (fun hb1 => ?_)
  · try simp only [decide_eq_true_eq] at hb1
    all_goals (
      refine W_skip ?_
      refine thenQ_n ?_
      refine W_seq ?_
      refine W_block ?_
      refine W_seq ?_
      refine W_regionE (c := 8) (c' := 20) (by kernel_rfl) rfl ?_
      refine Runs_p rfl (Valid.movek (A := Sl 1 _ _) rfl rfl) rfl rfl ?_ -- ref.go:20 move
      refine Runs_p rfl (Valid.movek (A := Is _) rfl rfl) rfl rfl ?_ -- ref.go:20 move
      refine Runs_p rfl (Valid.eltaddr1 0 rfl Try.underlying22 sz3 (Reads.sl rfl) rfl (by first | omega | (simp only [Int.toNat_natCast, toNat_add, toNat_add1, List.length_append, List.length_cons, List.length_nil, List.length_replicate]; omega)) (by first | rfl | simp)) rfl rfl ?_ -- ref.go:20 indexAddr
      refine Runs_p rfl (Valid.loadelt rfl ag3 rfl) rfl rfl ?_ -- ref.go:20 load
      refine Runs_p rfl (Valid.neq rfl rfl rfl) rfl rfl ?_ -- ref.go:20 binOp
      refine Runs_p rfl (Valid.movek (A := Is _) rfl rfl) rfl rfl ?_ -- ref.go:20 move
      refine Runs_cnd rfl rfl (Grd.is rfl) [] (fun hg => trivial) (fun hg => Valid.movek (A := Sl 1 _ _) rfl rfl) (by rfl) rfl ?_
      refine Runs_cnd rfl rfl (Grd.is rfl) [] (fun hg => trivial) (fun hg => Valid.movek (A := Is _) rfl rfl) (by rfl) rfl ?_
      refine Runs_cnd rfl rfl (Grd.is rfl) [(20, _), (21, _)] (fun hg => ⟨cnd_at rfl (by first | exact hg | exact hg.1 | exact hg.1.1 | exact hg.1.1.1), cnd_at rfl (by first | exact hg | exact hg.1 | exact hg.1.1 | exact hg.1.1.1), trivial⟩) (fun hg => Valid.eltaddr1 0 rfl Try.underlying22 sz3 (Reads.sl rfl) rfl (by simp only [Int.toNat_natCast, decide_eq_true_eq, ne_eq] at hg; first | omega | (simp only [Int.toNat_natCast, toNat_add, toNat_add1, List.length_append, List.length_cons, List.length_nil, List.length_replicate]; omega)) (by first | rfl | simp)) (by rfl) rfl ?_
      refine Runs_cnd rfl rfl (Grd.is rfl) [(22, _)] (fun hg => ⟨cnd_at rfl (by first | exact hg | exact hg.1 | exact hg.1.1 | exact hg.1.1.1), trivial⟩) (fun hg => Valid.loadelt rfl ag3 rfl) (by rfl) rfl ?_
      refine Runs_cnd rfl rfl (Grd.is rfl) [(23, _)] (fun hg => ⟨cnd_at rfl (by first | exact hg | exact hg.1 | exact hg.1.1 | exact hg.1.1.1), trivial⟩) (fun hg => Valid.neq rfl rfl rfl) (by rfl) rfl ?_
      refine Runs_p rfl (Valid.pickand rfl rfl rfl (fun h => by first | exact h | exact ⟨hg, h⟩) rfl) rfl rfl ?_ -- ref.go:20 pick
      refine Runs_nil ?_
      refine thenQ_n ?_
      refine W_cond _ rfl (fun hb2 => ?_) (fun hb2 => ?_)
      · try simp only [Int.toNat_natCast, decide_eq_true_eq, Bool.and_eq_true, ne_eq] at hb2
        all_goals (
          refine W_seq ?_
          refine W_regionE (c := 20) (c' := 22) (by kernel_rfl) rfl ?_
          refine Runs_p rfl (Valid.assignk (A := Is _) rfl rfl) rfl rfl ?_ -- ref.go:21 assign
          refine Runs_p rfl (Valid.assignk (A := Is _) rfl rfl) rfl rfl ?_ -- ref.go:21 assign
          refine Runs_nil ?_
          refine thenQ_n ?_
          refine W_ret ?_
          refine blockQ_r ?_
          refine thenQ_r ?_
          refine loopQ_r ?_
          refine blockQ_r ?_
          refine thenQ_r ?_
          refine finQ_r ?_
          refine ResOk.two rfl (RVal.is rfl rfl (by first | (rw [numR_bad (any_stop badP d k 0 (by omega) (badP_t (by omega)))]) | (rw [numR_long hbad (by omega)]) | (rw [take_all d j (by omega)] at *; rw [numR_big hbad (by omega)]) | (rw [take_all d j (by omega)] at *; rw [numR_ok hbad (by omega)]))) (RVal.is rfl rfl (by first | (rw [numR_bad (any_stop badP d k 0 (by omega) (badP_t (by omega)))]) | (rw [numR_long hbad (by omega)]) | (rw [take_all d j (by omega)] at *; rw [numR_big hbad (by omega)]) | (rw [take_all d j (by omega)] at *; rw [numR_ok hbad (by omega)])))
          done)
      · try simp only [Int.toNat_natCast, decide_eq_false_iff_not, Bool.and_eq_false_iff, ne_eq] at hb2
        all_goals (
          refine W_skip ?_
          refine blockQ_n ?_
          refine thenQ_n ?_
          refine W_regionE (c := 20) (c' := 23) (by kernel_rfl) rfl ?_
          refine Runs_p rfl (Valid.movek (A := Is _) rfl rfl) rfl rfl ?_ -- ref.go:19 move
          refine Runs_p rfl (Valid.add rfl rfl rfl (room64 (by first | omega | (simp only [Int.toNat_natCast, toNat_add, toNat_add1, List.length_append, List.length_cons, List.length_nil, List.length_replicate]; omega)) (by first | omega | (simp only [Int.toNat_natCast, toNat_add, toNat_add1, List.length_append, List.length_cons, List.length_nil, List.length_replicate]; omega)))) rfl rfl ?_ -- ref.go:19 binOp
          refine Runs_p rfl (Valid.assignk (A := Is _) rfl rfl) rfl rfl ?_ -- ref.go:19 assign
          refine Runs_nil ?_
          refine LoopQ.next (k + 1) [] (⟨by omega, any_step _ _ _ 0 (by omega) hk2 (badP_f (by omega))⟩) (by first | omega | (dsimp only; omega)) ⟨⟨(leq_is rfl rfl (by first | rfl | (simp; done) | omega | (simp [toNat_add, toNat_add1, Nat.add_assoc]; done) | (simp [toNat_add, toNat_add1]; omega))), trivial⟩, ⟨(leq_sl (Reads.sl rfl) rfl rfl rfl), trivial⟩, trivial, trivial, rfl, ⟨supg rfl, trivial⟩, ⟨supg rfl, trivial⟩, trivial, trivial, rfl, rfl⟩
          done)
      done)
  · try simp only [decide_eq_false_iff_not] at hb1
    all_goals (
      refine W_exit ?_
      refine thenQ_e ?_
      refine loopQ_e ?_
      refine blockQ_x ?_
      refine thenQ_n ?_
      refine W_seq ?_
      refine W_regionE (c := 8) (c' := 9) (by kernel_rfl) rfl ?_
      refine Runs_p rfl (Valid.assignk (A := Is _) rfl rfl) rfl rfl ?_ -- ref.go:24 assign
      refine Runs_nil ?_
      refine thenQ_n ?_
      refine W_seq ?_
      refine W_regionE (c := 9) (c' := 10) (by kernel_rfl) rfl ?_
      refine Runs_p rfl (Valid.assignk (A := Is _) rfl rfl) rfl rfl ?_ -- ref.go:25 assign
      refine Runs_nil ?_
      refine thenQ_n ?_
      refine W_seq ?_
      refine W_seq ?_
      refine W_regionE (c := 10) (c' := 11) (by kernel_rfl) rfl ?_
      refine Runs_p rfl (Valid.assignk (A := Is _) rfl rfl) rfl rfl ?_ -- ref.go:26 assign
      refine Runs_nil ?_
      refine thenQ_n ?_
      refine W_block ?_
      refine W_loopx (G := Nat) (fun (j : Nat) => j ≤ d.length ∧ j ≤ 42) [(0, Sl 1 _ _)] (fun (j : Nat) => [(5, Is (.int .i64 (numW (d.take j)))), (6, Is (.int .i64 ((2 : Int) ^ j))), (7, Is (.int .i64 (j : Int)))]) [] (fun (j : Nat) => []) 11 (fun (j : Nat) => d.length - j) (0) [] (by first | trivial | omega | (simp; omega)) ⟨⟨(leq_is rfl rfl (by first | rfl | (rw [numW_take d j (by omega), Int.mul_comm]; rfl) | (rw [Int.pow_succ, Int.mul_comm]))), (leq_is rfl rfl (by first | rfl | (rw [numW_take d j (by omega), Int.mul_comm]; rfl) | (rw [Int.pow_succ, Int.mul_comm]))), (leq_is rfl rfl (by first | rfl | (rw [numW_take d j (by omega), Int.mul_comm]; rfl) | (rw [Int.pow_succ, Int.mul_comm]))), trivial⟩, ⟨(leq_sl (Reads.sl rfl) rfl rfl rfl), trivial⟩, trivial, trivial, rfl, ⟨supg rfl, supg rfl, supg rfl, trivial⟩, ⟨supg rfl, trivial⟩, trivial, trivial, rfl, rfl⟩ ?_
      intro j hI2
      obtain ⟨hj1, hj2⟩ := hI2
      have hbad : badD d = false := any_end _ _ k (by omega) hk2
      have hn := numW_tk hbad j (by omega)
      have hp := pow_bd j (by omega)
      refine W_seq ?_
      refine W_seq ?_
      refine W_regionE (c := 11) (c' := 15) (by kernel_rfl) rfl ?_
      refine Runs_p rfl (Valid.movek (A := Is _) rfl rfl) rfl rfl ?_ -- ref.go:26 move
      refine Runs_p rfl (Valid.movek (A := Sl 1 _ _) rfl rfl) rfl rfl ?_ -- ref.go:26 move
      refine Runs_p rfl (Valid.len rfl Try.underlying22 (Reads.sl rfl)) rfl rfl ?_ -- ref.go:26 call
      refine Runs_p rfl (Valid.lss rfl rfl rfl) rfl rfl ?_ -- ref.go:26 binOp
      refine Runs_nil ?_
      refine thenQ_n ?_
      refine W_cond _ rfl (fun hb3 => ?_) (fun hb3 => ?_)
      · try simp only [decide_eq_true_eq] at hb3
        all_goals (
          refine W_skip ?_
          refine thenQ_n ?_
          refine W_seq ?_
          refine W_block ?_
          refine W_seq ?_
          refine W_seq ?_
          refine W_regionE (c := 15) (c' := 17) (by kernel_rfl) rfl ?_
          refine Runs_p rfl (Valid.movek (A := Is _) rfl rfl) rfl rfl ?_ -- ref.go:27 move
          refine Runs_p rfl (Valid.gtr rfl rfl rfl) rfl rfl ?_ -- ref.go:27 binOp
          refine Runs_nil ?_
          refine thenQ_n ?_
          refine W_cond _ rfl (fun hb4 => ?_) (fun hb4 => ?_)
          · try simp only [decide_eq_true_eq] at hb4
            all_goals (
              refine W_seq ?_
              refine W_regionE (c := 17) (c' := 19) (by kernel_rfl) rfl ?_
              refine Runs_p rfl (Valid.assignk (A := Is _) rfl rfl) rfl rfl ?_ -- ref.go:28 assign
              refine Runs_p rfl (Valid.assignk (A := Is _) rfl rfl) rfl rfl ?_ -- ref.go:28 assign
              refine Runs_nil ?_
              refine thenQ_n ?_
              refine W_ret ?_
              refine thenQ_r ?_
              refine blockQ_r ?_
              refine thenQ_r ?_
              refine loopQ_r ?_
              refine blockQ_r ?_
              refine thenQ_r ?_
              refine finQ_r ?_
              refine ResOk.two rfl (RVal.is rfl rfl (by first | (rw [numR_bad (any_stop badP d k 0 (by omega) (badP_t (by omega)))]) | (rw [numR_long hbad (by omega)]) | (rw [take_all d j (by omega)] at *; rw [numR_big hbad (by omega)]) | (rw [take_all d j (by omega)] at *; rw [numR_ok hbad (by omega)]))) (RVal.is rfl rfl (by first | (rw [numR_bad (any_stop badP d k 0 (by omega) (badP_t (by omega)))]) | (rw [numR_long hbad (by omega)]) | (rw [take_all d j (by omega)] at *; rw [numR_big hbad (by omega)]) | (rw [take_all d j (by omega)] at *; rw [numR_ok hbad (by omega)])))
              done)
          · try simp only [decide_eq_false_iff_not] at hb4
            all_goals (
              refine W_skip ?_
              refine thenQ_n ?_
              refine W_seq ?_
              refine W_regionE (c := 17) (c' := 27) (by kernel_rfl) rfl ?_
              refine Runs_p rfl (Valid.movek (A := Is _) rfl rfl) rfl rfl ?_ -- ref.go:30 move
              refine Runs_p rfl (Valid.movek (A := Is _) rfl rfl) rfl rfl ?_ -- ref.go:30 move
              refine Runs_p rfl (Valid.movek (A := Sl 1 _ _) rfl rfl) rfl rfl ?_ -- ref.go:30 move
              refine Runs_p rfl (Valid.movek (A := Is _) rfl rfl) rfl rfl ?_ -- ref.go:30 move
              refine Runs_p rfl (Valid.eltaddr1 0 rfl Try.underlying22 sz3 (Reads.sl rfl) rfl (by first | omega | (simp only [Int.toNat_natCast, toNat_add, toNat_add1, List.length_append, List.length_cons, List.length_nil, List.length_replicate]; omega)) (by first | rfl | simp)) rfl rfl ?_ -- ref.go:30 indexAddr
              refine Runs_p rfl (Valid.loadelt rfl ag3 rfl) rfl rfl ?_ -- ref.go:30 load
              refine Runs_p rfl (Valid.add rfl rfl rfl (room64 (by have h1 := mul_bd (bad_at hbad (k := j) (by omega)) j (by omega); rw [Int.mul_comm] at h1; have h2 := bad_at hbad (k := j) (by omega); simp only [Int.toNat_natCast] at *; omega) (by have h1 := mul_bd (bad_at hbad (k := j) (by omega)) j (by omega); rw [Int.mul_comm] at h1; have h2 := bad_at hbad (k := j) (by omega); simp only [Int.toNat_natCast] at *; omega))) rfl rfl ?_ -- ref.go:30 binOp
              refine Runs_p rfl (Valid.mul rfl rfl rfl (room64 (by have h1 := mul_bd (bad_at hbad (k := j) (by omega)) j (by omega); rw [Int.mul_comm] at h1; have h2 := bad_at hbad (k := j) (by omega); simp only [Int.toNat_natCast] at *; omega) (by have h1 := mul_bd (bad_at hbad (k := j) (by omega)) j (by omega); rw [Int.mul_comm] at h1; have h2 := bad_at hbad (k := j) (by omega); simp only [Int.toNat_natCast] at *; omega))) rfl rfl ?_ -- ref.go:30 binOp
              refine Runs_p rfl (Valid.add rfl rfl rfl (room64 (by have h1 := mul_bd (bad_at hbad (k := j) (by omega)) j (by omega); rw [Int.mul_comm] at h1; have h2 := bad_at hbad (k := j) (by omega); simp only [Int.toNat_natCast] at *; omega) (by have h1 := mul_bd (bad_at hbad (k := j) (by omega)) j (by omega); rw [Int.mul_comm] at h1; have h2 := bad_at hbad (k := j) (by omega); simp only [Int.toNat_natCast] at *; omega))) rfl rfl ?_ -- ref.go:30 binOp
              refine Runs_p rfl (Valid.assignk (A := Is _) rfl rfl) rfl rfl ?_ -- ref.go:30 assign
              refine Runs_nil ?_
              refine thenQ_n ?_
              refine W_regionE (c := 27) (c' := 30) (by kernel_rfl) rfl ?_
              refine Runs_p rfl (Valid.movek (A := Is _) rfl rfl) rfl rfl ?_ -- ref.go:31 move
              refine Runs_p rfl (Valid.mul rfl rfl rfl (room64 (by first | omega | (simp only [Int.toNat_natCast, toNat_add, toNat_add1, List.length_append, List.length_cons, List.length_nil, List.length_replicate]; omega)) (by first | omega | (simp only [Int.toNat_natCast, toNat_add, toNat_add1, List.length_append, List.length_cons, List.length_nil, List.length_replicate]; omega)))) rfl rfl ?_ -- ref.go:31 binOp
              refine Runs_p rfl (Valid.assignk (A := Is _) rfl rfl) rfl rfl ?_ -- ref.go:31 assign
              refine Runs_nil ?_
              refine blockQ_n ?_
              refine thenQ_n ?_
              refine W_regionE (c := 30) (c' := 33) (by kernel_rfl) rfl ?_
              refine Runs_p rfl (Valid.movek (A := Is _) rfl rfl) rfl rfl ?_ -- ref.go:26 move
              refine Runs_p rfl (Valid.add rfl rfl rfl (room64 (by first | omega | (simp only [Int.toNat_natCast, toNat_add, toNat_add1, List.length_append, List.length_cons, List.length_nil, List.length_replicate]; omega)) (by first | omega | (simp only [Int.toNat_natCast, toNat_add, toNat_add1, List.length_append, List.length_cons, List.length_nil, List.length_replicate]; omega)))) rfl rfl ?_ -- ref.go:26 binOp
              refine Runs_p rfl (Valid.assignk (A := Is _) rfl rfl) rfl rfl ?_ -- ref.go:26 assign
              refine Runs_nil ?_
              refine LoopQ.next (j + 1) [] (by first | trivial | omega | (simp; omega)) (by first | omega | (dsimp only; omega)) ⟨⟨(leq_is rfl rfl (by first | rfl | (rw [numW_take d j (by omega), Int.mul_comm]; rfl) | (rw [Int.pow_succ, Int.mul_comm]))), (leq_is rfl rfl (by first | rfl | (rw [numW_take d j (by omega), Int.mul_comm]; rfl) | (rw [Int.pow_succ, Int.mul_comm]))), (leq_is rfl rfl (by first | rfl | (rw [numW_take d j (by omega), Int.mul_comm]; rfl) | (rw [Int.pow_succ, Int.mul_comm]))), trivial⟩, ⟨(leq_sl (Reads.sl rfl) rfl rfl rfl), trivial⟩, trivial, trivial, rfl, ⟨supg rfl, supg rfl, supg rfl, trivial⟩, ⟨supg rfl, trivial⟩, trivial, trivial, rfl, rfl⟩
              done)
          done)
      · try simp only [decide_eq_false_iff_not] at hb3
        all_goals (
          refine W_exit ?_
          refine thenQ_e ?_
          refine loopQ_e ?_
          refine blockQ_x ?_
          refine thenQ_n ?_
          refine W_seq ?_
          refine W_seq ?_
          refine W_regionE (c := 15) (c' := 17) (by kernel_rfl) rfl ?_
          refine Runs_p rfl (Valid.movek (A := Is _) rfl rfl) rfl rfl ?_ -- ref.go:33 move
          refine Runs_p rfl (Valid.gtr rfl rfl rfl) rfl rfl ?_ -- ref.go:33 binOp
          refine Runs_nil ?_
          refine thenQ_n ?_
          refine W_cond _ rfl (fun hb5 => ?_) (fun hb5 => ?_)
          · try simp only [decide_eq_true_eq] at hb5
            all_goals (
              refine W_seq ?_
              refine W_regionE (c := 17) (c' := 19) (by kernel_rfl) rfl ?_
              refine Runs_p rfl (Valid.assignk (A := Is _) rfl rfl) rfl rfl ?_ -- ref.go:34 assign
              refine Runs_p rfl (Valid.assignk (A := Is _) rfl rfl) rfl rfl ?_ -- ref.go:34 assign
              refine Runs_nil ?_
              refine thenQ_n ?_
              refine W_ret ?_
              refine thenQ_r ?_
              refine finQ_r ?_
              refine ResOk.two rfl (RVal.is rfl rfl (by first | (rw [numR_bad (any_stop badP d k 0 (by omega) (badP_t (by omega)))]) | (rw [numR_long hbad (by omega)]) | (rw [take_all d j (by omega)] at *; rw [numR_big hbad (by omega)]) | (rw [take_all d j (by omega)] at *; rw [numR_ok hbad (by omega)]))) (RVal.is rfl rfl (by first | (rw [numR_bad (any_stop badP d k 0 (by omega) (badP_t (by omega)))]) | (rw [numR_long hbad (by omega)]) | (rw [take_all d j (by omega)] at *; rw [numR_big hbad (by omega)]) | (rw [take_all d j (by omega)] at *; rw [numR_ok hbad (by omega)])))
              done)
          · try simp only [decide_eq_false_iff_not] at hb5
            all_goals (
              refine W_skip ?_
              refine thenQ_n ?_
              refine W_seq ?_
              refine W_regionE (c := 17) (c' := 20) (by kernel_rfl) rfl ?_
              refine Runs_p rfl (Valid.movek (A := Is _) rfl rfl) rfl rfl ?_ -- ref.go:36 move
              refine Runs_p rfl (Valid.assignk (A := Is _) rfl rfl) rfl rfl ?_ -- ref.go:36 assign
              refine Runs_p rfl (Valid.assignk (A := Is _) rfl rfl) rfl rfl ?_ -- ref.go:36 assign
              refine Runs_nil ?_
              refine thenQ_n ?_
              refine W_ret ?_
              refine finQ_r ?_
              refine ResOk.two rfl (RVal.is rfl rfl (by first | (rw [numR_bad (any_stop badP d k 0 (by omega) (badP_t (by omega)))]) | (rw [numR_long hbad (by omega)]) | (rw [take_all d j (by omega)] at *; rw [numR_big hbad (by omega)]) | (rw [take_all d j (by omega)] at *; rw [numR_ok hbad (by omega)]))) (RVal.is rfl rfl (by first | (rw [numR_bad (any_stop badP d k 0 (by omega) (badP_t (by omega)))]) | (rw [numR_long hbad (by omega)]) | (rw [take_all d j (by omega)] at *; rw [numR_big hbad (by omega)]) | (rw [take_all d j (by omega)] at *; rw [numR_ok hbad (by omega)])))
              done)
          done)
      done)
end Zc
end Go.Proofs.Ytimpmdcebapfiaa
