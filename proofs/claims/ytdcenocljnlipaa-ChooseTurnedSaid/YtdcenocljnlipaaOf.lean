/-
  WALKS of stage 8: the greatest of lengths.
-/
import Derived.Test.YtdcenocljnlipaaRows
import Derived.Test.YtdcenocljnlipaaOa
import Derived.Test.YtdcenocljnlipaaOb
import Derived.Test.YtdcenocljnlipaaOc
import Derived.Test.YtdcenocljnlipaaOd
namespace Go.Proofs.Ytdcenocljnlipaa
open Go.RowKit
namespace Of
open Ab Oa Ob Oc Od
theorem ag3 (w : World) : (isAgg 3).run Try.prog w = .ok false w := by kernel_rfl
theorem sz3 (w : World) : (sizeOf 3).run Try.prog w = .ok 1 w := by kernel_rfl
def mxA (l : List Int) (i : Nat) : Int := (l.take i).foldl max (l.getD 0 0)
def mxL (l : List Int) : Int := mxA l l.length
theorem mxA_1 (l : List Int) : mxA l 1 = l.getD 0 0 := by
  cases l with
  | nil => rfl
  | cons x l => simp [mxA]
theorem mxA_s {l : List Int} {i : Nat} (h : i < l.length) : max (mxA l i) (l.getD i 0) = mxA l (i + 1) := by
  rw [mxA, mxA, List.take_succ_eq_append_getElem h, List.foldl_append, List.getD_eq_getElem?_getD, List.getD_eq_getElem?_getD, List.getElem?_eq_getElem h]; rfl
theorem mxA_ge (l : List Int) (i : Nat) : ∀ j, j < i → j < l.length → l.getD j 0 ≤ mxA l i := by
  induction i with
  | zero => intro j hj; omega
  | succ i ih =>
    intro j hj hl
    by_cases hi : i < l.length
    · rw [← mxA_s hi]
      by_cases e : j = i
      · subst e; omega
      · have := ih j (by omega) hl; omega
    · have e1 : mxA l (i + 1) = mxA l i := by rw [mxA, mxA, List.take_of_length_le (by omega), List.take_of_length_le (by omega)]
      rw [e1]; exact ih j (by omega) hl

set_option maxRecDepth 100000 in
set_option maxHeartbeats 1000000 in
theorem smax_s (l : List Int) (h1 : 1 ≤ l.length) (hl : l.length ≤ 9223372036854775807) :
    FPure Try.prog 39 [Sl 1 l.length (l.map (Value.int .i64))] (Is (.int .i64 (mxL l))) := by
  refine FPure.of Try.func39 Try.ntmps39 rfl (by kernel_rfl) rfl rfl rfl ?_
  refine W_seq ?_
  refine W_regionE (c := 1) (c' := 2) (by kernel_rfl) rfl ?_
  refine Runs_p rfl (Valid.assignk (A := Is _) rfl rfl) rfl rfl ?_ -- sort.go:95 assign
  refine Runs_nil ?_
  refine thenQ_n ?_
  refine W_seq ?_
  refine W_seq ?_
  refine W_regionE (c := 2) (c' := 5) (by kernel_rfl) rfl ?_
  refine Runs_p rfl (Valid.movek (A := Sl 1 _ _) rfl rfl) rfl rfl ?_ -- sort.go:96 move
  refine Runs_p rfl (Valid.len rfl Try.underlying22 (Reads.sl rfl)) rfl rfl ?_ -- sort.go:96 call
  refine Runs_p rfl (Valid.lss rfl rfl rfl) rfl rfl ?_ -- sort.go:96 binOp
  refine Runs_nil ?_
  refine thenQ_n ?_
  refine W_cond _ rfl (fun hb1 => ?_) (fun hb1 => ?_)
  · try simp only [decide_eq_true_eq] at hb1
    all_goals (
      exfalso
      omega
      
      done)
  · try simp only [decide_eq_false_iff_not] at hb1
    all_goals (
      refine W_skip ?_
      refine thenQ_n ?_
      refine W_seq ?_
      refine W_regionE (c := 5) (c' := 9) (by kernel_rfl) rfl ?_
      refine Runs_p rfl (Valid.movek (A := Sl 1 _ _) rfl rfl) rfl rfl ?_ -- sort.go:99 move
      refine Runs_p rfl (Valid.eltaddr1 0 rfl Try.underlying22 sz3 (Reads.sl rfl) rfl (by first | omega | (simp only [Int.toNat_natCast, toNat_add, toNat_add1, List.length_append, List.length_cons, List.length_nil, List.length_replicate]; omega)) (by first | rfl | simp)) rfl rfl ?_ -- sort.go:99 indexAddr
      refine Runs_p rfl (Valid.loadelt rfl ag3 rfl) rfl rfl ?_ -- sort.go:99 load
      refine Runs_p rfl (Valid.assignk (A := Is _) rfl rfl) rfl rfl ?_ -- sort.go:99 assign
      refine Runs_nil ?_
      refine thenQ_n ?_
      refine W_seq ?_
      refine W_seq ?_
      refine W_regionE (c := 9) (c' := 10) (by kernel_rfl) rfl ?_
      refine Runs_p rfl (Valid.assignk (A := Is _) rfl rfl) rfl rfl ?_ -- sort.go:100 assign
      refine Runs_nil ?_
      refine thenQ_n ?_
      refine W_block ?_
      refine W_loopx (G := Nat) (fun (i : Nat) => 1 ≤ i ∧ i ≤ l.length) [(0, Sl 1 _ _)] (fun (i : Nat) => [(4, Is (.int .i64 (i : Int))), (3, Is (.int .i64 (mxA l i)))]) [] (fun (i : Nat) => []) 10 (fun (i : Nat) => l.length - i) (1) [] (⟨by omega, by omega⟩) ⟨⟨(leq_is rfl rfl (by first | rfl | (rw [mxA_1]; rfl))), (leq_is rfl rfl (by first | rfl | (rw [mxA_1]; rfl))), trivial⟩, ⟨(leq_sl (Reads.sl rfl) rfl rfl rfl), trivial⟩, trivial, trivial, rfl, ⟨supg rfl, supg rfl, trivial⟩, ⟨supg rfl, trivial⟩, trivial, trivial, rfl, rfl⟩ ?_
      intro i hI1
      refine W_seq ?_
      refine W_seq ?_
      refine W_regionE (c := 10) (c' := 14) (by kernel_rfl) rfl ?_
      refine Runs_p rfl (Valid.movek (A := Is _) rfl rfl) rfl rfl ?_ -- sort.go:100 move
      refine Runs_p rfl (Valid.movek (A := Sl 1 _ _) rfl rfl) rfl rfl ?_ -- sort.go:100 move
      refine Runs_p rfl (Valid.len rfl Try.underlying22 (Reads.sl rfl)) rfl rfl ?_ -- sort.go:100 call
      refine Runs_p rfl (Valid.lss rfl rfl rfl) rfl rfl ?_ -- sort.go:100 binOp
      refine Runs_nil ?_
      refine thenQ_n ?_
      refine W_cond _ rfl (fun hb2 => ?_) (fun hb2 => ?_)
      · try simp only [decide_eq_true_eq] at hb2
        all_goals (
          refine W_skip ?_
          refine thenQ_n ?_
          refine W_seq ?_
          refine W_block ?_
          refine W_regionE (c := 14) (c' := 21) (by kernel_rfl) rfl ?_
          refine Runs_p rfl (Valid.movek (A := Is _) rfl rfl) rfl rfl ?_ -- sort.go:101 move
          refine Runs_p rfl (Valid.movek (A := Sl 1 _ _) rfl rfl) rfl rfl ?_ -- sort.go:101 move
          refine Runs_p rfl (Valid.movek (A := Is _) rfl rfl) rfl rfl ?_ -- sort.go:101 move
          refine Runs_p rfl (Valid.eltaddr1 0 rfl Try.underlying22 sz3 (Reads.sl rfl) rfl (by first | omega | (simp only [Int.toNat_natCast, toNat_add, toNat_add1, List.length_append, List.length_cons, List.length_nil, List.length_replicate]; omega)) (by first | rfl | simp)) rfl rfl ?_ -- sort.go:101 indexAddr
          refine Runs_p rfl (Valid.loadelt rfl ag3 rfl) rfl rfl ?_ -- sort.go:101 load
          refine Runs_p rfl (Valid.max rfl rfl rfl) rfl rfl ?_ -- sort.go:101 call
          refine Runs_p rfl (Valid.assignk (A := Is _) rfl rfl) rfl rfl ?_ -- sort.go:101 assign
          refine Runs_nil ?_
          refine blockQ_n ?_
          refine thenQ_n ?_
          refine W_regionE (c := 21) (c' := 24) (by kernel_rfl) rfl ?_
          refine Runs_p rfl (Valid.movek (A := Is _) rfl rfl) rfl rfl ?_ -- sort.go:100 move
          refine Runs_p rfl (Valid.add rfl rfl rfl (room64 (by first | omega | (simp only [Int.toNat_natCast, toNat_add, toNat_add1, List.length_append, List.length_cons, List.length_nil, List.length_replicate]; omega)) (by first | omega | (simp only [Int.toNat_natCast, toNat_add, toNat_add1, List.length_append, List.length_cons, List.length_nil, List.length_replicate]; omega)))) rfl rfl ?_ -- sort.go:100 binOp
          refine Runs_p rfl (Valid.assignk (A := Is _) rfl rfl) rfl rfl ?_ -- sort.go:100 assign
          refine Runs_nil ?_
          refine LoopQ.next (i + 1) [] (⟨by omega, by omega⟩) (by omega) ⟨⟨(leq_is rfl rfl (by first | rfl | exact congrArg (Value.int .i64) (mxA_s (by omega)))), (leq_is rfl rfl (by first | rfl | exact congrArg (Value.int .i64) (mxA_s (by omega)))), trivial⟩, ⟨(leq_sl (Reads.sl rfl) rfl rfl rfl), trivial⟩, trivial, trivial, rfl, ⟨supg rfl, supg rfl, trivial⟩, ⟨supg rfl, trivial⟩, trivial, trivial, rfl, rfl⟩
          done)
      · try simp only [decide_eq_false_iff_not] at hb2
        all_goals (
          refine W_exit ?_
          refine thenQ_e ?_
          refine loopQ_e ?_
          refine blockQ_x ?_
          refine thenQ_n ?_
          refine W_seq ?_
          refine W_regionE (c := 14) (c' := 16) (by kernel_rfl) rfl ?_
          refine Runs_p rfl (Valid.movek (A := Is _) rfl rfl) rfl rfl ?_ -- sort.go:103 move
          refine Runs_p rfl (Valid.assignk (A := Is _) rfl rfl) rfl rfl ?_ -- sort.go:103 assign
          refine Runs_nil ?_
          refine thenQ_n ?_
          refine W_ret ?_
          refine finQ_r ?_
          refine ResOk.one rfl (RVal.is rfl rfl (by rw [mxL, show i = l.length by omega]))
          done)
      done)
end Of
end Go.Proofs.Ytdcenocljnlipaa
