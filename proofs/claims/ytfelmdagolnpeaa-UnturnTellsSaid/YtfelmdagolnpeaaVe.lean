/-
  WALKS of stage 14: the reference, Back.
-/
import Derived.Test.YtfelmdagolnpeaaRows
import Derived.Test.YtfelmdagolnpeaaVm
import Derived.Test.YtfelmdagolnpeaaVd
import Derived.Test.YtfelmdagolnpeaaVn
import Derived.Test.YtfelmdagolnpeaaVa
import Derived.Test.YtfelmdagolnpeaaVb
namespace Go.Proofs.Ytfelmdagolnpeaa
open Go.RowKit
namespace Ve
open Ab Vm Vd Vn Va Vb
theorem ag3 (w : World) : (isAgg 3).run Try.prog w = .ok false w := by kernel_rfl
theorem sz3 (w : World) : (sizeOf 3).run Try.prog w = .ok 1 w := by kernel_rfl
theorem rvec_v (s : ByteArray) (hs : s.size ≤ 1000000) : FPure Try.prog 13 [Is (.string s)] (Sl 1 s.size ((vecL s).map (Value.int .i64))) := by
  have h := rvec_s s hs
  rw [← vec_eq, vec_len] at h
  exact h
def strR (s : ByteArray) (o : Int) : Nat → ByteArray
  | 0 => ByteArray.empty
  | k + 1 => strR s o k ++ s.extract (backA s o (k + 1)).toNat (backA s o (k + 1) + 1).toNat
  termination_by k => k
theorem str_0 (s : ByteArray) (o : Int) : strR s o 0 = ByteArray.empty := by rw [strR]
theorem str_1 (s : ByteArray) (o : Int) (k : Nat) : strR s o k ++ s.extract ((vecL s).getD (backA s o k).toNat 0).toNat ((vecL s).getD (backA s o k).toNat 0 + 1).toNat = strR s o (k + 1) := by rw [strR, ← back_1]
theorem str_size (s : ByteArray) (o : Int) (h : 0 ≤ o) (h2 : o < s.size) : ∀ k, (strR s o k).size = k
  | 0 => by rw [str_0]; rfl
  | k + 1 => by
    have := back_in s o h h2 (k + 1)
    rw [strR, ByteArray.size_append, ByteArray.size_extract, str_size s o h h2 k]; omega
def refR (s : ByteArray) (o : Int) : ByteArray × Int := if o < 0 ∨ max 1 (s.size : Int) ≤ o then (ByteArray.empty, 1) else (strR s o s.size, 0)

set_option maxRecDepth 100000 in
set_option maxHeartbeats 1000000 in
theorem rback_s (s : ByteArray) (o : Int) (hs : s.size ≤ 1000000) (wo : -9223372036854775808 ≤ o ∧ o ≤ 9223372036854775807) :
    FPure Try.prog 18 [Is (.string s), Is (.int .i64 o)] (Tup [Is (.string (refR s o).1), Is (.int .i64 (refR s o).2)]) := by
  refine FPure.of Try.func18 Try.ntmps18 rfl (by kernel_rfl) rfl rfl rfl ?_
  refine W_seq ?_
  refine W_regionE (c := 1) (c' := 3) (by kernel_rfl) rfl ?_
  refine Runs_p rfl (Valid.assignk (A := Is _) rfl rfl) rfl rfl ?_ -- ref.go:22 assign
  refine Runs_p rfl (Valid.assignk (A := Is _) rfl rfl) rfl rfl ?_ -- ref.go:22 assign
  refine Runs_nil ?_
  refine thenQ_n ?_
  refine W_seq ?_
  refine W_seq ?_
  refine W_regionE (c := 3) (c' := 15) (by kernel_rfl) rfl ?_
  refine Runs_p rfl (Valid.movek (A := Is _) rfl rfl) rfl rfl ?_ -- ref.go:23 move
  refine Runs_p rfl (Valid.lss rfl rfl rfl) rfl rfl ?_ -- ref.go:23 binOp
  refine Runs_p rfl (Valid.movek (A := Is _) rfl rfl) rfl rfl ?_ -- ref.go:23 move
  refine Runs_cnd rfl rfl (Grd.is rfl) [] (fun hg => trivial) (fun hg => Valid.movek (A := Is _) rfl rfl) (by rfl) rfl ?_
  refine Runs_cnd rfl rfl (Grd.is rfl) [(13, _)] (fun hg => ⟨cnd_at rfl (by first | exact hg | exact hg.1 | exact hg.1.1 | exact hg.1.1.1), trivial⟩) (fun hg => Valid.gtr rfl rfl rfl) (by rfl) rfl ?_
  refine Runs_cnd rfl rfl (Grd.is rfl) [(14, _)] (fun hg => ⟨cnd_at rfl (by first | exact hg | exact hg.1 | exact hg.1.1 | exact hg.1.1.1), trivial⟩) (fun hg => Valid.movek (A := Is _) rfl rfl) (by rfl) rfl ?_
  refine Runs_cnd rfl rfl (Grd.cnd rfl) [] (fun hg => trivial) (fun hg => Valid.movek (A := Is _) rfl rfl) (by rfl) rfl ?_
  refine Runs_cnd rfl rfl (Grd.cnd rfl) [] (fun hg => trivial) (fun hg => Valid.movek (A := Is _) rfl rfl) (by rfl) rfl ?_
  refine Runs_cnd rfl rfl (Grd.cnd rfl) [(17, _)] (fun hg => ⟨cnd_at rfl (by first | exact hg | exact hg.1 | exact hg.1.1 | exact hg.1.1.1), trivial⟩) (fun hg => Valid.slen rfl Try.underlying9 rfl) (by rfl) rfl ?_
  refine Runs_cnd rfl rfl (Grd.cnd rfl) [(16, _), (18, _)] (fun hg => ⟨cnd_at rfl (by first | exact hg | exact hg.1 | exact hg.1.1 | exact hg.1.1.1), cnd_at rfl (by first | exact hg | exact hg.1 | exact hg.1.1 | exact hg.1.1.1), trivial⟩) (fun hg => Valid.geq rfl rfl rfl) (by rfl) rfl ?_
  refine Runs_cnd rfl rfl (Grd.is rfl) [(15, _)] (fun hg => ⟨cnd_at rfl (by first | exact hg | exact hg.1 | exact hg.1.1 | exact hg.1.1.1), trivial⟩) (fun hg => Valid.pickand rfl rfl rfl (fun h => by first | exact h | exact ⟨hg, h⟩) rfl) (by rfl) rfl ?_
  refine Runs_p rfl (Valid.pickor rfl rfl rfl rfl (fun h => by first | exact h | exact ⟨hg, h⟩)) rfl rfl ?_ -- ref.go:23 pick
  refine Runs_nil ?_
  refine thenQ_n ?_
  refine W_cond _ rfl (fun hb1 => ?_) (fun hb1 => ?_)
  · try simp only [decide_eq_true_eq, Bool.and_eq_true, Bool.or_eq_true] at hb1
    all_goals (
      refine W_seq ?_
      refine W_regionE (c := 15) (c' := 17) (by kernel_rfl) rfl ?_
      refine Runs_p rfl (Valid.assignk (A := Is _) rfl rfl) rfl rfl ?_ -- ref.go:24 assign
      refine Runs_p rfl (Valid.assignk (A := Is _) rfl rfl) rfl rfl ?_ -- ref.go:24 assign
      refine Runs_nil ?_
      refine thenQ_n ?_
      refine W_ret ?_
      refine thenQ_r ?_
      refine finQ_r ?_
      refine ResOk.two rfl (RVal.is rfl rfl (by first | (rw [refR, if_pos (by omega)]; done) | (rw [refR, if_pos (by omega)]; rfl) | (rw [refR, if_neg (by omega), show s.size = k by omega]; done) | (rw [refR, if_neg (by omega)]))) (RVal.is rfl rfl (by first | (rw [refR, if_pos (by omega)]; done) | (rw [refR, if_pos (by omega)]; rfl) | (rw [refR, if_neg (by omega), show s.size = k by omega]; done) | (rw [refR, if_neg (by omega)])))
      done)
  · try simp only [decide_eq_false_iff_not, Bool.and_eq_false_iff, Bool.or_eq_false_iff] at hb1
    all_goals (
      refine W_skip ?_
      refine thenQ_n ?_
      refine W_seq ?_
      refine W_regionE (c := 15) (c' := 18) (by kernel_rfl) rfl ?_
      refine Runs_p rfl (Valid.movek (A := Is _) rfl rfl) rfl rfl ?_ -- ref.go:26 move
      refine Runs_p rfl (Valid.call rfl (rvec_v _ (by omega)) ⟨argle rfl, trivial⟩) rfl rfl ?_ -- ref.go:26 call
      refine Runs_p rfl (Valid.assignk (A := Sl 1 _ _) rfl rfl) rfl rfl ?_ -- ref.go:26 assign
      refine Runs_nil ?_
      refine thenQ_n ?_
      refine W_seq ?_
      refine W_regionE (c := 18) (c' := 19) (by kernel_rfl) rfl ?_
      refine Runs_p rfl (Valid.assignk (A := Is _) rfl rfl) rfl rfl ?_ -- ref.go:27 assign
      refine Runs_nil ?_
      refine thenQ_n ?_
      refine W_seq ?_
      refine W_regionE (c := 19) (c' := 21) (by kernel_rfl) rfl ?_
      refine Runs_p rfl (Valid.movek (A := Is _) rfl rfl) rfl rfl ?_ -- ref.go:28 move
      refine Runs_p rfl (Valid.assignk (A := Is _) rfl rfl) rfl rfl ?_ -- ref.go:28 assign
      refine Runs_nil ?_
      refine thenQ_n ?_
      refine W_seq ?_
      refine W_seq ?_
      refine W_regionE (c := 21) (c' := 22) (by kernel_rfl) rfl ?_
      refine Runs_p rfl (Valid.assignk (A := Is _) rfl rfl) rfl rfl ?_ -- ref.go:29 assign
      refine Runs_nil ?_
      refine thenQ_n ?_
      refine W_block ?_
      refine W_loopx (G := Nat) (fun (k : Nat) => k ≤ s.size) [(0, Is _), (6, Sl 1 s.size ((vecL s).map (Value.int .i64)))] (fun (k : Nat) => [(9, Is (.int .i64 (k : Int))), (8, Is (.int .i64 (backA s o k))), (7, Is (.string (strR s o k)))]) [] (fun (k : Nat) => []) 22 (fun (k : Nat) => s.size - k) (0) [] (by first | trivial | omega | (simp; omega)) ⟨⟨(leq_is rfl rfl (by first | rfl | exact congrArg Value.string (str_0 _ _).symm | exact congrArg (Value.int .i64) (back_0 _ _).symm)), (leq_is rfl rfl (by first | rfl | exact congrArg Value.string (str_0 _ _).symm | exact congrArg (Value.int .i64) (back_0 _ _).symm)), (leq_is rfl rfl (by first | rfl | exact congrArg Value.string (str_0 _ _).symm | exact congrArg (Value.int .i64) (back_0 _ _).symm)), trivial⟩, ⟨(leq_is rfl rfl rfl), (leq_sl (Reads.sl rfl) rfl rfl rfl), trivial⟩, trivial, trivial, rfl, ⟨supg rfl, supg rfl, supg rfl, trivial⟩, ⟨supg rfl, supg rfl, trivial⟩, trivial, trivial, rfl, rfl⟩ ?_
      intro k hI1
      have hvl := vec_len s
      have hbi : k < s.size → 0 ≤ backA s o k ∧ backA s o k < s.size := fun h => back_in s o (by omega) (by omega) k
      have hss : k < s.size → (strR s o k).size = k := fun h => str_size s o (by omega) (by omega) k
      have hbv := vec_vals s (backA s o k).toNat
      refine W_seq ?_
      refine W_seq ?_
      refine W_regionE (c := 22) (c' := 26) (by kernel_rfl) rfl ?_
      refine Runs_p rfl (Valid.movek (A := Is _) rfl rfl) rfl rfl ?_ -- ref.go:29 move
      refine Runs_p rfl (Valid.movek (A := Is _) rfl rfl) rfl rfl ?_ -- ref.go:29 move
      refine Runs_p rfl (Valid.slen rfl Try.underlying9 rfl) rfl rfl ?_ -- ref.go:29 call
      refine Runs_p rfl (Valid.lss rfl rfl rfl) rfl rfl ?_ -- ref.go:29 binOp
      refine Runs_nil ?_
      refine thenQ_n ?_
      refine W_cond _ rfl (fun hb2 => ?_) (fun hb2 => ?_)
      · try simp only [decide_eq_true_eq] at hb2
        all_goals (
          refine W_skip ?_
          refine thenQ_n ?_
          refine W_seq ?_
          refine W_block ?_
          refine W_seq ?_
          refine W_regionE (c := 26) (c' := 31) (by kernel_rfl) rfl ?_
          refine Runs_p rfl (Valid.movek (A := Sl 1 _ _) rfl rfl) rfl rfl ?_ -- ref.go:30 move
          refine Runs_p rfl (Valid.movek (A := Is _) rfl rfl) rfl rfl ?_ -- ref.go:30 move
          refine Runs_p rfl (Valid.eltaddr1 0 rfl Try.underlying22 sz3 (Reads.sl rfl) rfl (by first | omega | (simp only [Int.toNat_natCast, toNat_add, toNat_add1, List.length_append, List.length_cons, List.length_nil, List.length_replicate]; omega)) (vec_len s).symm) rfl rfl ?_ -- ref.go:30 indexAddr
          refine Runs_p rfl (Valid.loadelt rfl ag3 rfl) rfl rfl ?_ -- ref.go:30 load
          refine Runs_p rfl (Valid.assignk (A := Is _) rfl rfl) rfl rfl ?_ -- ref.go:30 assign
          refine Runs_nil ?_
          refine thenQ_n ?_
          refine W_regionE (c := 31) (c' := 39) (by kernel_rfl) rfl ?_
          refine Runs_p rfl (Valid.movek (A := Is _) rfl rfl) rfl rfl ?_ -- ref.go:31 move
          refine Runs_p rfl (Valid.movek (A := Is _) rfl rfl) rfl rfl ?_ -- ref.go:31 move
          refine Runs_p rfl (Valid.movek (A := Is _) rfl rfl) rfl rfl ?_ -- ref.go:31 move
          refine Runs_p rfl (Valid.movek (A := Is _) rfl rfl) rfl rfl ?_ -- ref.go:31 move
          refine Runs_p rfl (Valid.add rfl rfl rfl (room64 (by first | omega | (simp only [Int.toNat_natCast, toNat_add, toNat_add1, List.length_append, List.length_cons, List.length_nil, List.length_replicate]; omega)) (by first | omega | (simp only [Int.toNat_natCast, toNat_add, toNat_add1, List.length_append, List.length_cons, List.length_nil, List.length_replicate]; omega)))) rfl rfl ?_ -- ref.go:31 binOp
          refine Runs_p rfl (Valid.sslice rfl Try.underlying9 rfl rfl rfl (by have h := back_in s o (by omega) (by omega) (k + 1); rw [← back_1] at h; omega)) rfl rfl ?_ -- ref.go:31 slice
          refine Runs_p rfl (Valid.cat rfl rfl rfl (by first | omega | (simp only [ByteArray.size_extract]; omega) | (simp only [maxLen]; omega))) rfl rfl ?_ -- ref.go:31 binOp
          refine Runs_p rfl (Valid.assignk (A := Is _) rfl rfl) rfl rfl ?_ -- ref.go:31 assign
          refine Runs_nil ?_
          refine blockQ_n ?_
          refine thenQ_n ?_
          refine W_regionE (c := 39) (c' := 42) (by kernel_rfl) rfl ?_
          refine Runs_p rfl (Valid.movek (A := Is _) rfl rfl) rfl rfl ?_ -- ref.go:29 move
          refine Runs_p rfl (Valid.add rfl rfl rfl (room64 (by first | omega | (simp only [Int.toNat_natCast, toNat_add, toNat_add1, List.length_append, List.length_cons, List.length_nil, List.length_replicate]; omega)) (by first | omega | (simp only [Int.toNat_natCast, toNat_add, toNat_add1, List.length_append, List.length_cons, List.length_nil, List.length_replicate]; omega)))) rfl rfl ?_ -- ref.go:29 binOp
          refine Runs_p rfl (Valid.assignk (A := Is _) rfl rfl) rfl rfl ?_ -- ref.go:29 assign
          refine Runs_nil ?_
          refine LoopQ.next (k + 1) [] (by first | trivial | omega | (simp; omega)) (by first | omega | (dsimp only; omega)) ⟨⟨(leq_is rfl rfl (by first | rfl | exact congrArg Value.string (str_1 _ _ _) | exact congrArg (Value.int .i64) (back_1 _ _ _))), (leq_is rfl rfl (by first | rfl | exact congrArg Value.string (str_1 _ _ _) | exact congrArg (Value.int .i64) (back_1 _ _ _))), (leq_is rfl rfl (by first | rfl | exact congrArg Value.string (str_1 _ _ _) | exact congrArg (Value.int .i64) (back_1 _ _ _))), trivial⟩, ⟨(leq_is rfl rfl rfl), (leq_sl (Reads.sl rfl) rfl rfl rfl), trivial⟩, trivial, trivial, rfl, ⟨supg rfl, supg rfl, supg rfl, trivial⟩, ⟨supg rfl, supg rfl, trivial⟩, trivial, trivial, rfl, rfl⟩
          done)
      · try simp only [decide_eq_false_iff_not] at hb2
        all_goals (
          refine W_exit ?_
          refine thenQ_e ?_
          refine loopQ_e ?_
          refine blockQ_x ?_
          refine thenQ_n ?_
          refine W_seq ?_
          refine W_regionE (c := 26) (c' := 29) (by kernel_rfl) rfl ?_
          refine Runs_p rfl (Valid.movek (A := Is _) rfl rfl) rfl rfl ?_ -- ref.go:33 move
          refine Runs_p rfl (Valid.assignk (A := Is _) rfl rfl) rfl rfl ?_ -- ref.go:33 assign
          refine Runs_p rfl (Valid.assignk (A := Is _) rfl rfl) rfl rfl ?_ -- ref.go:33 assign
          refine Runs_nil ?_
          refine thenQ_n ?_
          refine W_ret ?_
          refine finQ_r ?_
          refine ResOk.two rfl (RVal.is rfl rfl (by first | (rw [refR, if_pos (by omega)]; done) | (rw [refR, if_pos (by omega)]; rfl) | (rw [refR, if_neg (by omega), show s.size = k by omega]; done) | (rw [refR, if_neg (by omega)]))) (RVal.is rfl rfl (by first | (rw [refR, if_pos (by omega)]; done) | (rw [refR, if_pos (by omega)]; rfl) | (rw [refR, if_neg (by omega), show s.size = k by omega]; done) | (rw [refR, if_neg (by omega)])))
          done)
      done)
end Ve
end Go.Proofs.Ytfelmdagolnpeaa
