/-
  WALKS of stage 6: the law that is awake.
-/
import Derived.Test.YtimpmdcebapfiaaRows
import Derived.Test.YtimpmdcebapfiaaZm
import Derived.Test.YtimpmdcebapfiaaZn
import Derived.Test.YtimpmdcebapfiaaZo
import Derived.Test.YtimpmdcebapfiaaZp
import Derived.Test.YtimpmdcebapfiaaZa
import Derived.Test.YtimpmdcebapfiaaZb
import Derived.Test.YtimpmdcebapfiaaZc
import Derived.Test.YtimpmdcebapfiaaZd
import Derived.Test.YtimpmdcebapfiaaZe
import Derived.Test.YtimpmdcebapfiaaZf
namespace Go.Proofs.Ytimpmdcebapfiaa
open Go.RowKit
namespace Zg
open Ab Zm Zn Zo Zp Za Zb Zc Zd Ze Zf

theorem digs0 : digs 0 = [] := by simp [digs]
theorem digs1 : digs 1 = [0] := by simp [digs]
theorem digs3 : digs 3 = [0, 0] := by simp [digs]
theorem digs4 : digs 4 = [1, 0] := by simp [digs]
theorem encA : encV [0, 0, 0, 5, 0] = ([0, 0, 6, 0], 0) := by
  rw [encV, if_neg (by decide)]
  simp [enc, digs1, digs3]
theorem encB : encV [-1] = ([], 1) := by rw [encV, if_pos (by decide)]
theorem decA : decR [0, 0, 6, 0] = some [0, 0, 0, 5, 0] := by
  rw [decR_cons [0, 0, 6, 0] 6 [0] (by decide) (by decide), decR_end [0] (by decide) (by decide)]
  decide
theorem decV5 : decV [0, 0, 6, 0] 5 = ([0, 0, 0, 5, 0], 0) := decV_ok (by decide) decA (by decide)
theorem decV4 : decV [0, 0, 6, 0] 4 = ([], 4) := decV_no (by decide) (by rw [decA]; decide)
theorem numA : numR [1, 0] = (4, 0) := by decide
theorem numB : numR [2] = (0, 1) := by decide
theorem in64A : In64 [0, 0, 6, 0] := by intro x hx; simp at hx; omega

theorem kea : FPure Try.prog 14 [Sl 1 5 ([(0 : Int), (0 : Int), (0 : Int), (5 : Int), (0 : Int)].map (Value.int .i64))] (Tup [Sl 1 4 ([(0 : Int), (0 : Int), (6 : Int), (0 : Int)].map (Value.int .i64)), Is (.int .i64 0)]) := by
  have h := enc_s [0, 0, 0, 5, 0] (by decide)
  rw [encA] at h
  exact h

theorem keb : FPure Try.prog 14 [Sl 1 1 ([(-1 : Int)].map (Value.int .i64))] (Tup [Sl 1 0 ([].map (Value.int .i64)), Is (.int .i64 1)]) := by
  have h := enc_s [-1] (by decide)
  rw [encB] at h
  exact h

theorem kd5 : FPure Try.prog 19 [Sl 1 4 ([(0 : Int), (0 : Int), (6 : Int), (0 : Int)].map (Value.int .i64)), Is (.int .i64 5)] (Tup [Sl 1 5 ([(0 : Int), (0 : Int), (0 : Int), (5 : Int), (0 : Int)].map (Value.int .i64)), Is (.int .i64 0)]) := by
  have h := dec_s [0, 0, 6, 0] 5 (by decide) in64A (by decide) (by decide)
  rw [decV5] at h
  exact h

theorem kd4 : FPure Try.prog 19 [Sl 1 4 ([(0 : Int), (0 : Int), (6 : Int), (0 : Int)].map (Value.int .i64)), Is (.int .i64 4)] (Tup [Sl 1 0 ([].map (Value.int .i64)), Is (.int .i64 4)]) := by
  have h := dec_s [0, 0, 6, 0] 4 (by decide) in64A (by decide) (by decide)
  rw [decV4] at h
  exact h

theorem kna : FPure Try.prog 16 [Sl 1 2 ([(1 : Int), (0 : Int)].map (Value.int .i64))] (Tup [Is (.int .i64 4), Is (.int .i64 0)]) := by
  have h := num_s [1, 0] (by decide)
  rw [numA] at h
  exact h

theorem knb : FPure Try.prog 16 [Sl 1 1 ([(2 : Int)].map (Value.int .i64))] (Tup [Is (.int .i64 0), Is (.int .i64 1)]) := by
  have h := num_s [2] (by decide)
  rw [numB] at h
  exact h

theorem kg4 : FPure Try.prog 11 [Is (.int .i64 4)] (Sl 1 2 ([(1 : Int), (0 : Int)].map (Value.int .i64))) := by
  have h := digits_s 4 (by decide)
  rw [show (4 : Int).toNat = 4 from rfl, digs4] at h
  exact h

theorem kg3 : FPure Try.prog 11 [Is (.int .i64 3)] (Sl 1 2 ([(0 : Int), (0 : Int)].map (Value.int .i64))) := by
  have h := digits_s 3 (by decide)
  rw [show (3 : Int).toNat = 3 from rfl, digs3] at h
  exact h

theorem kg0 : FPure Try.prog 11 [Is (.int .i64 0)] (Sl 1 0 ([].map (Value.int .i64))) := by
  have h := digits_s 0 (by decide)
  rw [show (0 : Int).toNat = 0 from rfl, digs0] at h
  exact h

theorem ksame (l : List Int) (h : l.length ≤ 1000000000000) : FPure Try.prog 10 [Sl 1 l.length (l.map (Value.int .i64)), Sl 1 l.length (l.map (Value.int .i64))] (Is (.bool true)) := by
  have h := ints_s l l h h
  rw [decide_eq_true rfl] at h
  exact h

set_option maxRecDepth 100000 in
set_option maxHeartbeats 1000000 in
theorem awake_s  :
    FPure Try.prog 9 [] (Is (.bool true)) := by
  refine FPure.of Try.func9 Try.ntmps9 rfl (by kernel_rfl) rfl rfl rfl ?_
  refine W_seq ?_
  refine W_regionE (c := 1) (c' := 2) (by kernel_rfl) rfl ?_
  refine Runs_p rfl (Valid.assignk (A := Is _) rfl rfl) rfl rfl ?_ -- law.go:29 assign
  refine Runs_nil ?_
  refine thenQ_n ?_
  refine W_seq ?_
  refine W_regionE (c := 2) (c' := 9) (by kernel_rfl) rfl ?_
  refine Runs_p rfl (Valid.lit (el := 3) [_, _, _, _, _] rfl rfl (fun _ => by kernel_rfl) rfl (by decide)) rfl rfl ?_ -- law.go:30 buildSlice
  refine Runs_p rfl (Valid.call rfl (kea) ⟨argle_sl (Reads.sl rfl), trivial⟩) rfl rfl ?_ -- law.go:30 call
  refine Runs_p rfl (Valid.movek (A := Tup [Sl 1 _ _, Is _]) rfl rfl) rfl rfl ?_ -- law.go:30 move
  refine Runs_p rfl (Valid.extract _ rfl rfl rfl) rfl rfl ?_ -- law.go:30 extract
  refine Runs_p rfl (Valid.extract _ rfl rfl rfl) rfl rfl ?_ -- law.go:30 extract
  refine Runs_p rfl (Valid.assignk (A := Sl 1 _ _) rfl rfl) rfl rfl ?_ -- law.go:30 assign
  refine Runs_p rfl (Valid.assignk (A := Is _) rfl rfl) rfl rfl ?_ -- law.go:30 assign
  refine Runs_nil ?_
  refine thenQ_n ?_
  refine W_seq ?_
  refine W_regionE (c := 9) (c' := 16) (by kernel_rfl) rfl ?_
  refine Runs_p rfl (Valid.movek (A := Sl 1 _ _) rfl rfl) rfl rfl ?_ -- law.go:31 move
  refine Runs_p rfl (Valid.call rfl (kd5) ⟨argle_sl (Reads.sl rfl), argle rfl, trivial⟩) rfl rfl ?_ -- law.go:31 call
  refine Runs_p rfl (Valid.movek (A := Tup [Sl 1 _ _, Is _]) rfl rfl) rfl rfl ?_ -- law.go:31 move
  refine Runs_p rfl (Valid.extract _ rfl rfl rfl) rfl rfl ?_ -- law.go:31 extract
  refine Runs_p rfl (Valid.extract _ rfl rfl rfl) rfl rfl ?_ -- law.go:31 extract
  refine Runs_p rfl (Valid.assignk (A := Sl 1 _ _) rfl rfl) rfl rfl ?_ -- law.go:31 assign
  refine Runs_p rfl (Valid.assignk (A := Is _) rfl rfl) rfl rfl ?_ -- law.go:31 assign
  refine Runs_nil ?_
  refine thenQ_n ?_
  refine W_seq ?_
  refine W_regionE (c := 16) (c' := 23) (by kernel_rfl) rfl ?_
  refine Runs_p rfl (Valid.movek (A := Sl 1 _ _) rfl rfl) rfl rfl ?_ -- law.go:32 move
  refine Runs_p rfl (Valid.call rfl (kd4) ⟨argle_sl (Reads.sl rfl), argle rfl, trivial⟩) rfl rfl ?_ -- law.go:32 call
  refine Runs_p rfl (Valid.movek (A := Tup [Sl 1 _ _, Is _]) rfl rfl) rfl rfl ?_ -- law.go:32 move
  refine Runs_p rfl (Valid.extract _ rfl rfl rfl) rfl rfl ?_ -- law.go:32 extract
  refine Runs_p rfl (Valid.extract _ rfl rfl rfl) rfl rfl ?_ -- law.go:32 extract
  refine Runs_p rfl (Valid.assignk (A := Sl 1 _ _) rfl rfl) rfl rfl ?_ -- law.go:32 assign
  refine Runs_p rfl (Valid.assignk (A := Is _) rfl rfl) rfl rfl ?_ -- law.go:32 assign
  refine Runs_nil ?_
  refine thenQ_n ?_
  refine W_seq ?_
  refine W_regionE (c := 23) (c' := 30) (by kernel_rfl) rfl ?_
  refine Runs_p rfl (Valid.lit (el := 3) [_] rfl rfl (fun _ => by kernel_rfl) rfl (by decide)) rfl rfl ?_ -- law.go:33 buildSlice
  refine Runs_p rfl (Valid.call rfl (keb) ⟨argle_sl (Reads.sl rfl), trivial⟩) rfl rfl ?_ -- law.go:33 call
  refine Runs_p rfl (Valid.movek (A := Tup [Sl 1 _ _, Is _]) rfl rfl) rfl rfl ?_ -- law.go:33 move
  refine Runs_p rfl (Valid.extract _ rfl rfl rfl) rfl rfl ?_ -- law.go:33 extract
  refine Runs_p rfl (Valid.extract _ rfl rfl rfl) rfl rfl ?_ -- law.go:33 extract
  refine Runs_p rfl (Valid.assignk (A := Sl 1 _ _) rfl rfl) rfl rfl ?_ -- law.go:33 assign
  refine Runs_p rfl (Valid.assignk (A := Is _) rfl rfl) rfl rfl ?_ -- law.go:33 assign
  refine Runs_nil ?_
  refine thenQ_n ?_
  refine W_seq ?_
  refine W_regionE (c := 30) (c' := 37) (by kernel_rfl) rfl ?_
  refine Runs_p rfl (Valid.lit (el := 3) [_, _] rfl rfl (fun _ => by kernel_rfl) rfl (by decide)) rfl rfl ?_ -- law.go:34 buildSlice
  refine Runs_p rfl (Valid.call rfl (kna) ⟨argle_sl (Reads.sl rfl), trivial⟩) rfl rfl ?_ -- law.go:34 call
  refine Runs_p rfl (Valid.movek (A := Tup [Is _, Is _]) rfl rfl) rfl rfl ?_ -- law.go:34 move
  refine Runs_p rfl (Valid.extract _ rfl rfl rfl) rfl rfl ?_ -- law.go:34 extract
  refine Runs_p rfl (Valid.extract _ rfl rfl rfl) rfl rfl ?_ -- law.go:34 extract
  refine Runs_p rfl (Valid.assignk (A := Is _) rfl rfl) rfl rfl ?_ -- law.go:34 assign
  refine Runs_p rfl (Valid.assignk (A := Is _) rfl rfl) rfl rfl ?_ -- law.go:34 assign
  refine Runs_nil ?_
  refine thenQ_n ?_
  refine W_seq ?_
  refine W_regionE (c := 37) (c' := 44) (by kernel_rfl) rfl ?_
  refine Runs_p rfl (Valid.lit (el := 3) [_] rfl rfl (fun _ => by kernel_rfl) rfl (by decide)) rfl rfl ?_ -- law.go:35 buildSlice
  refine Runs_p rfl (Valid.call rfl (knb) ⟨argle_sl (Reads.sl rfl), trivial⟩) rfl rfl ?_ -- law.go:35 call
  refine Runs_p rfl (Valid.movek (A := Tup [Is _, Is _]) rfl rfl) rfl rfl ?_ -- law.go:35 move
  refine Runs_p rfl (Valid.extract _ rfl rfl rfl) rfl rfl ?_ -- law.go:35 extract
  refine Runs_p rfl (Valid.extract _ rfl rfl rfl) rfl rfl ?_ -- law.go:35 extract
  refine Runs_p rfl (Valid.assignk (A := Is _) rfl rfl) rfl rfl ?_ -- law.go:35 assign
  refine Runs_p rfl (Valid.assignk (A := Is _) rfl rfl) rfl rfl ?_ -- law.go:35 assign
  refine Runs_nil ?_
  refine thenQ_n ?_
  refine W_seq ?_
  refine W_regionE (c := 44) (c' := 96) (by kernel_rfl) rfl ?_
  refine Runs_p rfl (Valid.call rfl (kg4) ⟨argle rfl, trivial⟩) rfl rfl ?_ -- law.go:36 call
  refine Runs_p rfl (Valid.lit (el := 3) [_, _] rfl rfl (fun _ => by kernel_rfl) rfl (by decide)) rfl rfl ?_ -- law.go:36 buildSlice
  refine Runs_p rfl (Valid.call rfl (ksame [(1 : Int), (0 : Int)] (by decide)) ⟨argle_sl (Reads.sl rfl), argle_sl (Reads.sl rfl), trivial⟩) rfl rfl ?_ -- law.go:36 call
  refine Runs_p rfl (Valid.movek (A := Is _) rfl rfl) rfl rfl ?_ -- law.go:36 move
  refine Runs_yesp rfl rfl (Grd.is rfl) (by decide) (Valid.call rfl (kg3) ⟨argle rfl, trivial⟩) rfl rfl ?_ -- law.go:36 call
  refine Runs_yesp rfl rfl (Grd.is rfl) (by decide) (Valid.lit (el := 3) [_, _] rfl rfl (fun _ => by kernel_rfl) rfl (by decide)) rfl rfl ?_ -- law.go:36 buildSlice
  refine Runs_yesp rfl rfl (Grd.is rfl) (by decide) (Valid.call rfl (ksame [(0 : Int), (0 : Int)] (by decide)) ⟨argle_sl (Reads.sl rfl), argle_sl (Reads.sl rfl), trivial⟩) rfl rfl ?_ -- law.go:36 call
  refine Runs_p rfl (Valid.pickt (A := Is _) rfl rfl rfl) rfl rfl ?_ -- law.go:36 pick
  refine Runs_p rfl (Valid.movek (A := Is _) rfl rfl) rfl rfl ?_ -- law.go:36 move
  refine Runs_yesp rfl rfl (Grd.is rfl) (by decide) (Valid.call rfl (kg0) ⟨argle rfl, trivial⟩) rfl rfl ?_ -- law.go:36 call
  refine Runs_yesp rfl rfl (Grd.is rfl) (by decide) (Valid.len rfl Try.underlying22 (Reads.sl rfl)) rfl rfl ?_ -- law.go:36 call
  refine Runs_yesp rfl rfl (Grd.is rfl) (by decide) (Valid.eql rfl rfl rfl) rfl rfl ?_ -- law.go:36 binOp
  refine Runs_p rfl (Valid.pickt (A := Is _) rfl rfl rfl) rfl rfl ?_ -- law.go:36 pick
  refine Runs_p rfl (Valid.movek (A := Is _) rfl rfl) rfl rfl ?_ -- law.go:36 move
  refine Runs_yesp rfl rfl (Grd.is rfl) (by decide) (Valid.movek (A := Is _) rfl rfl) rfl rfl ?_ -- law.go:36 move
  refine Runs_yesp rfl rfl (Grd.is rfl) (by decide) (Valid.eql rfl rfl rfl) rfl rfl ?_ -- law.go:36 binOp
  refine Runs_p rfl (Valid.pickt (A := Is _) rfl rfl rfl) rfl rfl ?_ -- law.go:36 pick
  refine Runs_p rfl (Valid.movek (A := Is _) rfl rfl) rfl rfl ?_ -- law.go:36 move
  refine Runs_yesp rfl rfl (Grd.is rfl) (by decide) (Valid.movek (A := Sl 1 _ _) rfl rfl) rfl rfl ?_ -- law.go:36 move
  refine Runs_yesp rfl rfl (Grd.is rfl) (by decide) (Valid.lit (el := 3) [_, _, _, _] rfl rfl (fun _ => by kernel_rfl) rfl (by decide)) rfl rfl ?_ -- law.go:36 buildSlice
  refine Runs_yesp rfl rfl (Grd.is rfl) (by decide) (Valid.call rfl (ksame [(0 : Int), (0 : Int), (6 : Int), (0 : Int)] (by decide)) ⟨argle_sl (Reads.sl rfl), argle_sl (Reads.sl rfl), trivial⟩) rfl rfl ?_ -- law.go:36 call
  refine Runs_p rfl (Valid.pickt (A := Is _) rfl rfl rfl) rfl rfl ?_ -- law.go:36 pick
  refine Runs_p rfl (Valid.movek (A := Is _) rfl rfl) rfl rfl ?_ -- law.go:36 move
  refine Runs_yesp rfl rfl (Grd.is rfl) (by decide) (Valid.movek (A := Is _) rfl rfl) rfl rfl ?_ -- law.go:36 move
  refine Runs_yesp rfl rfl (Grd.is rfl) (by decide) (Valid.eql rfl rfl rfl) rfl rfl ?_ -- law.go:36 binOp
  refine Runs_p rfl (Valid.pickt (A := Is _) rfl rfl rfl) rfl rfl ?_ -- law.go:36 pick
  refine Runs_p rfl (Valid.movek (A := Is _) rfl rfl) rfl rfl ?_ -- law.go:36 move
  refine Runs_yesp rfl rfl (Grd.is rfl) (by decide) (Valid.movek (A := Sl 1 _ _) rfl rfl) rfl rfl ?_ -- law.go:36 move
  refine Runs_yesp rfl rfl (Grd.is rfl) (by decide) (Valid.lit (el := 3) [_, _, _, _, _] rfl rfl (fun _ => by kernel_rfl) rfl (by decide)) rfl rfl ?_ -- law.go:36 buildSlice
  refine Runs_yesp rfl rfl (Grd.is rfl) (by decide) (Valid.call rfl (ksame [(0 : Int), (0 : Int), (0 : Int), (5 : Int), (0 : Int)] (by decide)) ⟨argle_sl (Reads.sl rfl), argle_sl (Reads.sl rfl), trivial⟩) rfl rfl ?_ -- law.go:36 call
  refine Runs_p rfl (Valid.pickt (A := Is _) rfl rfl rfl) rfl rfl ?_ -- law.go:36 pick
  refine Runs_p rfl (Valid.movek (A := Is _) rfl rfl) rfl rfl ?_ -- law.go:36 move
  refine Runs_yesp rfl rfl (Grd.is rfl) (by decide) (Valid.movek (A := Is _) rfl rfl) rfl rfl ?_ -- law.go:36 move
  refine Runs_yesp rfl rfl (Grd.is rfl) (by decide) (Valid.eql rfl rfl rfl) rfl rfl ?_ -- law.go:36 binOp
  refine Runs_p rfl (Valid.pickt (A := Is _) rfl rfl rfl) rfl rfl ?_ -- law.go:36 pick
  refine Runs_p rfl (Valid.movek (A := Is _) rfl rfl) rfl rfl ?_ -- law.go:36 move
  refine Runs_yesp rfl rfl (Grd.is rfl) (by decide) (Valid.movek (A := Is _) rfl rfl) rfl rfl ?_ -- law.go:36 move
  refine Runs_yesp rfl rfl (Grd.is rfl) (by decide) (Valid.eql rfl rfl rfl) rfl rfl ?_ -- law.go:36 binOp
  refine Runs_p rfl (Valid.pickt (A := Is _) rfl rfl rfl) rfl rfl ?_ -- law.go:36 pick
  refine Runs_p rfl (Valid.movek (A := Is _) rfl rfl) rfl rfl ?_ -- law.go:36 move
  refine Runs_yesp rfl rfl (Grd.is rfl) (by decide) (Valid.movek (A := Is _) rfl rfl) rfl rfl ?_ -- law.go:36 move
  refine Runs_yesp rfl rfl (Grd.is rfl) (by decide) (Valid.eql rfl rfl rfl) rfl rfl ?_ -- law.go:36 binOp
  refine Runs_p rfl (Valid.pickt (A := Is _) rfl rfl rfl) rfl rfl ?_ -- law.go:36 pick
  refine Runs_p rfl (Valid.movek (A := Is _) rfl rfl) rfl rfl ?_ -- law.go:36 move
  refine Runs_yesp rfl rfl (Grd.is rfl) (by decide) (Valid.movek (A := Is _) rfl rfl) rfl rfl ?_ -- law.go:36 move
  refine Runs_yesp rfl rfl (Grd.is rfl) (by decide) (Valid.eql rfl rfl rfl) rfl rfl ?_ -- law.go:36 binOp
  refine Runs_p rfl (Valid.pickt (A := Is _) rfl rfl rfl) rfl rfl ?_ -- law.go:36 pick
  refine Runs_p rfl (Valid.movek (A := Is _) rfl rfl) rfl rfl ?_ -- law.go:36 move
  refine Runs_yesp rfl rfl (Grd.is rfl) (by decide) (Valid.movek (A := Is _) rfl rfl) rfl rfl ?_ -- law.go:36 move
  refine Runs_yesp rfl rfl (Grd.is rfl) (by decide) (Valid.eql rfl rfl rfl) rfl rfl ?_ -- law.go:36 binOp
  refine Runs_p rfl (Valid.pickt (A := Is _) rfl rfl rfl) rfl rfl ?_ -- law.go:36 pick
  refine Runs_p rfl (Valid.assignk (A := Is _) rfl rfl) rfl rfl ?_ -- law.go:36 assign
  refine Runs_nil ?_
  refine thenQ_n ?_
  refine W_ret ?_
  refine finQ_r ?_
  refine ResOk.one rfl (RVal.is rfl rfl (rfl))
end Zg
end Go.Proofs.Ytimpmdcebapfiaa
