/-
  WALKS of stage 14: Back.
-/
import Derived.Test.YtfelmdagolnpeaaRows
import Derived.Test.YtfelmdagolnpeaaVm
import Derived.Test.YtfelmdagolnpeaaVa
namespace Go.Proofs.Ytfelmdagolnpeaa
open Go.RowKit
namespace Vb
open Ab Vm Va
theorem ag3 (w : World) : (isAgg 3).run Try.prog w = .ok false w := by kernel_rfl
theorem sz3 (w : World) : (sizeOf 3).run Try.prog w = .ok 1 w := by kernel_rfl
theorem sz5 (w : World) : (sizeOf 5).run Try.prog w = .ok 1 w := by kernel_rfl
theorem tzv5 : (Try.prog.info? 5).map (fun i => (i.zero, i.size, i.bytes)) = some (some ((B) 0), 1, 1) := by kernel_rfl
theorem fill_vals (s : ByteArray) : ∀ k, k ≤ s.size → ∀ j, 0 ≤ (fillP s k).1.getD j 0 ∧ (0 < s.size → (fillP s k).1.getD j 0 < s.size)
  | 0, _, j => by
    rw [fillP]
    show 0 ≤ (List.replicate s.size (0 : Int)).getD j 0 ∧ _
    rw [show (List.replicate s.size (0 : Int), nxtL (cntL s s.size) 256).1 = List.replicate s.size (0 : Int) from rfl, rep_zero]; omega
  | k + 1, hk, j => by
    have ih := fill_vals s k (by omega) j
    rw [fillP]
    show 0 ≤ (List.set _ _ _).getD j 0 ∧ (0 < s.size → (List.set _ _ _).getD j 0 < _)
    rw [getD_set]
    split <;> omega
theorem vec_vals (s : ByteArray) (j : Nat) : 0 ≤ (vecL s).getD j 0 ∧ (0 < s.size → (vecL s).getD j 0 < s.size) := fill_vals s s.size (Nat.le_refl _) j
def backA (s : ByteArray) (o : Int) : Nat → Int
  | 0 => o
  | k + 1 => (vecL s).getD (backA s o k).toNat 0
  termination_by k => k
def outL (s : ByteArray) (o : Int) : Nat → List UInt8
  | 0 => List.replicate s.size 0
  | k + 1 => (outL s o k).set k (bat s (backA s o (k + 1)))
  termination_by k => k
theorem out_len (s : ByteArray) (o : Int) : ∀ k, (outL s o k).length = s.size
  | 0 => by rw [outL, List.length_replicate]
  | k + 1 => by rw [outL, List.length_set, out_len s o k]
theorem back_0 (s : ByteArray) (o : Int) : backA s o 0 = o := by rw [backA]
theorem back_1 (s : ByteArray) (o : Int) (k : Nat) : (vecL s).getD (backA s o k).toNat 0 = backA s o (k + 1) := by rw [backA]
theorem out_0 (s : ByteArray) (o : Int) : List.replicate (s.size : Int).toNat (0 : UInt8) = outL s o 0 := by rw [outL]; rfl
theorem out_1 (s : ByteArray) (o : Int) (k : Nat) : (outL s o k).set (k : Int).toNat (bat s ((vecL s).getD (backA s o k).toNat 0)) = outL s o (k + 1) := by rw [outL, ← back_1]; rfl
theorem back_in (s : ByteArray) (o : Int) (h : 0 ≤ o) (h2 : o < s.size) : ∀ k, 0 ≤ backA s o k ∧ backA s o k < s.size
  | 0 => by rw [back_0]; exact ⟨h, h2⟩
  | k + 1 => by
    rw [← back_1]
    have := vec_vals s (backA s o k).toNat
    omega
def backR (s : ByteArray) (o : Int) : ByteArray × Int := if o < 0 ∨ max 1 (s.size : Int) ≤ o then (ByteArray.empty, 1) else (⟨(outL s o s.size).toArray⟩, 0)
theorem vec_len (s : ByteArray) : (vecL s).length = s.size := fill_len1 s s.size

set_option maxRecDepth 100000 in
set_option maxHeartbeats 1000000 in
theorem back_s (s : ByteArray) (o : Int) (hs : s.size ≤ 1000000) (wo : -9223372036854775808 ≤ o ∧ o ≤ 9223372036854775807) :
    FPure Try.prog 17 [Is (.string s), Is (.int .i64 o)] (Tup [Is (.string (backR s o).1), Is (.int .i64 (backR s o).2)]) := by
  refine FPure.of Try.func17 Try.ntmps17 rfl (by kernel_rfl) rfl rfl rfl ?_
  refine W_seq ?_
  refine W_regionE (c := 1) (c' := 3) (by kernel_rfl) rfl ?_
  refine Runs_p rfl (Valid.assignk (A := Is _) rfl rfl) rfl rfl ?_ -- unturn.go:26 assign
  refine Runs_p rfl (Valid.assignk (A := Is _) rfl rfl) rfl rfl ?_ -- unturn.go:26 assign
  refine Runs_nil ?_
  refine thenQ_n ?_
  refine W_seq ?_
  refine W_seq ?_
  refine W_regionE (c := 3) (c' := 12) (by kernel_rfl) rfl ?_
  refine Runs_p rfl (Valid.movek (A := Is _) rfl rfl) rfl rfl ?_ -- unturn.go:27 move
  refine Runs_p rfl (Valid.lss rfl rfl rfl) rfl rfl ?_ -- unturn.go:27 binOp
  refine Runs_p rfl (Valid.movek (A := Is _) rfl rfl) rfl rfl ?_ -- unturn.go:27 move
  refine Runs_cnd rfl rfl (Grd.is rfl) [] (fun hg => trivial) (fun hg => Valid.movek (A := Is _) rfl rfl) (by rfl) rfl ?_
  refine Runs_cnd rfl rfl (Grd.is rfl) [] (fun hg => trivial) (fun hg => Valid.movek (A := Is _) rfl rfl) (by rfl) rfl ?_
  refine Runs_cnd rfl rfl (Grd.is rfl) [(14, _)] (fun hg => ⟨cnd_at rfl (by first | exact hg | exact hg.1 | exact hg.1.1 | exact hg.1.1.1), trivial⟩) (fun hg => Valid.slen rfl Try.underlying9 rfl) (by rfl) rfl ?_
  refine Runs_cnd rfl rfl (Grd.is rfl) [(15, _)] (fun hg => ⟨cnd_at rfl (by first | exact hg | exact hg.1 | exact hg.1.1 | exact hg.1.1.1), trivial⟩) (fun hg => Valid.max rfl rfl rfl) (by rfl) rfl ?_
  refine Runs_cnd rfl rfl (Grd.is rfl) [(13, _), (16, _)] (fun hg => ⟨cnd_at rfl (by first | exact hg | exact hg.1 | exact hg.1.1 | exact hg.1.1.1), cnd_at rfl (by first | exact hg | exact hg.1 | exact hg.1.1 | exact hg.1.1.1), trivial⟩) (fun hg => Valid.geq rfl rfl rfl) (by rfl) rfl ?_
  refine Runs_p rfl (Valid.pickor rfl rfl rfl rfl (fun h => by first | exact h | exact ⟨hg, h⟩)) rfl rfl ?_ -- unturn.go:27 pick
  refine Runs_nil ?_
  refine thenQ_n ?_
  refine W_cond _ rfl (fun hb1 => ?_) (fun hb1 => ?_)
  · try simp only [decide_eq_true_eq, Bool.or_eq_true] at hb1
    all_goals (
      refine W_seq ?_
      refine W_regionE (c := 12) (c' := 14) (by kernel_rfl) rfl ?_
      refine Runs_p rfl (Valid.assignk (A := Is _) rfl rfl) rfl rfl ?_ -- unturn.go:28 assign
      refine Runs_p rfl (Valid.assignk (A := Is _) rfl rfl) rfl rfl ?_ -- unturn.go:28 assign
      refine Runs_nil ?_
      refine thenQ_n ?_
      refine W_ret ?_
      refine thenQ_r ?_
      refine finQ_r ?_
      refine ResOk.two rfl (RVal.is rfl rfl (by first | (rw [backR, if_pos (by omega)]; done) | (rw [backR, if_pos (by omega)]; rfl) | (rw [backR, if_neg (by omega), show s.size = k by omega]; done) | (rw [backR, if_neg (by omega)]))) (RVal.is rfl rfl (by first | (rw [backR, if_pos (by omega)]; done) | (rw [backR, if_pos (by omega)]; rfl) | (rw [backR, if_neg (by omega), show s.size = k by omega]; done) | (rw [backR, if_neg (by omega)])))
      done)
  · try simp only [decide_eq_false_iff_not, Bool.or_eq_false_iff] at hb1
    all_goals (
      refine W_skip ?_
      refine thenQ_n ?_
      refine W_seq ?_
      refine W_regionE (c := 12) (c' := 15) (by kernel_rfl) rfl ?_
      refine Runs_p rfl (Valid.movek (A := Is _) rfl rfl) rfl rfl ?_ -- unturn.go:30 move
      refine Runs_p rfl (Valid.call rfl (vec_s _ (by omega)) ⟨argle rfl, trivial⟩) rfl rfl ?_ -- unturn.go:30 call
      refine Runs_p rfl (Valid.assignk (A := Sl 1 _ _) rfl rfl) rfl rfl ?_ -- unturn.go:30 assign
      refine Runs_nil ?_
      refine thenQ_n ?_
      refine W_seq ?_
      refine W_regionE (c := 15) (c' := 19) (by kernel_rfl) rfl ?_
      refine Runs_p rfl (Valid.movek (A := Is _) rfl rfl) rfl rfl ?_ -- unturn.go:31 move
      refine Runs_p rfl (Valid.slen rfl Try.underlying9 rfl) rfl rfl ?_ -- unturn.go:31 call
      refine Runs_w rfl (Valid.makevar (B) 0 rfl Try.underlying39 tzv5 rfl rfl rfl (by first | omega | (simp only [Int.toNat_natCast, toNat_add, toNat_add1, List.length_append, List.length_cons, List.length_nil, List.length_replicate]; omega)) (by first | omega | (simp only [Int.toNat_natCast, toNat_add, toNat_add1, List.length_append, List.length_cons, List.length_nil, List.length_replicate]; omega)) (by first | omega | (simp only [Int.toNat_natCast, toNat_add, toNat_add1, List.length_append, List.length_cons, List.length_nil, List.length_replicate]; omega))) rfl rfl ?_ -- unturn.go:31 makeSlice
      refine Runs_p rfl (Valid.assignk (A := Mrow 136 _) rfl rfl) rfl rfl ?_ -- unturn.go:31 assign
      refine Runs_nil ?_
      refine thenQ_n ?_
      refine W_seq ?_
      refine W_regionE (c := 19) (c' := 21) (by kernel_rfl) rfl ?_
      refine Runs_p rfl (Valid.movek (A := Is _) rfl rfl) rfl rfl ?_ -- unturn.go:32 move
      refine Runs_p rfl (Valid.assignk (A := Is _) rfl rfl) rfl rfl ?_ -- unturn.go:32 assign
      refine Runs_nil ?_
      refine thenQ_n ?_
      refine W_seq ?_
      refine W_seq ?_
      refine W_regionE (c := 21) (c' := 24) (by kernel_rfl) rfl ?_
      refine Runs_p rfl (Valid.movek (A := Mrow 136 _) rfl rfl) rfl rfl ?_ -- unturn.go:33 move
      refine Runs_p rfl (Valid.lenM rfl Try.underlying39 rfl) rfl rfl ?_ -- unturn.go:33 call
      refine Runs_p rfl (Valid.movek (A := Is _) rfl rfl) rfl rfl ?_ -- unturn.go:33 move
      refine Runs_nil ?_
      refine thenQ_n ?_
      refine W_block ?_
      refine W_loopx (G := Nat) (fun (k : Nat) => k ≤ s.size) [(0, Is _), (6, Sl 1 s.size ((vecL s).map (Value.int .i64))), (7, Mrow 136 _), (26, Is _)] (fun (k : Nat) => [(27, Is (.int .i64 (k : Int))), (8, Is (.int .i64 (backA s o k)))]) [] (fun (k : Nat) => [(136, .var 5 (Arr (B) (outL s o k)))]) 24 (fun (k : Nat) => s.size - k) (0) [] (by first | trivial | omega | (simp; omega)) ⟨⟨(leq_is rfl rfl (by first | rfl | exact out_0 _ _ | exact congrArg (Value.int .i64) (back_0 _ _).symm)), (leq_is rfl rfl (by first | rfl | exact out_0 _ _ | exact congrArg (Value.int .i64) (back_0 _ _).symm)), trivial⟩, ⟨(leq_is rfl rfl rfl), (leq_sl (Reads.sl rfl) rfl rfl rfl), (leq_mrow rfl rfl rfl rfl), (leq_is rfl rfl rfl), trivial⟩, ⟨hp_arr rfl (by first | rfl | exact out_0 _ _ | exact congrArg (Value.int .i64) (back_0 _ _).symm), trivial⟩, trivial, rfl, ⟨supg rfl, supg rfl, trivial⟩, ⟨supg rfl, supg rfl, supg rfl, supg rfl, trivial⟩, ⟨suph_arr rfl, trivial⟩, trivial, rfl, rfl⟩ ?_
      intro k hI1
      have hol := out_len s o k
      have hvl := vec_len s
      have hbi : k < s.size → 0 ≤ backA s o k ∧ backA s o k < s.size := fun h => back_in s o (by omega) (by omega) k
      have hbv := vec_vals s (backA s o k).toNat
      refine W_seq ?_
      refine W_regionE (c := 24) (c' := 25) (by kernel_rfl) rfl ?_
      refine Runs_p rfl (Valid.lss rfl rfl rfl) rfl rfl ?_ -- unturn.go:33 binOp
      refine Runs_nil ?_
      refine thenQ_n ?_
      refine W_seq ?_
      refine W_cond _ rfl (fun hb2 => ?_) (fun hb2 => ?_)
      · try simp only [Int.toNat_natCast, decide_eq_true_eq] at hb2
        all_goals (
          refine W_skip ?_
          refine thenQ_n ?_
          refine W_seq ?_
          refine W_block ?_
          refine W_seq ?_
          refine W_regionE (c := 25) (c' := 27) (by kernel_rfl) rfl ?_
          refine Runs_p rfl (Valid.movek (A := Is _) rfl rfl) rfl rfl ?_ -- unturn.go:33 move
          refine Runs_p rfl (Valid.assignk (A := Is _) rfl rfl) rfl rfl ?_ -- unturn.go:33 assign
          refine Runs_nil ?_
          refine thenQ_n ?_
          refine W_seq ?_
          refine W_regionE (c := 27) (c' := 32) (by kernel_rfl) rfl ?_
          refine Runs_p rfl (Valid.movek (A := Sl 1 _ _) rfl rfl) rfl rfl ?_ -- unturn.go:34 move
          refine Runs_p rfl (Valid.movek (A := Is _) rfl rfl) rfl rfl ?_ -- unturn.go:34 move
          refine Runs_p rfl (Valid.eltaddr1 0 rfl Try.underlying22 sz3 (Reads.sl rfl) rfl (by first | omega | (simp only [Int.toNat_natCast, toNat_add, toNat_add1, List.length_append, List.length_cons, List.length_nil, List.length_replicate]; omega)) (vec_len s).symm) rfl rfl ?_ -- unturn.go:34 indexAddr
          refine Runs_p rfl (Valid.loadelt rfl ag3 rfl) rfl rfl ?_ -- unturn.go:34 load
          refine Runs_p rfl (Valid.assignk (A := Is _) rfl rfl) rfl rfl ?_ -- unturn.go:34 assign
          refine Runs_nil ?_
          refine thenQ_n ?_
          refine W_regionE (c := 32) (c' := 39) (by kernel_rfl) rfl ?_
          refine Runs_p rfl (Valid.movek (A := Mrow 136 _) rfl rfl) rfl rfl ?_ -- unturn.go:35 move
          refine Runs_p rfl (Valid.movek (A := Is _) rfl rfl) rfl rfl ?_ -- unturn.go:35 move
          refine Runs_p rfl (Valid.movek (A := Is _) rfl rfl) rfl rfl ?_ -- unturn.go:35 move
          refine Runs_p rfl (Valid.movek (A := Is _) rfl rfl) rfl rfl ?_ -- unturn.go:35 move
          refine Runs_p rfl (Valid.sindex rfl Try.underlying9 rfl rfl (by first | omega | (simp only [Int.toNat_natCast, toNat_add, toNat_add1, List.length_append, List.length_cons, List.length_nil, List.length_replicate]; omega))) rfl rfl ?_ -- unturn.go:35 index
          refine Runs_p rfl (Valid.idxM1 rfl Try.underlying39 sz5 rfl rfl (by first | omega | (simp only [Int.toNat_natCast, toNat_add, toNat_add1, List.length_append, List.length_cons, List.length_nil, List.length_replicate]; omega))) rfl rfl ?_ -- unturn.go:35 indexAddr
          refine Runs_op rfl (Valid.storearr _ rfl sz5 rfl rfl (by first | omega | (simp only [Int.toNat_natCast, toNat_add, toNat_add1, List.length_append, List.length_cons, List.length_nil, List.length_replicate]; omega)) rfl (One.is rfl rfl rfl)) rfl ?_ -- unturn.go:35 store
          refine Runs_nil ?_
          refine blockQ_n ?_
          refine thenQ_n ?_
          refine W_regionE (c := 39) (c' := 41) (by kernel_rfl) rfl ?_
          refine Runs_p rfl (Valid.add rfl rfl rfl (room64 (by first | omega | (simp only [Int.toNat_natCast, toNat_add, toNat_add1, List.length_append, List.length_cons, List.length_nil, List.length_replicate]; omega)) (by first | omega | (simp only [Int.toNat_natCast, toNat_add, toNat_add1, List.length_append, List.length_cons, List.length_nil, List.length_replicate]; omega)))) rfl rfl ?_ -- unturn.go:33 binOp
          refine Runs_p rfl (Valid.movek (A := Is _) rfl rfl) rfl rfl ?_ -- unturn.go:33 move
          refine Runs_nil ?_
          refine LoopQ.next (k + 1) [] (by first | trivial | omega | (simp; omega)) (by first | omega | (dsimp only; omega)) ⟨⟨(leq_is rfl rfl (by first | rfl | exact out_1 _ _ _ | exact congrArg (Value.int .i64) (back_1 _ _ _))), (leq_is rfl rfl (by first | rfl | exact out_1 _ _ _ | exact congrArg (Value.int .i64) (back_1 _ _ _))), trivial⟩, ⟨(leq_is rfl rfl rfl), (leq_sl (Reads.sl rfl) rfl rfl rfl), (leq_mrow rfl rfl rfl rfl), (leq_is rfl rfl rfl), trivial⟩, ⟨hp_arr rfl (by first | rfl | exact out_1 _ _ _ | exact congrArg (Value.int .i64) (back_1 _ _ _)), trivial⟩, trivial, rfl, ⟨supg rfl, supg rfl, trivial⟩, ⟨supg rfl, supg rfl, supg rfl, supg rfl, trivial⟩, ⟨suph_arr rfl, trivial⟩, trivial, rfl, rfl⟩
          done)
      · try simp only [Int.toNat_natCast, decide_eq_false_iff_not] at hb2
        all_goals (
          refine W_exit ?_
          refine thenQ_e ?_
          refine loopQ_e ?_
          refine blockQ_x ?_
          refine thenQ_n ?_
          refine W_seq ?_
          refine W.ent ?_ (Ent.freeze 7 136 _ rfl rfl (by rw [List.length_map, out_len]; rfl) (by simp only [maxLen]; omega))
          refine W_regionE (c := 25) (c' := 29) (by kernel_rfl) rfl ?_
          refine Runs_p rfl (Valid.movek (A := Sl 1 _ _) rfl rfl) rfl rfl ?_ -- unturn.go:37 move
          refine Runs_p rfl (Valid.tostring rfl Try.underlying39 Try.underlying5 Try.underlying9 (Reads.sl rfl)) rfl rfl ?_ -- unturn.go:37 convert
          refine Runs_p rfl (Valid.assignk (A := Is _) rfl rfl) rfl rfl ?_ -- unturn.go:37 assign
          refine Runs_p rfl (Valid.assignk (A := Is _) rfl rfl) rfl rfl ?_ -- unturn.go:37 assign
          refine Runs_nil ?_
          refine thenQ_n ?_
          refine W_ret ?_
          refine finQ_r ?_
          refine ResOk.two rfl (RVal.is rfl rfl (by first | (rw [backR, if_pos (by omega)]; done) | (rw [backR, if_pos (by omega)]; rfl) | (rw [backR, if_neg (by omega), show s.size = k by omega]; done) | (rw [backR, if_neg (by omega)]))) (RVal.is rfl rfl (by first | (rw [backR, if_pos (by omega)]; done) | (rw [backR, if_pos (by omega)]; rfl) | (rw [backR, if_neg (by omega), show s.size = k by omega]; done) | (rw [backR, if_neg (by omega)])))
          done)
      done)
end Vb
end Go.Proofs.Ytfelmdagolnpeaa
