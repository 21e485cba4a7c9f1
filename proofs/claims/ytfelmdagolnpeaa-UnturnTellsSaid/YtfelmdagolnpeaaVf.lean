/-
  WALKS of stage 14: Cycles.
-/
import Derived.Test.YtfelmdagolnpeaaRows
import Derived.Test.YtfelmdagolnpeaaVm
import Derived.Test.YtfelmdagolnpeaaVa
import Derived.Test.YtfelmdagolnpeaaVd
import Derived.Test.YtfelmdagolnpeaaVn
import Derived.Test.YtfelmdagolnpeaaVb
import Derived.Test.YtfelmdagolnpeaaVe
import Derived.Test.YtfelmdagolnpeaaVo
import Derived.Test.YtfelmdagolnpeaaVp
namespace Go.Proofs.Ytfelmdagolnpeaa
open Go.RowKit
namespace Vf
open Ab Vm Va Vd Vn Vb Ve Vo Vp
theorem ag3 (w : World) : (isAgg 3).run Try.prog w = .ok false w := by kernel_rfl
theorem ag4 (w : World) : (isAgg 4).run Try.prog w = .ok false w := by kernel_rfl
theorem sz3 (w : World) : (sizeOf 3).run Try.prog w = .ok 1 w := by kernel_rfl
theorem sz4 (w : World) : (sizeOf 4).run Try.prog w = .ok 1 w := by kernel_rfl
theorem tzv4 : (Try.prog.info? 4).map (fun i => (i.zero, i.size, i.bytes)) = some (some ((Value.bool) false), 1, 1) := by kernel_rfl
theorem nx_i (s : ByteArray) (x : Nat) (hx : x < s.size) : (vecL s).getD (x : Int).toNat 0 = ((nx (vecL s) x : Nat) : Int) := by
  have := vec_in s x hx
  unfold nx; rw [Int.toNat_natCast]; omega
theorem rep_f (s : ByteArray) : List.replicate (s.size : Int).toNat false = List.replicate (vecL s).length false := by rw [vec_len, Int.toNat_natCast]
theorem fals_le (b : List Bool) : fals b ≤ b.length := List.count_le_length

set_option maxRecDepth 100000 in
set_option maxHeartbeats 1000000 in
theorem cyc_s (s : ByteArray) (hs : s.size ≤ 1000000) :
    FPure Try.prog 14 [Is (.string s)] (Is (.int .i64 (cycV s))) := by
  refine FPure.of Try.func14 Try.ntmps14 rfl (by kernel_rfl) rfl rfl rfl ?_
  refine W_seq ?_
  refine W_regionE (c := 1) (c' := 2) (by kernel_rfl) rfl ?_
  refine Runs_p rfl (Valid.assignk (A := Is _) rfl rfl) rfl rfl ?_ -- unturn.go:41 assign
  refine Runs_nil ?_
  refine thenQ_n ?_
  refine W_scopeB 0 1 rfl rfl (fun (g_ : Nat × List Bool × Int) => match g_ with | ⟨f, b, r⟩ => Beg (vecL s) b f r) [(0, Is (.string s)), (3, Sl 1 s.size ((vecL s).map (Value.int .i64))), (4, Mrow 56 s.size)] (fun (g_ : Nat × List Bool × Int) => match g_ with | ⟨f, b, r⟩ => [(6, Is (.int .i64 (f : Int))), (5, Is (.int .i64 r))]) [] (fun (g_ : Nat × List Bool × Int) => match g_ with | ⟨f, b, r⟩ => [(56, .var 4 (Arr (Value.bool) (b)))]) 12 (fun (g_ : Nat × List Bool × Int) => match g_ with | ⟨f, b, r⟩ => 2 * ((s.size - f) + fals b) + 1) (fun (g_ : Nat × List Bool × Int × Nat) => match g_ with | ⟨f, b, r, at_⟩ => On (vecL s) b f at_ r) [(0, Is (.string s)), (3, Sl 1 s.size ((vecL s).map (Value.int .i64))), (4, Mrow 56 s.size)] (fun (g_ : Nat × List Bool × Int × Nat) => match g_ with | ⟨f, b, r, at_⟩ => [(6, Is (.int .i64 (f : Int))), (5, Is (.int .i64 r)), (7, Is (.int .i64 (at_ : Int)))]) [] (fun (g_ : Nat × List Bool × Int × Nat) => match g_ with | ⟨f, b, r, at_⟩ => [(56, .var 4 (Arr (Value.bool) (b)))]) 25 (fun (g_ : Nat × List Bool × Int × Nat) => match g_ with | ⟨f, b, r, at_⟩ => 2 * ((s.size - f) + fals b)) ?_ ?_ ?_
  · intro hpass0
    refine W_seq ?_
    refine W_regionE (c := 2) (c' := 5) (by kernel_rfl) rfl ?_
    refine Runs_p rfl (Valid.movek (A := Is _) rfl rfl) rfl rfl ?_ -- unturn.go:42 move
    refine Runs_p rfl (Valid.call rfl (vec_s _ (by omega)) ⟨argle rfl, trivial⟩) rfl rfl ?_ -- unturn.go:42 call
    refine Runs_p rfl (Valid.assignk (A := Sl 1 _ _) rfl rfl) rfl rfl ?_ -- unturn.go:42 assign
    refine Runs_nil ?_
    refine thenQ_n ?_
    refine W_seq ?_
    refine W_regionE (c := 5) (c' := 9) (by kernel_rfl) rfl ?_
    refine Runs_p rfl (Valid.movek (A := Is _) rfl rfl) rfl rfl ?_ -- unturn.go:43 move
    refine Runs_p rfl (Valid.slen rfl Try.underlying9 rfl) rfl rfl ?_ -- unturn.go:43 call
    refine Runs_w rfl (Valid.makevar (Value.bool) false rfl Try.underlying37 tzv4 rfl rfl rfl (by first | omega | (simp only [Int.toNat_natCast, toNat_add, toNat_add1, List.length_append, List.length_cons, List.length_nil, List.length_replicate]; omega)) (by first | omega | (simp only [Int.toNat_natCast, toNat_add, toNat_add1, List.length_append, List.length_cons, List.length_nil, List.length_replicate]; omega)) (by first | omega | (simp only [Int.toNat_natCast, toNat_add, toNat_add1, List.length_append, List.length_cons, List.length_nil, List.length_replicate]; omega))) rfl rfl ?_ -- unturn.go:43 makeSlice
    refine Runs_p rfl (Valid.assignk (A := Mrow 56 _) rfl rfl) rfl rfl ?_ -- unturn.go:43 assign
    refine Runs_nil ?_
    refine thenQ_n ?_
    refine W_seq ?_
    refine W_regionE (c := 9) (c' := 12) (by kernel_rfl) rfl ?_
    refine Runs_p rfl (Valid.assignk (A := Is _) rfl rfl) rfl rfl ?_ -- unturn.go:44 assign
    refine Runs_p rfl (Valid.assignk (A := Is _) rfl rfl) rfl rfl ?_ -- unturn.go:44 assign
    refine Runs_p rfl (Valid.assignk (A := Is _) rfl rfl) rfl rfl ?_ -- unturn.go:44 assign
    refine Runs_nil ?_
    refine thenQ_n ?_
    refine W_enterB hpass0 (⟨0, List.replicate (vecL s).length false, 0⟩) [] (beg_0 _) mu_any ⟨⟨(leq_is rfl rfl (by first | rfl | exact rep_f _)), (leq_is rfl rfl (by first | rfl | exact rep_f _)), trivial⟩, ⟨(leq_is rfl rfl rfl), (leq_sl (Reads.sl rfl) rfl rfl rfl), (leq_mrow rfl rfl rfl rfl), trivial⟩, ⟨hp_arr rfl (by first | rfl | exact rep_f _), trivial⟩, trivial, rfl, ⟨supg rfl, supg rfl, trivial⟩, ⟨supg rfl, supg rfl, supg rfl, trivial⟩, ⟨suph_arr rfl, trivial⟩, trivial, rfl, rfl⟩
  · intro hpass1 ⟨f, b, r⟩ hL
    have hvl := vec_len s
    have hbl := hL.len
    have hfl := hL.fle
    have hrc := cnt_bd (vecL s) (if bn b f = true then f + 1 else f)
    have hr := hL.cnt
    rw [← hr] at hrc
    have hfi : (if bn b f = true then f + 1 else f) ≤ f + 1 := by split <;> omega
    refine W_seq ?_
    refine W_seq ?_
    refine W_regionE (c := 12) (c' := 16) (by kernel_rfl) rfl ?_
    refine Runs_p rfl (Valid.movek (A := Is _) rfl rfl) rfl rfl ?_ -- unturn.go:46 move
    refine Runs_p rfl (Valid.movek (A := Is _) rfl rfl) rfl rfl ?_ -- unturn.go:46 move
    refine Runs_p rfl (Valid.slen rfl Try.underlying9 rfl) rfl rfl ?_ -- unturn.go:46 call
    refine Runs_p rfl (Valid.eql rfl rfl rfl) rfl rfl ?_ -- unturn.go:46 binOp
    refine Runs_nil ?_
    refine thenQ_n ?_
    refine W_cond _ rfl (fun hb2 => ?_) (fun hb2 => ?_)
    · try simp only [decide_eq_true_eq] at hb2
      all_goals (
        refine W_seq ?_
        refine W_regionE (c := 16) (c' := 18) (by kernel_rfl) rfl ?_
        refine Runs_p rfl (Valid.movek (A := Is _) rfl rfl) rfl rfl ?_ -- unturn.go:47 move
        refine Runs_p rfl (Valid.assignk (A := Is _) rfl rfl) rfl rfl ?_ -- unturn.go:47 assign
        refine Runs_nil ?_
        refine thenQ_n ?_
        refine W_ret ?_
        refine thenQ_r ?_
        refine jumpsQ_r ?_
        refine finQ_r ?_
        refine ResOk.one rfl (RVal.is rfl rfl (congrArg (Value.int .i64) ((beg_end hL (by omega)).trans (by rw [vec_len]; rfl))))
        done)
    · try simp only [decide_eq_false_iff_not] at hb2
      all_goals (
        refine W_skip ?_
        refine thenQ_n ?_
        refine W_seq ?_
        refine W_seq ?_
        refine W_regionE (c := 16) (c' := 20) (by kernel_rfl) rfl ?_
        refine Runs_p rfl (Valid.movek (A := Mrow 56 _) rfl rfl) rfl rfl ?_ -- unturn.go:49 move
        refine Runs_p rfl (Valid.movek (A := Is _) rfl rfl) rfl rfl ?_ -- unturn.go:49 move
        refine Runs_p rfl (Valid.idxM1 rfl Try.underlying37 sz4 rfl rfl (by first | omega | (simp only [Int.toNat_natCast, toNat_add, toNat_add1, List.length_append, List.length_cons, List.length_nil, List.length_replicate]; omega))) rfl rfl ?_ -- unturn.go:49 indexAddr
        refine Runs_p rfl (Valid.loadarr false rfl ag4 rfl rfl (by first | omega | (simp only [Int.toNat_natCast, toNat_add, toNat_add1, List.length_append, List.length_cons, List.length_nil, List.length_replicate]; omega))) rfl rfl ?_ -- unturn.go:49 load
        refine Runs_nil ?_
        refine thenQ_n ?_
        refine W_cond _ rfl (fun hb3 => ?_) (fun hb3 => ?_)
        · try simp only [Int.toNat_natCast] at hb3
          all_goals (
            refine W_seq ?_
            refine W_regionE (c := 20) (c' := 23) (by kernel_rfl) rfl ?_
            refine Runs_p rfl (Valid.movek (A := Is _) rfl rfl) rfl rfl ?_ -- unturn.go:50 move
            refine Runs_p rfl (Valid.add rfl rfl rfl (room64 (by first | omega | (simp only [Int.toNat_natCast, toNat_add, toNat_add1, List.length_append, List.length_cons, List.length_nil, List.length_replicate]; omega)) (by first | omega | (simp only [Int.toNat_natCast, toNat_add, toNat_add1, List.length_append, List.length_cons, List.length_nil, List.length_replicate]; omega)))) rfl rfl ?_ -- unturn.go:50 binOp
            refine Runs_p rfl (Valid.assignk (A := Is _) rfl rfl) rfl rfl ?_ -- unturn.go:50 assign
            refine Runs_nil ?_
            refine thenQ_n ?_
            refine W_goto ?_
            refine thenQ_g ?_
            refine JumpsQ.go0 (⟨f + 1, b, r⟩) [] (by first | exact beg_skip (pm_vec s) hL (by assumption) | exact on_done hL hnx) (mu_lt (by first | omega | (dsimp only; omega))) ⟨⟨(leq_is rfl rfl (by first | rfl | exact Value_int_succ)), (leq_is rfl rfl (by first | rfl | exact Value_int_succ)), trivial⟩, ⟨(leq_is rfl rfl rfl), (leq_sl (Reads.sl rfl) rfl rfl rfl), (leq_mrow rfl rfl rfl rfl), trivial⟩, ⟨hp_arr rfl (by first | rfl | exact Value_int_succ), trivial⟩, trivial, rfl, ⟨supg rfl, supg rfl, trivial⟩, ⟨supg rfl, supg rfl, supg rfl, trivial⟩, ⟨suph_arr rfl, trivial⟩, trivial, rfl, rfl⟩
            done)
        · try simp only [Int.toNat_natCast] at hb3
          all_goals (
            refine W_skip ?_
            refine thenQ_n ?_
            refine W_seq ?_
            refine W_regionE (c := 20) (c' := 23) (by kernel_rfl) rfl ?_
            refine Runs_p rfl (Valid.movek (A := Is _) rfl rfl) rfl rfl ?_ -- unturn.go:53 move
            refine Runs_p rfl (Valid.add rfl rfl rfl (room64 (by first | omega | (simp only [Int.toNat_natCast, toNat_add, toNat_add1, List.length_append, List.length_cons, List.length_nil, List.length_replicate]; omega)) (by first | omega | (simp only [Int.toNat_natCast, toNat_add, toNat_add1, List.length_append, List.length_cons, List.length_nil, List.length_replicate]; omega)))) rfl rfl ?_ -- unturn.go:53 binOp
            refine Runs_p rfl (Valid.assignk (A := Is _) rfl rfl) rfl rfl ?_ -- unturn.go:53 assign
            refine Runs_nil ?_
            refine thenQ_n ?_
            refine W_seq ?_
            refine W_regionE (c := 23) (c' := 25) (by kernel_rfl) rfl ?_
            refine Runs_p rfl (Valid.movek (A := Is _) rfl rfl) rfl rfl ?_ -- unturn.go:54 move
            refine Runs_p rfl (Valid.assignk (A := Is _) rfl rfl) rfl rfl ?_ -- unturn.go:54 assign
            refine Runs_nil ?_
            refine thenQ_n ?_
            refine W_enterB hpass1 (⟨f, b, r + 1, f⟩) [] (beg_on (pm_vec s) hL (by omega) (by simpa using hb3)) (mu_le (by dsimp only; omega)) ⟨⟨(leq_is rfl rfl (by rfl)), (leq_is rfl rfl (by rfl)), (leq_is rfl rfl (by rfl)), trivial⟩, ⟨(leq_is rfl rfl rfl), (leq_sl (Reads.sl rfl) rfl rfl rfl), (leq_mrow rfl rfl rfl rfl), trivial⟩, ⟨hp_arr rfl (by rfl), trivial⟩, trivial, rfl, ⟨supg rfl, supg rfl, supg rfl, trivial⟩, ⟨supg rfl, supg rfl, supg rfl, trivial⟩, ⟨suph_arr rfl, trivial⟩, trivial, rfl, rfl⟩
            done)
        done)
  · intro ⟨f, b, r, at_⟩ hL
    have hvl := vec_len s
    have hbl := hL.len
    have hal := hL.alt
    have hnv := nx_i s at_ (by omega)
    have hnv2 := hnv
    rw [Int.toNat_natCast] at hnv2
    have hfs := fals_set (by omega) hL.new
    refine W_seq ?_
    refine W_regionE (c := 25) (c' := 29) (by kernel_rfl) rfl ?_
    refine Runs_p rfl (Valid.movek (A := Mrow 56 _) rfl rfl) rfl rfl ?_ -- unturn.go:56 move
    refine Runs_p rfl (Valid.movek (A := Is _) rfl rfl) rfl rfl ?_ -- unturn.go:56 move
    refine Runs_p rfl (Valid.idxM1 rfl Try.underlying37 sz4 rfl rfl (by first | omega | (simp only [Int.toNat_natCast, toNat_add, toNat_add1, List.length_append, List.length_cons, List.length_nil, List.length_replicate]; omega))) rfl rfl ?_ -- unturn.go:56 indexAddr
    refine Runs_op rfl (Valid.storearr _ rfl sz4 rfl rfl (by first | omega | (simp only [Int.toNat_natCast, toNat_add, toNat_add1, List.length_append, List.length_cons, List.length_nil, List.length_replicate]; omega)) rfl (One.is rfl rfl rfl)) rfl ?_ -- unturn.go:56 store
    refine Runs_nil ?_
    refine thenQ_n ?_
    refine W_seq ?_
    refine W_regionE (c := 29) (c' := 34) (by kernel_rfl) rfl ?_
    refine Runs_p rfl (Valid.movek (A := Sl 1 _ _) rfl rfl) rfl rfl ?_ -- unturn.go:57 move
    refine Runs_p rfl (Valid.movek (A := Is _) rfl rfl) rfl rfl ?_ -- unturn.go:57 move
    refine Runs_p rfl (Valid.eltaddr1 0 rfl Try.underlying22 sz3 (Reads.sl rfl) rfl (by first | omega | (simp only [Int.toNat_natCast, toNat_add, toNat_add1, List.length_append, List.length_cons, List.length_nil, List.length_replicate]; omega)) (vec_len s).symm) rfl rfl ?_ -- unturn.go:57 indexAddr
    refine Runs_p rfl (Valid.loadelt rfl ag3 rfl) rfl rfl ?_ -- unturn.go:57 load
    refine Runs_p rfl (Valid.assignk (A := Is _) rfl rfl) rfl rfl ?_ -- unturn.go:57 assign
    refine Runs_nil ?_
    refine thenQ_n ?_
    refine W_seq ?_
    refine W_seq ?_
    refine W_regionE (c := 34) (c' := 37) (by kernel_rfl) rfl ?_
    refine Runs_p rfl (Valid.movek (A := Is _) rfl rfl) rfl rfl ?_ -- unturn.go:58 move
    refine Runs_p rfl (Valid.movek (A := Is _) rfl rfl) rfl rfl ?_ -- unturn.go:58 move
    refine Runs_p rfl (Valid.neq rfl rfl rfl) rfl rfl ?_ -- unturn.go:58 binOp
    refine Runs_nil ?_
    refine thenQ_n ?_
    refine W_cond _ rfl (fun hb4 => ?_) (fun hb4 => ?_)
    · try simp only [Int.toNat_natCast, decide_eq_true_eq, ne_eq] at hb4
      all_goals (
        have hnx : nx (vecL s) at_ ≠ f := by omega
        refine W_goto ?_
        refine thenQ_g ?_
        refine JumpsQ.go1 (⟨f, b.set at_ true, r, nx (vecL s) at_⟩) [] (on_next (pm_vec s) hL hnx) (mu_lt (by dsimp only; omega)) ⟨⟨(leq_is rfl rfl (by first | rfl | exact congrArg (Value.int .i64) hnv)), (leq_is rfl rfl (by first | rfl | exact congrArg (Value.int .i64) hnv)), (leq_is rfl rfl (by first | rfl | exact congrArg (Value.int .i64) hnv)), trivial⟩, ⟨(leq_is rfl rfl rfl), (leq_sl (Reads.sl rfl) rfl rfl rfl), (leq_mrow rfl rfl rfl rfl), trivial⟩, ⟨hp_arr rfl (by first | rfl | exact congrArg (Value.int .i64) hnv), trivial⟩, trivial, rfl, ⟨supg rfl, supg rfl, supg rfl, trivial⟩, ⟨supg rfl, supg rfl, supg rfl, trivial⟩, ⟨suph_arr rfl, trivial⟩, trivial, rfl, rfl⟩
        done)
    · try simp only [Int.toNat_natCast, decide_eq_false_iff_not, ne_eq] at hb4
      all_goals (
        have hnx : nx (vecL s) at_ = f := by omega
        refine W_skip ?_
        refine thenQ_n ?_
        refine W_goto ?_
        refine JumpsQ.go0 (⟨f, b.set at_ true, r⟩) [] (by first | exact beg_skip (pm_vec s) hL (by assumption) | exact on_done hL hnx) (mu_lt (by first | omega | (dsimp only; omega))) ⟨⟨(leq_is rfl rfl (by first | rfl | exact Value_int_succ)), (leq_is rfl rfl (by first | rfl | exact Value_int_succ)), trivial⟩, ⟨(leq_is rfl rfl rfl), (leq_sl (Reads.sl rfl) rfl rfl rfl), (leq_mrow rfl rfl rfl rfl), trivial⟩, ⟨hp_arr rfl (by first | rfl | exact Value_int_succ), trivial⟩, trivial, rfl, ⟨supg rfl, supg rfl, trivial⟩, ⟨supg rfl, supg rfl, supg rfl, trivial⟩, ⟨suph_arr rfl, trivial⟩, trivial, rfl, rfl⟩
        done)

set_option maxRecDepth 100000 in
set_option maxHeartbeats 1000000 in
theorem rcyc_s (s : ByteArray) (hs : s.size ≤ 1000000) :
    FPure Try.prog 15 [Is (.string s)] (Is (.int .i64 (cycV s))) := by
  refine FPure.of Try.func15 Try.ntmps15 rfl (by kernel_rfl) rfl rfl rfl ?_
  refine W_seq ?_
  refine W_regionE (c := 1) (c' := 2) (by kernel_rfl) rfl ?_
  refine Runs_p rfl (Valid.assignk (A := Is _) rfl rfl) rfl rfl ?_ -- ref.go:37 assign
  refine Runs_nil ?_
  refine thenQ_n ?_
  refine W_seq ?_
  refine W_regionE (c := 2) (c' := 5) (by kernel_rfl) rfl ?_
  refine Runs_p rfl (Valid.movek (A := Is _) rfl rfl) rfl rfl ?_ -- ref.go:38 move
  refine Runs_p rfl (Valid.call rfl (rvec_v _ (by omega)) ⟨argle rfl, trivial⟩) rfl rfl ?_ -- ref.go:38 call
  refine Runs_p rfl (Valid.assignk (A := Sl 1 _ _) rfl rfl) rfl rfl ?_ -- ref.go:38 assign
  refine Runs_nil ?_
  refine thenQ_n ?_
  refine W_seq ?_
  refine W_regionE (c := 5) (c' := 6) (by kernel_rfl) rfl ?_
  refine Runs_p rfl (Valid.assignk (A := Is _) rfl rfl) rfl rfl ?_ -- ref.go:39 assign
  refine Runs_nil ?_
  refine thenQ_n ?_
  refine W_seq ?_
  refine W_seq ?_
  refine W_regionE (c := 6) (c' := 7) (by kernel_rfl) rfl ?_
  refine Runs_p rfl (Valid.assignk (A := Is _) rfl rfl) rfl rfl ?_ -- ref.go:40 assign
  refine Runs_nil ?_
  refine thenQ_n ?_
  refine W_block ?_
  refine W_loopx (G := Nat) (fun (i : Nat) => i ≤ s.size) [(3, Sl 1 s.size ((vecL s).map (Value.int .i64)))] (fun (i : Nat) => [(5, Is (.int .i64 (i : Int))), (4, Is (.int .i64 (cntM (vecL s) i)))]) [] (fun (i : Nat) => []) 7 (fun (i : Nat) => s.size - i) (0) [] (by first | trivial | omega | (simp; omega)) ⟨⟨(leq_is rfl rfl (by first | rfl | exact congrArg (Value.int .i64) (cnt_0 _).symm)), (leq_is rfl rfl (by first | rfl | exact congrArg (Value.int .i64) (cnt_0 _).symm)), trivial⟩, ⟨(leq_sl (Reads.sl rfl) rfl rfl rfl), trivial⟩, trivial, trivial, rfl, ⟨supg rfl, supg rfl, trivial⟩, ⟨supg rfl, trivial⟩, trivial, trivial, rfl, rfl⟩ ?_
  intro i hI1
  have hvl := vec_len s
  have hcb := cnt_bd (vecL s) i
  have hnv := nx_i s i
  have hbk : i < s.size → _ := fun h => back_to (pm_vec s) (x := i) (by omega)
  refine W_seq ?_
  refine W_seq ?_
  refine W_regionE (c := 7) (c' := 11) (by kernel_rfl) rfl ?_
  refine Runs_p rfl (Valid.movek (A := Is _) rfl rfl) rfl rfl ?_ -- ref.go:40 move
  refine Runs_p rfl (Valid.movek (A := Sl 1 _ _) rfl rfl) rfl rfl ?_ -- ref.go:40 move
  refine Runs_p rfl (Valid.len rfl Try.underlying22 (Reads.sl rfl)) rfl rfl ?_ -- ref.go:40 call
  refine Runs_p rfl (Valid.lss rfl rfl rfl) rfl rfl ?_ -- ref.go:40 binOp
  refine Runs_nil ?_
  refine thenQ_n ?_
  refine W_cond _ rfl (fun hb1 => ?_) (fun hb1 => ?_)
  · try simp only [decide_eq_true_eq] at hb1
    all_goals (
      obtain ⟨M, hM1, hM2⟩ := hbk (by omega)
      refine W_skip ?_
      refine thenQ_n ?_
      refine W_seq ?_
      refine W_block ?_
      refine W_seq ?_
      refine W_regionE (c := 11) (c' := 16) (by kernel_rfl) rfl ?_
      refine Runs_p rfl (Valid.movek (A := Sl 1 _ _) rfl rfl) rfl rfl ?_ -- ref.go:41 move
      refine Runs_p rfl (Valid.movek (A := Is _) rfl rfl) rfl rfl ?_ -- ref.go:41 move
      refine Runs_p rfl (Valid.eltaddr1 0 rfl Try.underlying22 sz3 (Reads.sl rfl) rfl (by first | omega | (simp only [Int.toNat_natCast, toNat_add, toNat_add1, List.length_append, List.length_cons, List.length_nil, List.length_replicate]; omega)) (vec_len s).symm) rfl rfl ?_ -- ref.go:41 indexAddr
      refine Runs_p rfl (Valid.loadelt rfl ag3 rfl) rfl rfl ?_ -- ref.go:41 load
      refine Runs_p rfl (Valid.assignk (A := Is _) rfl rfl) rfl rfl ?_ -- ref.go:41 assign
      refine Runs_nil ?_
      refine thenQ_n ?_
      refine W_seq ?_
      refine W_block ?_
      refine W_loopx (G := Nat) (fun (k : Nat) => 1 ≤ k ∧ k ≤ M ∧ (∀ j, 1 ≤ j → j < k → i < it (vecL s) i j)) [(3, Sl 1 s.size ((vecL s).map (Value.int .i64))), (4, Is _), (5, Is _)] (fun (k : Nat) => [(6, Is (.int .i64 (it (vecL s) i k : Nat)))]) [] (fun (k : Nat) => []) 16 (fun (k : Nat) => M - k) (1) [] (⟨by omega, hM1, fun j h1 h2 => by omega⟩) ⟨⟨(leq_is rfl rfl (by first | rfl | (rw [it_1, it_0]; exact congrArg (Value.int .i64) (hnv (by omega))))), trivial⟩, ⟨(leq_sl (Reads.sl rfl) rfl rfl rfl), (leq_is rfl rfl rfl), (leq_is rfl rfl rfl), trivial⟩, trivial, trivial, rfl, ⟨supg rfl, trivial⟩, ⟨supg rfl, supg rfl, supg rfl, trivial⟩, trivial, trivial, rfl, rfl⟩ ?_
      intro k hI2
      obtain ⟨hk1, hk2, hk3⟩ := hI2
      have hil := it_lt (pm_vec s) (x := i) (by omega) k
      have hnk := nx_i s (it (vecL s) i k) (by omega)
      refine W_seq ?_
      refine W_seq ?_
      refine W_regionE (c := 16) (c' := 19) (by kernel_rfl) rfl ?_
      refine Runs_p rfl (Valid.movek (A := Is _) rfl rfl) rfl rfl ?_ -- ref.go:42 move
      refine Runs_p rfl (Valid.movek (A := Is _) rfl rfl) rfl rfl ?_ -- ref.go:42 move
      refine Runs_p rfl (Valid.gtr rfl rfl rfl) rfl rfl ?_ -- ref.go:42 binOp
      refine Runs_nil ?_
      refine thenQ_n ?_
      refine W_cond _ rfl (fun hb2 => ?_) (fun hb2 => ?_)
      · try simp only [decide_eq_true_eq] at hb2
        all_goals (
          have hkM : k + 1 ≤ M := by
            rcases Nat.lt_or_ge k M with h | h
            · exact h
            · have : k = M := by omega
              rw [this, hM2] at hb2; omega
          have hkn : ∀ j, 1 ≤ j → j < k + 1 → i < it (vecL s) i j := fun j h1 h2 => by
            by_cases e : j = k
            · rw [e]; omega
            · exact hk3 j h1 (by omega)
          refine W_skip ?_
          refine thenQ_n ?_
          refine W_block ?_
          refine W_regionE (c := 19) (c' := 24) (by kernel_rfl) rfl ?_
          refine Runs_p rfl (Valid.movek (A := Sl 1 _ _) rfl rfl) rfl rfl ?_ -- ref.go:43 move
          refine Runs_p rfl (Valid.movek (A := Is _) rfl rfl) rfl rfl ?_ -- ref.go:43 move
          refine Runs_p rfl (Valid.eltaddr1 0 rfl Try.underlying22 sz3 (Reads.sl rfl) rfl (by first | omega | (simp only [Int.toNat_natCast, toNat_add, toNat_add1, List.length_append, List.length_cons, List.length_nil, List.length_replicate]; omega)) (vec_len s).symm) rfl rfl ?_ -- ref.go:43 indexAddr
          refine Runs_p rfl (Valid.loadelt rfl ag3 rfl) rfl rfl ?_ -- ref.go:43 load
          refine Runs_p rfl (Valid.assignk (A := Is _) rfl rfl) rfl rfl ?_ -- ref.go:43 assign
          refine Runs_nil ?_
          refine blockQ_n ?_
          refine LoopQ.next (k + 1) [] (⟨by omega, hkM, hkn⟩) (by first | omega | (dsimp only; omega)) ⟨⟨(leq_is rfl rfl (by first | rfl | (rw [it_1]; exact congrArg (Value.int .i64) hnk))), trivial⟩, ⟨(leq_sl (Reads.sl rfl) rfl rfl rfl), (leq_is rfl rfl rfl), (leq_is rfl rfl rfl), trivial⟩, trivial, trivial, rfl, ⟨supg rfl, trivial⟩, ⟨supg rfl, supg rfl, supg rfl, trivial⟩, trivial, trivial, rfl, rfl⟩
          done)
      · try simp only [decide_eq_false_iff_not] at hb2
        all_goals (
          refine W_exit ?_
          refine thenQ_e ?_
          refine loopQ_e ?_
          refine blockQ_x ?_
          refine thenQ_n ?_
          refine W_seq ?_
          refine W_regionE (c := 19) (c' := 22) (by kernel_rfl) rfl ?_
          refine Runs_p rfl (Valid.movek (A := Is _) rfl rfl) rfl rfl ?_ -- ref.go:45 move
          refine Runs_p rfl (Valid.movek (A := Is _) rfl rfl) rfl rfl ?_ -- ref.go:45 move
          refine Runs_p rfl (Valid.eql rfl rfl rfl) rfl rfl ?_ -- ref.go:45 binOp
          refine Runs_nil ?_
          refine thenQ_n ?_
          refine W_cond _ rfl (fun hb3 => ?_) (fun hb3 => ?_)
          · try simp only [decide_eq_true_eq] at hb3
            all_goals (
              have hmin : isMin (vecL s) i := min_yes (pm_vec s) (by omega) hk1 hk3 (by omega)
              refine W_regionE (c := 22) (c' := 25) (by kernel_rfl) rfl ?_
              refine Runs_p rfl (Valid.movek (A := Is _) rfl rfl) rfl rfl ?_ -- ref.go:46 move
              refine Runs_p rfl (Valid.add rfl rfl rfl (room64 (by first | omega | (simp only [Int.toNat_natCast, toNat_add, toNat_add1, List.length_append, List.length_cons, List.length_nil, List.length_replicate]; omega)) (by first | omega | (simp only [Int.toNat_natCast, toNat_add, toNat_add1, List.length_append, List.length_cons, List.length_nil, List.length_replicate]; omega)))) rfl rfl ?_ -- ref.go:46 binOp
              refine Runs_p rfl (Valid.assignk (A := Is _) rfl rfl) rfl rfl ?_ -- ref.go:46 assign
              refine Runs_nil ?_
              refine blockQ_n ?_
              refine thenQ_n ?_
              refine W_regionE (c := 25) (c' := 28) (by kernel_rfl) rfl ?_
              refine Runs_p rfl (Valid.movek (A := Is _) rfl rfl) rfl rfl ?_ -- ref.go:40 move
              refine Runs_p rfl (Valid.add rfl rfl rfl (room64 (by first | omega | (simp only [Int.toNat_natCast, toNat_add, toNat_add1, List.length_append, List.length_cons, List.length_nil, List.length_replicate]; omega)) (by first | omega | (simp only [Int.toNat_natCast, toNat_add, toNat_add1, List.length_append, List.length_cons, List.length_nil, List.length_replicate]; omega)))) rfl rfl ?_ -- ref.go:40 binOp
              refine Runs_p rfl (Valid.assignk (A := Is _) rfl rfl) rfl rfl ?_ -- ref.go:40 assign
              refine Runs_nil ?_
              refine LoopQ.next (i + 1) [] (by first | trivial | omega | (simp; omega)) (by first | omega | (dsimp only; omega)) ⟨⟨(leq_is rfl rfl (by first | rfl | exact congrArg (Value.int .i64) (cnt_y hmin).symm | exact congrArg (Value.int .i64) (cnt_n hmin).symm)), (leq_is rfl rfl (by first | rfl | exact congrArg (Value.int .i64) (cnt_y hmin).symm | exact congrArg (Value.int .i64) (cnt_n hmin).symm)), trivial⟩, ⟨(leq_sl (Reads.sl rfl) rfl rfl rfl), trivial⟩, trivial, trivial, rfl, ⟨supg rfl, supg rfl, trivial⟩, ⟨supg rfl, trivial⟩, trivial, trivial, rfl, rfl⟩
              done)
          · try simp only [decide_eq_false_iff_not] at hb3
            all_goals (
              have hmin : ¬ isMin (vecL s) i := min_no (k := k) (by omega)
              refine W_skip ?_
              refine blockQ_n ?_
              refine thenQ_n ?_
              refine W_regionE (c := 22) (c' := 25) (by kernel_rfl) rfl ?_
              refine Runs_p rfl (Valid.movek (A := Is _) rfl rfl) rfl rfl ?_ -- ref.go:40 move
              refine Runs_p rfl (Valid.add rfl rfl rfl (room64 (by first | omega | (simp only [Int.toNat_natCast, toNat_add, toNat_add1, List.length_append, List.length_cons, List.length_nil, List.length_replicate]; omega)) (by first | omega | (simp only [Int.toNat_natCast, toNat_add, toNat_add1, List.length_append, List.length_cons, List.length_nil, List.length_replicate]; omega)))) rfl rfl ?_ -- ref.go:40 binOp
              refine Runs_p rfl (Valid.assignk (A := Is _) rfl rfl) rfl rfl ?_ -- ref.go:40 assign
              refine Runs_nil ?_
              refine LoopQ.next (i + 1) [] (by first | trivial | omega | (simp; omega)) (by first | omega | (dsimp only; omega)) ⟨⟨(leq_is rfl rfl (by first | rfl | exact congrArg (Value.int .i64) (cnt_y hmin).symm | exact congrArg (Value.int .i64) (cnt_n hmin).symm)), (leq_is rfl rfl (by first | rfl | exact congrArg (Value.int .i64) (cnt_y hmin).symm | exact congrArg (Value.int .i64) (cnt_n hmin).symm)), trivial⟩, ⟨(leq_sl (Reads.sl rfl) rfl rfl rfl), trivial⟩, trivial, trivial, rfl, ⟨supg rfl, supg rfl, trivial⟩, ⟨supg rfl, trivial⟩, trivial, trivial, rfl, rfl⟩
              done)
          done)
      done)
  · try simp only [decide_eq_false_iff_not] at hb1
    all_goals (
      refine W_exit ?_
      refine thenQ_e ?_
      refine loopQ_e ?_
      refine blockQ_x ?_
      refine thenQ_n ?_
      refine W_seq ?_
      refine W_regionE (c := 11) (c' := 13) (by kernel_rfl) rfl ?_
      refine Runs_p rfl (Valid.movek (A := Is _) rfl rfl) rfl rfl ?_ -- ref.go:49 move
      refine Runs_p rfl (Valid.assignk (A := Is _) rfl rfl) rfl rfl ?_ -- ref.go:49 assign
      refine Runs_nil ?_
      refine thenQ_n ?_
      refine W_ret ?_
      refine finQ_r ?_
      refine ResOk.one rfl (RVal.is rfl rfl (by rw [cycV, show s.size = i by omega]))
      done)
end Vf
end Go.Proofs.Ytfelmdagolnpeaa
