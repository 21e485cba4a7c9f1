/-
  WALKS of stage 6: the reference.
-/
import Derived.Test.YtimpmdcebapfiaaRows
import Derived.Test.YtimpmdcebapfiaaZm
import Derived.Test.YtimpmdcebapfiaaZn
import Derived.Test.YtimpmdcebapfiaaZo
import Derived.Test.YtimpmdcebapfiaaZp
import Derived.Test.YtimpmdcebapfiaaZa
import Derived.Test.YtimpmdcebapfiaaZb
import Derived.Test.YtimpmdcebapfiaaZc
import Derived.Test.YtimpmdcebapfiaaZd
namespace Go.Proofs.Ytimpmdcebapfiaa
open Go.RowKit
namespace Zf
open Ab Zm Zn Zo Zp Za Zb Zc Zd
theorem ag3 (w : World) : (isAgg 3).run Try.prog w = .ok false w := by kernel_rfl
theorem sz3 (w : World) : (sizeOf 3).run Try.prog w = .ok 1 w := by kernel_rfl
theorem ti3 : TI Try.prog 3 1 8 := .mk' (z := (Value.int .i64 0)) (by kernel_rfl) rfl
theorem num_rseg (m : List Int) (f : Nat) (a b : Int) (n : Nat) (ha : a = f) (hb : b = runE m f) (hm : m.length ≤ 1000000000000) (hn : n = b.toNat - a.toNat) (_hf : f ≤ m.length) : FPure Try.prog 17 [Sl 1 n (((m.drop a.toNat).take n).map (Value.int .i64))] (Tup [Is (.int .i64 (numR ((m.drop f).takeWhile lowP)).1), Is (.int .i64 (numR ((m.drop f).takeWhile lowP)).2)]) := by
  subst ha hb hn
  simp only [Int.toNat_natCast]
  have hl : ((m.drop f).takeWhile lowP).length = runE m f - f := by unfold runE; omega
  rw [run_seg, ← hl]
  exact numr_s _ (by have := seg_len m f; omega)
theorem encV_bad {l : List Int} (h : outV l 1099511627776 = true) : encV l = ([], 1) := by rw [encV, if_pos h]
theorem encV_ok {l : List Int} (h : outV l 1099511627776 = false) : encV l = (enc 0 l, 0) := by rw [encV, h]; rfl

set_option maxRecDepth 100000 in
set_option maxHeartbeats 1000000 in
theorem encr_s (l : List Int) (hl : l.length ≤ 100000000000) :
    FPure Try.prog 15 [Sl 1 l.length (l.map (Value.int .i64))] (Tup [Sl 1 (encV l).1.length ((encV l).1.map (Value.int .i64)), Is (.int .i64 (encV l).2)]) := by
  refine FPure.of Try.func15 Try.ntmps15 rfl (by kernel_rfl) rfl rfl rfl ?_
  refine W_seq ?_
  refine W_regionE (c := 1) (c' := 3) (by kernel_rfl) rfl ?_
  refine Runs_p rfl (Valid.assignk (A := Is (.slice none 0 0)) rfl rfl) rfl rfl ?_ -- ref.go:50 assign
  refine Runs_p rfl (Valid.assignk (A := Is _) rfl rfl) rfl rfl ?_ -- ref.go:50 assign
  refine Runs_nil ?_
  refine thenQ_n ?_
  refine W_seq ?_
  refine W_seq ?_
  refine W_regionE (c := 3) (c' := 5) (by kernel_rfl) rfl ?_
  refine Runs_p rfl (Valid.movek (A := Sl 1 _ _) rfl rfl) rfl rfl ?_ -- ref.go:51 move
  refine Runs_p rfl (Valid.call rfl (below_s _ (by omega)) ⟨argle_sl (Reads.sl rfl), trivial⟩) rfl rfl ?_ -- ref.go:51 call
  refine Runs_nil ?_
  refine thenQ_n ?_
  refine W_cond _ rfl (fun hb1 => ?_) (fun hb1 => ?_)
  · try simp only [Int.toNat_natCast, toNat_add, toNat_add1, decide_eq_true_eq, decide_eq_false_iff_not, Bool.and_eq_true, Bool.or_eq_true, Bool.and_eq_false_iff, Bool.or_eq_false_iff, Bool.not_eq_true', Bool.not_eq_false', Bool.true_eq_false, Bool.false_eq_true, not_true_eq_false, not_false_eq_true, ne_eq] at hb1
    all_goals (
      refine W_seq ?_
      refine W_regionE (c := 5) (c' := 7) (by kernel_rfl) rfl ?_
      refine Runs_p rfl (Valid.assignk (A := Is (.slice none 0 0)) rfl rfl) rfl rfl ?_ -- ref.go:52 assign
      refine Runs_p rfl (Valid.assignk (A := Is _) rfl rfl) rfl rfl ?_ -- ref.go:52 assign
      refine Runs_nil ?_
      refine thenQ_n ?_
      refine W_ret ?_
      refine thenQ_r ?_
      refine finQ_r ?_
      refine ResOk.two rfl (RVal.sl (Reads.nil rfl) rfl (by first | (rw [encV_bad (out_or_t (by assumption))]; done) | (rw [encV_bad (out_or_t (by assumption))]; rfl) | (rw [encV_bad (out_at_t (k := k) (by omega) (by omega))]; done) | (rw [encV_bad (out_at_t (k := k) (by omega) (by omega))]; rfl) | (rw [encV_ok hout, ← hy, enc_end 0 l i (by omega), digs_zero, List.append_nil]; done) | (rw [encV_ok hout, ← hy, enc_end 0 l i (by omega), digs_zero, List.append_nil]; rfl)) (by first | (rw [encV_bad (out_or_t (by assumption))]; done) | (rw [encV_bad (out_or_t (by assumption))]; rfl) | (rw [encV_bad (out_at_t (k := k) (by omega) (by omega))]; done) | (rw [encV_bad (out_at_t (k := k) (by omega) (by omega))]; rfl) | (rw [encV_ok hout, ← hy, enc_end 0 l i (by omega), digs_zero, List.append_nil]; done) | (rw [encV_ok hout, ← hy, enc_end 0 l i (by omega), digs_zero, List.append_nil]; rfl))) (RVal.is rfl rfl (by first | (rw [encV_bad (out_or_t (by assumption))]; done) | (rw [encV_bad (out_or_t (by assumption))]; rfl) | (rw [encV_bad (out_at_t (k := k) (by omega) (by omega))]; done) | (rw [encV_bad (out_at_t (k := k) (by omega) (by omega))]; rfl) | (rw [encV_ok hout, ← hy, enc_end 0 l i (by omega), digs_zero, List.append_nil]; done) | (rw [encV_ok hout, ← hy, enc_end 0 l i (by omega), digs_zero, List.append_nil]; rfl)))
      done)
  · try simp only [Int.toNat_natCast, toNat_add, toNat_add1, decide_eq_true_eq, decide_eq_false_iff_not, Bool.and_eq_true, Bool.or_eq_true, Bool.and_eq_false_iff, Bool.or_eq_false_iff, Bool.not_eq_true', Bool.not_eq_false', Bool.true_eq_false, Bool.false_eq_true, not_true_eq_false, not_false_eq_true, ne_eq] at hb1
    all_goals (
      refine W_skip ?_
      refine thenQ_n ?_
      refine W_seq ?_
      refine W_seq ?_
      refine W_regionE (c := 5) (c' := 6) (by kernel_rfl) rfl ?_
      refine Runs_p rfl (Valid.assignk (A := Is _) rfl rfl) rfl rfl ?_ -- ref.go:54 assign
      refine Runs_nil ?_
      refine thenQ_n ?_
      refine W_block ?_
      refine W_loopx (G := Nat) (fun (k : Nat) => k ≤ l.length ∧ (l.take k).any (fun x => decide ((1099511627776 : Int) < x)) = false) [(0, Sl 1 _ _)] (fun (k : Nat) => [(4, Is (.int .i64 (k : Int)))]) [] (fun (k : Nat) => []) 6 (fun (k : Nat) => l.length - k) (0) [] (⟨by omega, rfl⟩) ⟨⟨(leq_is rfl rfl (by first | rfl | (simp; done) | omega | (simp [toNat_add, toNat_add1, Nat.add_assoc]; done) | (simp [toNat_add, toNat_add1]; omega))), trivial⟩, ⟨(leq_sl (Reads.sl rfl) rfl rfl rfl), trivial⟩, trivial, trivial, rfl, ⟨supg rfl, trivial⟩, ⟨supg rfl, trivial⟩, trivial, trivial, rfl, rfl⟩ ?_
      intro k hI1
      obtain ⟨hk1, hk2⟩ := hI1
      refine W_seq ?_
      refine W_seq ?_
      refine W_regionE (c := 6) (c' := 10) (by kernel_rfl) rfl ?_
      refine Runs_p rfl (Valid.movek (A := Is _) rfl rfl) rfl rfl ?_ -- ref.go:54 move
      refine Runs_p rfl (Valid.movek (A := Sl 1 _ _) rfl rfl) rfl rfl ?_ -- ref.go:54 move
      refine Runs_p rfl (Valid.len rfl Try.underlying22 (Reads.sl rfl)) rfl rfl ?_ -- ref.go:54 call
      refine Runs_p rfl (Valid.lss rfl rfl rfl) rfl rfl ?_ -- ref.go:54 binOp
      refine Runs_nil ?_
      refine thenQ_n ?_
      refine W_cond _ rfl (fun hb2 => ?_) (fun hb2 => ?_)
      · try simp only [decide_eq_true_eq] at hb2
        all_goals (
          refine W_skip ?_
          refine thenQ_n ?_
          refine W_seq ?_
          refine W_block ?_
          refine W_seq ?_
          refine W_regionE (c := 10) (c' := 15) (by kernel_rfl) rfl ?_
          refine Runs_p rfl (Valid.movek (A := Sl 1 _ _) rfl rfl) rfl rfl ?_ -- ref.go:55 move
          refine Runs_p rfl (Valid.movek (A := Is _) rfl rfl) rfl rfl ?_ -- ref.go:55 move
          refine Runs_p rfl (Valid.eltaddr1 0 rfl Try.underlying22 sz3 (Reads.sl rfl) rfl (by first | omega | (simp only [Int.toNat_natCast, toNat_add, toNat_add1, List.length_append, List.length_cons, List.length_nil, List.length_replicate]; omega)) (by first | rfl | simp)) rfl rfl ?_ -- ref.go:55 indexAddr
          refine Runs_p rfl (Valid.loadelt rfl ag3 rfl) rfl rfl ?_ -- ref.go:55 load
          refine Runs_p rfl (Valid.gtr rfl rfl rfl) rfl rfl ?_ -- ref.go:55 binOp
          refine Runs_nil ?_
          refine thenQ_n ?_
          refine W_cond _ rfl (fun hb3 => ?_) (fun hb3 => ?_)
          · try simp only [Int.toNat_natCast, decide_eq_true_eq] at hb3
            all_goals (
              refine W_seq ?_
              refine W_regionE (c := 15) (c' := 17) (by kernel_rfl) rfl ?_
              refine Runs_p rfl (Valid.assignk (A := Is (.slice none 0 0)) rfl rfl) rfl rfl ?_ -- ref.go:56 assign
              refine Runs_p rfl (Valid.assignk (A := Is _) rfl rfl) rfl rfl ?_ -- ref.go:56 assign
              refine Runs_nil ?_
              refine thenQ_n ?_
              refine W_ret ?_
              refine blockQ_r ?_
              refine thenQ_r ?_
              refine loopQ_r ?_
              refine blockQ_r ?_
              refine thenQ_r ?_
              refine finQ_r ?_
              refine ResOk.two rfl (RVal.sl (Reads.nil rfl) rfl (by first | (rw [encV_bad (out_or_t (by assumption))]; done) | (rw [encV_bad (out_or_t (by assumption))]; rfl) | (rw [encV_bad (out_at_t (k := k) (by omega) (by omega))]; done) | (rw [encV_bad (out_at_t (k := k) (by omega) (by omega))]; rfl) | (rw [encV_ok hout, ← hy, enc_end 0 l i (by omega), digs_zero, List.append_nil]; done) | (rw [encV_ok hout, ← hy, enc_end 0 l i (by omega), digs_zero, List.append_nil]; rfl)) (by first | (rw [encV_bad (out_or_t (by assumption))]; done) | (rw [encV_bad (out_or_t (by assumption))]; rfl) | (rw [encV_bad (out_at_t (k := k) (by omega) (by omega))]; done) | (rw [encV_bad (out_at_t (k := k) (by omega) (by omega))]; rfl) | (rw [encV_ok hout, ← hy, enc_end 0 l i (by omega), digs_zero, List.append_nil]; done) | (rw [encV_ok hout, ← hy, enc_end 0 l i (by omega), digs_zero, List.append_nil]; rfl))) (RVal.is rfl rfl (by first | (rw [encV_bad (out_or_t (by assumption))]; done) | (rw [encV_bad (out_or_t (by assumption))]; rfl) | (rw [encV_bad (out_at_t (k := k) (by omega) (by omega))]; done) | (rw [encV_bad (out_at_t (k := k) (by omega) (by omega))]; rfl) | (rw [encV_ok hout, ← hy, enc_end 0 l i (by omega), digs_zero, List.append_nil]; done) | (rw [encV_ok hout, ← hy, enc_end 0 l i (by omega), digs_zero, List.append_nil]; rfl)))
              done)
          · try simp only [Int.toNat_natCast, decide_eq_false_iff_not] at hb3
            all_goals (
              refine W_skip ?_
              refine blockQ_n ?_
              refine thenQ_n ?_
              refine W_regionE (c := 15) (c' := 18) (by kernel_rfl) rfl ?_
              refine Runs_p rfl (Valid.movek (A := Is _) rfl rfl) rfl rfl ?_ -- ref.go:54 move
              refine Runs_p rfl (Valid.add rfl rfl rfl (room64 (by first | omega | (simp only [Int.toNat_natCast, toNat_add, toNat_add1, List.length_append, List.length_cons, List.length_nil, List.length_replicate]; omega)) (by first | omega | (simp only [Int.toNat_natCast, toNat_add, toNat_add1, List.length_append, List.length_cons, List.length_nil, List.length_replicate]; omega)))) rfl rfl ?_ -- ref.go:54 binOp
              refine Runs_p rfl (Valid.assignk (A := Is _) rfl rfl) rfl rfl ?_ -- ref.go:54 assign
              refine Runs_nil ?_
              refine LoopQ.next (k + 1) [] (⟨by omega, any_step _ _ _ 0 (by omega) hk2 (by simp only [decide_eq_false_iff_not]; omega)⟩) (by first | omega | (dsimp only; omega)) ⟨⟨(leq_is rfl rfl (by first | rfl | (simp; done) | omega | (simp [toNat_add, toNat_add1, Nat.add_assoc]; done) | (simp [toNat_add, toNat_add1]; omega))), trivial⟩, ⟨(leq_sl (Reads.sl rfl) rfl rfl rfl), trivial⟩, trivial, trivial, rfl, ⟨supg rfl, trivial⟩, ⟨supg rfl, trivial⟩, trivial, trivial, rfl, rfl⟩
              done)
          done)
      · try simp only [decide_eq_false_iff_not] at hb2
        all_goals (
          refine W_exit ?_
          refine thenQ_e ?_
          refine loopQ_e ?_
          refine blockQ_x ?_
          refine thenQ_n ?_
          refine W_seq ?_
          refine W_regionE (c := 10) (c' := 11) (by kernel_rfl) rfl ?_
          refine Runs_p rfl (Valid.assignk (A := Is (.slice none 0 0)) rfl rfl) rfl rfl ?_ -- ref.go:59 assign
          refine Runs_nil ?_
          refine thenQ_n ?_
          refine W_seq ?_
          refine W_seq ?_
          refine W_regionE (c := 11) (c' := 12) (by kernel_rfl) rfl ?_
          refine Runs_p rfl (Valid.assignk (A := Is _) rfl rfl) rfl rfl ?_ -- ref.go:60 assign
          refine Runs_nil ?_
          refine thenQ_n ?_
          refine W_block ?_
          refine W.ent ?_ (Ent.ownnil 5 3 1 rfl)
          refine W_loopx (G := Nat × List Int) (fun (g_ : Nat × List Int) => match g_ with | ⟨i, ys⟩ => i ≤ l.length ∧ ys ++ enc 0 (l.drop i) = enc 0 l) [(0, Sl 1 _ _)] (fun (g_ : Nat × List Int) => match g_ with | ⟨i, ys⟩ => [(6, Is (.int .i64 (i : Int))), (5, Own 96 1 ys.length (ys.map I64))]) [] (fun (g_ : Nat × List Int) => match g_ with | ⟨i, ys⟩ => [(96, .row 3 1 ys.length (ys.map I64))]) 13 (fun (g_ : Nat × List Int) => match g_ with | ⟨i, ys⟩ => 2 * (l.length - i)) (⟨0, []⟩) [] (⟨by omega, rfl⟩) ⟨⟨(leq_is rfl rfl (by first | rfl | (simp; done) | omega | (simp [toNat_add, toNat_add1, Nat.add_assoc]; done) | (simp [toNat_add, toNat_add1]; omega))), (leq_own rfl rfl rfl (by first | rfl | (simp; done) | omega | (simp [toNat_add, toNat_add1, Nat.add_assoc]; done) | (simp [toNat_add, toNat_add1]; omega)) (by first | rfl | (simp; done) | omega | (simp [toNat_add, toNat_add1, Nat.add_assoc]; done) | (simp [toNat_add, toNat_add1]; omega))), trivial⟩, ⟨(leq_sl (Reads.sl rfl) rfl rfl rfl), trivial⟩, ⟨hp_row rfl (by first | rfl | (simp; done) | omega | (simp [toNat_add, toNat_add1, Nat.add_assoc]; done) | (simp [toNat_add, toNat_add1]; omega)) (by first | rfl | (simp; done) | omega | (simp [toNat_add, toNat_add1, Nat.add_assoc]; done) | (simp [toNat_add, toNat_add1]; omega)), trivial⟩, trivial, rfl, ⟨supg rfl, supg rfl, trivial⟩, ⟨supg rfl, trivial⟩, ⟨suph rfl rfl, trivial⟩, trivial, rfl, rfl⟩ ?_
          intro ⟨i, ys⟩ hI2
          obtain ⟨hi, hy⟩ := hI2
          have hout : outV l 1099511627776 = false := out_f (by assumption) (any_end _ _ k (by omega) hk2)
          have hel := enc_len l 0
          have hle := congrArg List.length hy
          simp only [List.length_append] at hle
          have hev : ∀ k, k < l.length → 0 ≤ l.getD k 0 ∧ l.getD k 0 ≤ 1099511627776 := fun k hk => out_at hout hk
          refine W_seq ?_
          refine W_seq ?_
          refine W_regionE (c := 13) (c' := 17) (by kernel_rfl) rfl ?_
          refine Runs_p rfl (Valid.movek (A := Is _) rfl rfl) rfl rfl ?_ -- ref.go:60 move
          refine Runs_p rfl (Valid.movek (A := Sl 1 _ _) rfl rfl) rfl rfl ?_ -- ref.go:60 move
          refine Runs_p rfl (Valid.len rfl Try.underlying22 (Reads.sl rfl)) rfl rfl ?_ -- ref.go:60 call
          refine Runs_p rfl (Valid.lss rfl rfl rfl) rfl rfl ?_ -- ref.go:60 binOp
          refine Runs_nil ?_
          refine thenQ_n ?_
          refine W_cond _ rfl (fun hb4 => ?_) (fun hb4 => ?_)
          · try simp only [decide_eq_true_eq] at hb4
            all_goals (
              refine W_skip ?_
              refine thenQ_n ?_
              refine W_block ?_
              refine W_seq ?_
              refine W_regionE (c := 17) (c' := 18) (by kernel_rfl) rfl ?_
              refine Runs_p rfl (Valid.assignk (A := Is _) rfl rfl) rfl rfl ?_ -- ref.go:61 assign
              refine Runs_nil ?_
              refine thenQ_n ?_
              refine W_seq ?_
              refine W_block ?_
              refine W_loopx (G := Nat) (fun (n : Nat) => i + n ≤ l.length ∧ enc n (l.drop (i + n)) = enc 0 (l.drop i)) [(0, Sl 1 _ _), (5, Own 96 1 _ _), (6, Is _)] (fun (n : Nat) => [(7, Is (.int .i64 (n : Int)))]) [(96, .row 3 1 _ _)] (fun (n : Nat) => []) 18 (fun (n : Nat) => l.length - n) (0) [] (⟨by omega, rfl⟩) ⟨⟨(leq_is rfl rfl (by first | rfl | (simp; done) | omega | (simp [toNat_add, toNat_add1, Nat.add_assoc]; done) | (simp [toNat_add, toNat_add1]; omega))), trivial⟩, ⟨(leq_sl (Reads.sl rfl) rfl rfl rfl), (leq_own rfl rfl rfl rfl rfl), (leq_is rfl rfl rfl), trivial⟩, trivial, ⟨hp_row rfl rfl rfl, trivial⟩, rfl, ⟨supg rfl, trivial⟩, ⟨supg rfl, supg rfl, supg rfl, trivial⟩, trivial, ⟨suph rfl rfl, trivial⟩, rfl, rfl⟩ ?_
              intro n hI3
              obtain ⟨hn1, hn2⟩ := hI3
              have hdl := digs_len (n : Int) (by omega)
              simp only [Int.toNat_natCast] at hdl
              have hvi := hev (i + n)
              refine W_seq ?_
              refine W_seq ?_
              refine W_regionE (c := 18) (c' := 33) (by kernel_rfl) rfl ?_
              refine Runs_p rfl (Valid.movek (A := Is _) rfl rfl) rfl rfl ?_ -- ref.go:62 move
              refine Runs_p rfl (Valid.movek (A := Is _) rfl rfl) rfl rfl ?_ -- ref.go:62 move
              refine Runs_p rfl (Valid.add rfl rfl rfl (room64 (by first | omega | (simp only [Int.toNat_natCast, toNat_add, toNat_add1, List.length_append, List.length_cons, List.length_nil, List.length_replicate]; omega)) (by first | omega | (simp only [Int.toNat_natCast, toNat_add, toNat_add1, List.length_append, List.length_cons, List.length_nil, List.length_replicate]; omega)))) rfl rfl ?_ -- ref.go:62 binOp
              refine Runs_p rfl (Valid.movek (A := Sl 1 _ _) rfl rfl) rfl rfl ?_ -- ref.go:62 move
              refine Runs_p rfl (Valid.len rfl Try.underlying22 (Reads.sl rfl)) rfl rfl ?_ -- ref.go:62 call
              refine Runs_p rfl (Valid.lss rfl rfl rfl) rfl rfl ?_ -- ref.go:62 binOp
              refine Runs_p rfl (Valid.movek (A := Is _) rfl rfl) rfl rfl ?_ -- ref.go:62 move
              refine Runs_cnd rfl rfl (Grd.is rfl) [] (fun hg => trivial) (fun hg => Valid.movek (A := Sl 1 _ _) rfl rfl) (by rfl) rfl ?_
              refine Runs_cnd rfl rfl (Grd.is rfl) [] (fun hg => trivial) (fun hg => Valid.movek (A := Is _) rfl rfl) (by rfl) rfl ?_
              refine Runs_cnd rfl rfl (Grd.is rfl) [] (fun hg => trivial) (fun hg => Valid.movek (A := Is _) rfl rfl) (by rfl) rfl ?_
              refine Runs_cnd rfl rfl (Grd.is rfl) [(33, _), (34, _)] (fun hg => ⟨cnd_at rfl (by first | exact hg | exact hg.1 | exact hg.1.1 | exact hg.1.1.1), cnd_at rfl (by first | exact hg | exact hg.1 | exact hg.1.1 | exact hg.1.1.1), trivial⟩) (fun hg => Valid.add rfl rfl rfl (room64 (by simp only [decide_eq_true_eq] at hg; first | omega | (simp only [Int.toNat_natCast, toNat_add, toNat_add1, List.length_append, List.length_cons, List.length_nil, List.length_replicate]; omega)) (by simp only [decide_eq_true_eq] at hg; first | omega | (simp only [Int.toNat_natCast, toNat_add, toNat_add1, List.length_append, List.length_cons, List.length_nil, List.length_replicate]; omega)))) (by rfl) rfl ?_
              refine Runs_cnd rfl rfl (Grd.is rfl) [(32, _), (35, _)] (fun hg => ⟨cnd_at rfl (by first | exact hg | exact hg.1 | exact hg.1.1 | exact hg.1.1.1), cnd_at rfl (by first | exact hg | exact hg.1 | exact hg.1.1 | exact hg.1.1.1), trivial⟩) (fun hg => Valid.eltaddr1 0 rfl Try.underlying22 sz3 (Reads.sl rfl) rfl (by simp only [decide_eq_true_eq] at hg; first | omega | (simp only [Int.toNat_natCast, toNat_add, toNat_add1, List.length_append, List.length_cons, List.length_nil, List.length_replicate]; omega)) (by first | rfl | simp)) (by rfl) rfl ?_
              refine Runs_cnd rfl rfl (Grd.is rfl) [(36, _)] (fun hg => ⟨cnd_at rfl (by first | exact hg | exact hg.1 | exact hg.1.1 | exact hg.1.1.1), trivial⟩) (fun hg => Valid.loadelt rfl ag3 rfl) (by rfl) rfl ?_
              refine Runs_cnd rfl rfl (Grd.is rfl) [(37, _)] (fun hg => ⟨cnd_at rfl (by first | exact hg | exact hg.1 | exact hg.1.1 | exact hg.1.1.1), trivial⟩) (fun hg => Valid.eql rfl rfl rfl) (by rfl) rfl ?_
              refine Runs_p rfl (Valid.pickand rfl rfl rfl (fun h => by first | exact h | exact ⟨hg, h⟩) rfl) rfl rfl ?_ -- ref.go:62 pick
              refine Runs_nil ?_
              refine thenQ_n ?_
              refine W_cond _ rfl (fun hb5 => ?_) (fun hb5 => ?_)
              · try simp only [toNat_add, decide_eq_true_eq, Bool.and_eq_true] at hb5
                all_goals (
                  refine W_skip ?_
                  refine thenQ_n ?_
                  refine W_block ?_
                  refine W_regionE (c := 33) (c' := 36) (by kernel_rfl) rfl ?_
                  refine Runs_p rfl (Valid.movek (A := Is _) rfl rfl) rfl rfl ?_ -- ref.go:63 move
                  refine Runs_p rfl (Valid.add rfl rfl rfl (room64 (by first | omega | (simp only [Int.toNat_natCast, toNat_add, toNat_add1, List.length_append, List.length_cons, List.length_nil, List.length_replicate]; omega)) (by first | omega | (simp only [Int.toNat_natCast, toNat_add, toNat_add1, List.length_append, List.length_cons, List.length_nil, List.length_replicate]; omega)))) rfl rfl ?_ -- ref.go:63 binOp
                  refine Runs_p rfl (Valid.assignk (A := Is _) rfl rfl) rfl rfl ?_ -- ref.go:63 assign
                  refine Runs_nil ?_
                  refine blockQ_n ?_
                  refine LoopQ.next (n + 1) [] (⟨by omega, enc_run hn2 (by omega) (by omega)⟩) (by omega) ⟨⟨(leq_is rfl rfl (by first | rfl | (simp; done) | omega | (simp [toNat_add, toNat_add1, Nat.add_assoc]; done) | (simp [toNat_add, toNat_add1]; omega))), trivial⟩, ⟨(leq_sl (Reads.sl rfl) rfl rfl rfl), (leq_own rfl rfl rfl rfl rfl), (leq_is rfl rfl rfl), trivial⟩, trivial, ⟨hp_row rfl rfl rfl, trivial⟩, rfl, ⟨supg rfl, trivial⟩, ⟨supg rfl, supg rfl, supg rfl, trivial⟩, trivial, ⟨suph rfl rfl, trivial⟩, rfl, rfl⟩
                  done)
              · try simp only [toNat_add, decide_eq_false_iff_not, Bool.and_eq_false_iff] at hb5
                all_goals (
                  refine W_exit ?_
                  refine thenQ_e ?_
                  refine loopQ_e ?_
                  refine blockQ_x ?_
                  refine thenQ_n ?_
                  refine W_seq ?_
                  refine W_regionE (c := 33) (c' := 38) (by kernel_rfl) rfl ?_
                  refine Runs_p rfl (Valid.movek (A := Own 96 1 _ _) rfl rfl) rfl rfl ?_ -- ref.go:65 move
                  refine Runs_p rfl (Valid.movek (A := Is _) rfl rfl) rfl rfl ?_ -- ref.go:65 move
                  refine Runs_p rfl (Valid.call rfl (digitsr_s _ (by omega)) ⟨argle rfl, trivial⟩) rfl rfl ?_ -- ref.go:65 call
                  refine Runs_w rfl (Valid.app rfl Try.underlying22 ti3 (by decide) rfl rfl (Reads.sl rfl) (by first | exact one_map (fun _ => rfl) | exact one_cons rfl one_nil | exact one_app (one_map (fun _ => rfl)) (one_cons rfl one_nil) | exact one_app (one_map (fun _ => rfl)) (one_map (fun _ => rfl)) | exact one_rep rfl | exact one_app (one_rep rfl) (one_map (fun _ => rfl)) | (intro u hu; simp at hu; rcases hu with rfl | hu <;> first | rfl | (subst hu; rfl))) (by first | (simp only [maxLen]; omega) | (simp only [maxLen, Int.toNat_natCast]; omega)) (by first | omega | (simp only [Int.toNat_natCast]; omega))) rfl rfl ?_ -- ref.go:65 call
                  refine Runs_p rfl (Valid.assignk (A := Own 288 1 _ _) rfl rfl) rfl rfl ?_ -- ref.go:65 assign
                  refine Runs_nil ?_
                  refine thenQ_n ?_
                  refine W_seq ?_
                  refine W_regionE (c := 38) (c' := 42) (by kernel_rfl) rfl ?_
                  refine Runs_p rfl (Valid.movek (A := Is _) rfl rfl) rfl rfl ?_ -- ref.go:66 move
                  refine Runs_p rfl (Valid.movek (A := Is _) rfl rfl) rfl rfl ?_ -- ref.go:66 move
                  refine Runs_p rfl (Valid.add rfl rfl rfl (room64 (by first | omega | (simp only [Int.toNat_natCast, toNat_add, toNat_add1, List.length_append, List.length_cons, List.length_nil, List.length_replicate]; omega)) (by first | omega | (simp only [Int.toNat_natCast, toNat_add, toNat_add1, List.length_append, List.length_cons, List.length_nil, List.length_replicate]; omega)))) rfl rfl ?_ -- ref.go:66 binOp
                  refine Runs_p rfl (Valid.assignk (A := Is _) rfl rfl) rfl rfl ?_ -- ref.go:66 assign
                  refine Runs_nil ?_
                  refine thenQ_n ?_
                  refine W_seq ?_
                  refine W_regionE (c := 42) (c' := 44) (by kernel_rfl) rfl ?_
                  refine Runs_p rfl (Valid.movek (A := Is _) rfl rfl) rfl rfl ?_ -- ref.go:67 move
                  refine Runs_p rfl (Valid.eql rfl rfl rfl) rfl rfl ?_ -- ref.go:67 binOp
                  refine Runs_nil ?_
                  refine thenQ_n ?_
                  refine W_cond _ rfl (fun hb6 => ?_) (fun hb6 => ?_)
                  · try simp only [decide_eq_true_eq] at hb6
                    all_goals (
                      refine W_seq ?_
                      refine W_regionE (c := 44) (c' := 53) (by kernel_rfl) rfl ?_
                      refine Runs_p rfl (Valid.movek (A := Own 288 1 _ _) rfl rfl) rfl rfl ?_ -- ref.go:68 move
                      refine Runs_p rfl (Valid.movek (A := Sl 1 _ _) rfl rfl) rfl rfl ?_ -- ref.go:68 move
                      refine Runs_p rfl (Valid.movek (A := Is _) rfl rfl) rfl rfl ?_ -- ref.go:68 move
                      refine Runs_p rfl (Valid.eltaddr1 0 rfl Try.underlying22 sz3 (Reads.sl rfl) rfl (by first | omega | (simp only [Int.toNat_natCast, toNat_add, toNat_add1, List.length_append, List.length_cons, List.length_nil, List.length_replicate]; omega)) (by first | rfl | simp)) rfl rfl ?_ -- ref.go:68 indexAddr
                      refine Runs_p rfl (Valid.loadelt rfl ag3 rfl) rfl rfl ?_ -- ref.go:68 load
                      refine Runs_p rfl (Valid.add rfl rfl rfl (room64 (by first | omega | (simp only [toNat_add]; omega)) (by first | omega | (simp only [toNat_add]; omega)))) rfl rfl ?_ -- ref.go:68 binOp
                      refine Runs_p rfl (Valid.lit (el := 3) [_] rfl rfl (fun _ => by kernel_rfl) rfl (by decide)) rfl rfl ?_ -- ref.go:68 buildSlice
                      refine Runs_w rfl (Valid.app rfl Try.underlying22 ti3 (by decide) rfl rfl (Reads.sl rfl) (by first | exact one_map (fun _ => rfl) | exact one_cons rfl one_nil | exact one_app (one_map (fun _ => rfl)) (one_cons rfl one_nil) | exact one_app (one_map (fun _ => rfl)) (one_map (fun _ => rfl)) | exact one_rep rfl | exact one_app (one_rep rfl) (one_map (fun _ => rfl)) | (intro u hu; simp at hu; rcases hu with rfl | hu <;> first | rfl | (subst hu; rfl))) (by first | (simp only [maxLen]; omega) | (simp only [maxLen, Int.toNat_natCast]; omega)) (by first | omega | (simp only [Int.toNat_natCast]; omega))) rfl rfl ?_ -- ref.go:68 call
                      refine Runs_p rfl (Valid.assignk (A := Own 408 1 _ _) rfl rfl) rfl rfl ?_ -- ref.go:68 assign
                      refine Runs_nil ?_
                      refine thenQ_n ?_
                      refine W_regionE (c := 53) (c' := 56) (by kernel_rfl) rfl ?_
                      refine Runs_p rfl (Valid.movek (A := Is _) rfl rfl) rfl rfl ?_ -- ref.go:69 move
                      refine Runs_p rfl (Valid.add rfl rfl rfl (room64 (by first | omega | (simp only [Int.toNat_natCast, toNat_add, toNat_add1, List.length_append, List.length_cons, List.length_nil, List.length_replicate]; omega)) (by first | omega | (simp only [Int.toNat_natCast, toNat_add, toNat_add1, List.length_append, List.length_cons, List.length_nil, List.length_replicate]; omega)))) rfl rfl ?_ -- ref.go:69 binOp
                      refine Runs_p rfl (Valid.assignk (A := Is _) rfl rfl) rfl rfl ?_ -- ref.go:69 assign
                      refine Runs_nil ?_
                      refine blockQ_n ?_
                      refine LoopQ.next (⟨i + n + 1, ys ++ digs n ++ [l.getD (i + n) 0 + 1]⟩) [(96, 408)] (⟨by omega, by first | (rw [← hy, ← hn2, enc_cons n l (i + n) (by omega) (by omega)]; simp; done) | (rw [← hy, ← hn2, enc_split n l (i + n) (by omega)]; simp; done)⟩) (by dsimp only; omega) ⟨⟨(leq_is rfl rfl (by first | rfl | (simp; done) | omega | (simp [toNat_add, toNat_add1, Nat.add_assoc]; done) | (simp [toNat_add, toNat_add1]; omega))), (leq_own rfl rfl rfl (by first | rfl | (simp; done) | omega | (simp [Nat.add_assoc]; done) | (simp [toNat_add, toNat_add1]; omega)) (by first | rfl | (simp; done) | omega | (simp [toNat_add]; done) | (simp [toNat_add, toNat_add1]; omega))), trivial⟩, ⟨(leq_sl (Reads.sl rfl) rfl rfl rfl), trivial⟩, ⟨hp_row rfl (by first | rfl | (simp; done) | omega | (simp [Nat.add_assoc]; done) | (simp [toNat_add, toNat_add1]; omega)) (by first | rfl | (simp; done) | omega | (simp [toNat_add]; done) | (simp [toNat_add, toNat_add1]; omega)), trivial⟩, trivial, rfl, ⟨supg rfl, supg rfl, trivial⟩, ⟨supg rfl, trivial⟩, ⟨suph rfl rfl, trivial⟩, trivial, rfl, rfl⟩
                      done)
                  · try simp only [decide_eq_false_iff_not] at hb6
                    all_goals (
                      refine W_skip ?_
                      refine blockQ_n ?_
                      refine LoopQ.next (⟨i + n, ys ++ digs n⟩) [(96, 288)] (⟨by omega, by first | (rw [← hy, ← hn2, enc_cons n l (i + n) (by omega) (by omega)]; simp; done) | (rw [← hy, ← hn2, enc_split n l (i + n) (by omega)]; simp; done)⟩) (by dsimp only; omega) ⟨⟨(leq_is rfl rfl (by first | rfl | (simp; done) | omega | (simp [toNat_add, toNat_add1, Nat.add_assoc]; done) | (simp [toNat_add, toNat_add1]; omega))), (leq_own rfl rfl rfl (by first | rfl | (simp; done) | omega | (simp [toNat_add, toNat_add1, Nat.add_assoc]; done) | (simp [toNat_add, toNat_add1]; omega)) (by first | rfl | (simp; done) | omega | (simp [toNat_add, toNat_add1, Nat.add_assoc]; done) | (simp [toNat_add, toNat_add1]; omega))), trivial⟩, ⟨(leq_sl (Reads.sl rfl) rfl rfl rfl), trivial⟩, ⟨hp_row rfl (by first | rfl | (simp; done) | omega | (simp [toNat_add, toNat_add1, Nat.add_assoc]; done) | (simp [toNat_add, toNat_add1]; omega)) (by first | rfl | (simp; done) | omega | (simp [toNat_add, toNat_add1, Nat.add_assoc]; done) | (simp [toNat_add, toNat_add1]; omega)), trivial⟩, trivial, rfl, ⟨supg rfl, supg rfl, trivial⟩, ⟨supg rfl, trivial⟩, ⟨suph rfl rfl, trivial⟩, trivial, rfl, rfl⟩
                      done)
                  done)
              done)
          · try simp only [decide_eq_false_iff_not] at hb4
            all_goals (
              refine W_exit ?_
              refine thenQ_e ?_
              refine loopQ_e ?_
              refine blockQ_x ?_
              refine thenQ_n ?_
              refine W_seq ?_
              refine W_regionE (c := 17) (c' := 20) (by kernel_rfl) rfl ?_
              refine Runs_p rfl (Valid.movek (A := Own 96 1 _ _) rfl rfl) rfl rfl ?_ -- ref.go:72 move
              refine Runs_p rfl (Valid.assignk (A := Own 96 1 _ _) rfl rfl) rfl rfl ?_ -- ref.go:72 assign
              refine Runs_p rfl (Valid.assignk (A := Is _) rfl rfl) rfl rfl ?_ -- ref.go:72 assign
              refine Runs_nil ?_
              refine thenQ_n ?_
              refine W_ret ?_
              refine finQ_r ?_
              refine ResOk.two rfl (RVal.sl (Reads.own rfl) rfl (by first | (rw [encV_bad (out_or_t (by assumption))]; done) | (rw [encV_bad (out_or_t (by assumption))]; rfl) | (rw [encV_bad (out_at_t (k := k) (by omega) (by omega))]; done) | (rw [encV_bad (out_at_t (k := k) (by omega) (by omega))]; rfl) | (rw [encV_ok hout, ← hy, enc_end 0 l i (by omega), digs_zero, List.append_nil]; done) | (rw [encV_ok hout, ← hy, enc_end 0 l i (by omega), digs_zero, List.append_nil]; rfl)) (by first | (rw [encV_bad (out_or_t (by assumption))]; done) | (rw [encV_bad (out_or_t (by assumption))]; rfl) | (rw [encV_bad (out_at_t (k := k) (by omega) (by omega))]; done) | (rw [encV_bad (out_at_t (k := k) (by omega) (by omega))]; rfl) | (rw [encV_ok hout, ← hy, enc_end 0 l i (by omega), digs_zero, List.append_nil]; done) | (rw [encV_ok hout, ← hy, enc_end 0 l i (by omega), digs_zero, List.append_nil]; rfl))) (RVal.is rfl rfl (by first | (rw [encV_bad (out_or_t (by assumption))]; done) | (rw [encV_bad (out_or_t (by assumption))]; rfl) | (rw [encV_bad (out_at_t (k := k) (by omega) (by omega))]; done) | (rw [encV_bad (out_at_t (k := k) (by omega) (by omega))]; rfl) | (rw [encV_ok hout, ← hy, enc_end 0 l i (by omega), digs_zero, List.append_nil]; done) | (rw [encV_ok hout, ← hy, enc_end 0 l i (by omega), digs_zero, List.append_nil]; rfl)))
              done)
          done)
      done)

set_option maxRecDepth 100000 in
set_option maxHeartbeats 1000000 in
theorem decr_s (m : List Int) (most : Int) (hl : m.length ≤ 100000000000) (hm : In64 m) (h1 : -9223372036854775808 ≤ most) (h2 : most ≤ 100000000000) :
    FPure Try.prog 20 [Sl 1 m.length (m.map (Value.int .i64)), Is (.int .i64 most)] (Tup [Sl 1 (decV m most).1.length ((decV m most).1.map (Value.int .i64)), Is (.int .i64 (decV m most).2)]) := by
  refine FPure.of Try.func20 Try.ntmps20 rfl (by kernel_rfl) rfl rfl rfl ?_
  refine W_seq ?_
  refine W_regionE (c := 1) (c' := 3) (by kernel_rfl) rfl ?_
  refine Runs_p rfl (Valid.assignk (A := Is (.slice none 0 0)) rfl rfl) rfl rfl ?_ -- ref.go:76 assign
  refine Runs_p rfl (Valid.assignk (A := Is _) rfl rfl) rfl rfl ?_ -- ref.go:76 assign
  refine Runs_nil ?_
  refine thenQ_n ?_
  refine W_seq ?_
  refine W_seq ?_
  refine W_regionE (c := 3) (c' := 5) (by kernel_rfl) rfl ?_
  refine Runs_p rfl (Valid.movek (A := Sl 1 _ _) rfl rfl) rfl rfl ?_ -- ref.go:77 move
  refine Runs_p rfl (Valid.call rfl (below_s _ (by omega)) ⟨argle_sl (Reads.sl rfl), trivial⟩) rfl rfl ?_ -- ref.go:77 call
  refine Runs_nil ?_
  refine thenQ_n ?_
  refine W_cond _ rfl (fun hb1 => ?_) (fun hb1 => ?_)
  · try simp only [Int.toNat_natCast, toNat_add, toNat_add1, decide_eq_true_eq, decide_eq_false_iff_not, Bool.and_eq_true, Bool.or_eq_true, Bool.and_eq_false_iff, Bool.or_eq_false_iff, Bool.not_eq_true', Bool.not_eq_false', Bool.true_eq_false, Bool.false_eq_true, not_true_eq_false, not_false_eq_true, ne_eq] at hb1
    all_goals (
      refine W_seq ?_
      refine W_regionE (c := 5) (c' := 7) (by kernel_rfl) rfl ?_
      refine Runs_p rfl (Valid.assignk (A := Is (.slice none 0 0)) rfl rfl) rfl rfl ?_ -- ref.go:78 assign
      refine Runs_p rfl (Valid.assignk (A := Is _) rfl rfl) rfl rfl ?_ -- ref.go:78 assign
      refine Runs_nil ?_
      refine thenQ_n ?_
      refine W_ret ?_
      refine thenQ_r ?_
      refine finQ_r ?_
      refine ResOk.two rfl (RVal.sl (Reads.nil rfl) rfl (by first | (rw [decV_bad (by assumption)]; done) | (rw [decV_bad (by assumption)]; rfl) | (rw [decV_no hneg (by rw [← hy, List.drop_of_length_le (by omega), decR_nil]; simp [fitsO]; omega)]; done) | (rw [decV_no hneg (by rw [← hy, List.drop_of_length_le (by omega), decR_nil]; simp [fitsO]; omega)]; rfl) | (rw [decV_ok (o := ys) hneg (by rw [← hy, List.drop_of_length_le (by omega), decR_nil]; simp) (by omega)]; done) | (rw [decV_ok (o := ys) hneg (by rw [← hy, List.drop_of_length_le (by omega), decR_nil]; simp) (by omega)]; rfl) | (rcases Decidable.em ((numR ((m.drop i).takeWhile lowP)).2 = 0) with h0 | h0 <;> first | (rw [decV_no hneg (by rw [← hy, dec_run (m := m) (f := i) h0, map_map_app]; exact fits_map (by simp; omega))]; done) | (rw [decV_no hneg (by rw [← hy, decR_bad (m.drop i) h0]; rfl)]; done) | (rw [decV_no hneg (by rw [← hy, dec_run (m := m) (f := i) h0, map_map_app]; exact fits_map (by simp; omega))]; rfl) | (rw [decV_no hneg (by rw [← hy, decR_bad (m.drop i) h0]; rfl)]; rfl))) (by first | (rw [decV_bad (by assumption)]; done) | (rw [decV_bad (by assumption)]; rfl) | (rw [decV_no hneg (by rw [← hy, List.drop_of_length_le (by omega), decR_nil]; simp [fitsO]; omega)]; done) | (rw [decV_no hneg (by rw [← hy, List.drop_of_length_le (by omega), decR_nil]; simp [fitsO]; omega)]; rfl) | (rw [decV_ok (o := ys) hneg (by rw [← hy, List.drop_of_length_le (by omega), decR_nil]; simp) (by omega)]; done) | (rw [decV_ok (o := ys) hneg (by rw [← hy, List.drop_of_length_le (by omega), decR_nil]; simp) (by omega)]; rfl) | (rcases Decidable.em ((numR ((m.drop i).takeWhile lowP)).2 = 0) with h0 | h0 <;> first | (rw [decV_no hneg (by rw [← hy, dec_run (m := m) (f := i) h0, map_map_app]; exact fits_map (by simp; omega))]; done) | (rw [decV_no hneg (by rw [← hy, decR_bad (m.drop i) h0]; rfl)]; done) | (rw [decV_no hneg (by rw [← hy, dec_run (m := m) (f := i) h0, map_map_app]; exact fits_map (by simp; omega))]; rfl) | (rw [decV_no hneg (by rw [← hy, decR_bad (m.drop i) h0]; rfl)]; rfl)))) (RVal.is rfl rfl (by first | (rw [decV_bad (by assumption)]; done) | (rw [decV_bad (by assumption)]; rfl) | (rw [decV_no hneg (by rw [← hy, List.drop_of_length_le (by omega), decR_nil]; simp [fitsO]; omega)]; done) | (rw [decV_no hneg (by rw [← hy, List.drop_of_length_le (by omega), decR_nil]; simp [fitsO]; omega)]; rfl) | (rw [decV_ok (o := ys) hneg (by rw [← hy, List.drop_of_length_le (by omega), decR_nil]; simp) (by omega)]; done) | (rw [decV_ok (o := ys) hneg (by rw [← hy, List.drop_of_length_le (by omega), decR_nil]; simp) (by omega)]; rfl) | (rcases Decidable.em ((numR ((m.drop i).takeWhile lowP)).2 = 0) with h0 | h0 <;> first | (rw [decV_no hneg (by rw [← hy, dec_run (m := m) (f := i) h0, map_map_app]; exact fits_map (by simp; omega))]; done) | (rw [decV_no hneg (by rw [← hy, decR_bad (m.drop i) h0]; rfl)]; done) | (rw [decV_no hneg (by rw [← hy, dec_run (m := m) (f := i) h0, map_map_app]; exact fits_map (by simp; omega))]; rfl) | (rw [decV_no hneg (by rw [← hy, decR_bad (m.drop i) h0]; rfl)]; rfl))))
      done)
  · try simp only [Int.toNat_natCast, toNat_add, toNat_add1, decide_eq_true_eq, decide_eq_false_iff_not, Bool.and_eq_true, Bool.or_eq_true, Bool.and_eq_false_iff, Bool.or_eq_false_iff, Bool.not_eq_true', Bool.not_eq_false', Bool.true_eq_false, Bool.false_eq_true, not_true_eq_false, not_false_eq_true, ne_eq] at hb1
    all_goals (
      refine W_skip ?_
      refine thenQ_n ?_
      refine W_seq ?_
      refine W_regionE (c := 5) (c' := 6) (by kernel_rfl) rfl ?_
      refine Runs_p rfl (Valid.assignk (A := Is (.slice none 0 0)) rfl rfl) rfl rfl ?_ -- ref.go:80 assign
      refine Runs_nil ?_
      refine thenQ_n ?_
      refine W_seq ?_
      refine W_seq ?_
      refine W_regionE (c := 6) (c' := 7) (by kernel_rfl) rfl ?_
      refine Runs_p rfl (Valid.assignk (A := Is _) rfl rfl) rfl rfl ?_ -- ref.go:81 assign
      refine Runs_nil ?_
      refine thenQ_n ?_
      refine W_block ?_
      refine W.ent ?_ (Ent.ownnil 6 3 1 rfl)
      refine W_loopx (G := Nat × List Int) (fun (g_ : Nat × List Int) => match g_ with | ⟨i, ys⟩ => i ≤ m.length ∧ (decR (m.drop i)).map (ys ++ ·) = decR m ∧ ys.length ≤ most.toNat + i) [(0, Sl 1 _ _), (1, Is _)] (fun (g_ : Nat × List Int) => match g_ with | ⟨i, ys⟩ => [(7, Is (.int .i64 (i : Int))), (6, Own 56 1 ys.length (ys.map I64))]) [] (fun (g_ : Nat × List Int) => match g_ with | ⟨i, ys⟩ => [(56, .row 3 1 ys.length (ys.map I64))]) 8 (fun (g_ : Nat × List Int) => match g_ with | ⟨i, ys⟩ => m.length - i) (⟨0, []⟩) [] (⟨by omega, by simp, by simp⟩) ⟨⟨(leq_is rfl rfl (by first | rfl | (simp; done) | omega | (simp [toNat_add, toNat_add1, Nat.add_assoc]; done) | (simp [toNat_add, toNat_add1]; omega))), (leq_own rfl rfl rfl (by first | rfl | (simp; done) | omega | (simp [toNat_add, toNat_add1, Nat.add_assoc]; done) | (simp [toNat_add, toNat_add1]; omega)) (by first | rfl | (simp; done) | omega | (simp [toNat_add, toNat_add1, Nat.add_assoc]; done) | (simp [toNat_add, toNat_add1]; omega))), trivial⟩, ⟨(leq_sl (Reads.sl rfl) rfl rfl rfl), (leq_is rfl rfl rfl), trivial⟩, ⟨hp_row rfl (by first | rfl | (simp; done) | omega | (simp [toNat_add, toNat_add1, Nat.add_assoc]; done) | (simp [toNat_add, toNat_add1]; omega)) (by first | rfl | (simp; done) | omega | (simp [toNat_add, toNat_add1, Nat.add_assoc]; done) | (simp [toNat_add, toNat_add1]; omega)), trivial⟩, trivial, rfl, ⟨supg rfl, supg rfl, trivial⟩, ⟨supg rfl, supg rfl, trivial⟩, ⟨suph rfl rfl, trivial⟩, trivial, rfl, rfl⟩ ?_
      intro ⟨i, ys⟩ hI1
      obtain ⟨hi, hy, hlen⟩ := hI1
      have hneg : m.any (fun x => decide (x < 0)) = false := by assumption
      have hnr := numR_range ((m.drop i).takeWhile lowP)
      refine W_seq ?_
      refine W_seq ?_
      refine W_regionE (c := 8) (c' := 12) (by kernel_rfl) rfl ?_
      refine Runs_p rfl (Valid.movek (A := Is _) rfl rfl) rfl rfl ?_ -- ref.go:81 move
      refine Runs_p rfl (Valid.movek (A := Sl 1 _ _) rfl rfl) rfl rfl ?_ -- ref.go:81 move
      refine Runs_p rfl (Valid.len rfl Try.underlying22 (Reads.sl rfl)) rfl rfl ?_ -- ref.go:81 call
      refine Runs_p rfl (Valid.lss rfl rfl rfl) rfl rfl ?_ -- ref.go:81 binOp
      refine Runs_nil ?_
      refine thenQ_n ?_
      refine W_cond _ rfl (fun hb2 => ?_) (fun hb2 => ?_)
      · try simp only [decide_eq_true_eq] at hb2
        all_goals (
          refine W_skip ?_
          refine thenQ_n ?_
          refine W_block ?_
          refine W_seq ?_
          refine W_regionE (c := 12) (c' := 13) (by kernel_rfl) rfl ?_
          refine Runs_p rfl (Valid.assignk (A := Is _) rfl rfl) rfl rfl ?_ -- ref.go:82 assign
          refine Runs_nil ?_
          refine thenQ_n ?_
          refine W_seq ?_
          refine W_block ?_
          refine W_loopx (G := Nat) (fun (n : Nat) => i + n ≤ m.length ∧ runE m (i + n) = runE m i) [(0, Sl 1 _ _), (1, Is _), (6, Own 56 1 _ _), (7, Is _)] (fun (n : Nat) => [(8, Is (.int .i64 (n : Int)))]) [(56, .row 3 1 _ _)] (fun (n : Nat) => []) 13 (fun (n : Nat) => m.length - n) (0) [] (⟨by omega, rfl⟩) ⟨⟨(leq_is rfl rfl (by first | rfl | (simp; done) | omega | (simp [toNat_add, toNat_add1, Nat.add_assoc]; done) | (simp [toNat_add, toNat_add1]; omega))), trivial⟩, ⟨(leq_sl (Reads.sl rfl) rfl rfl rfl), (leq_is rfl rfl rfl), (leq_own rfl rfl rfl rfl rfl), (leq_is rfl rfl rfl), trivial⟩, trivial, ⟨hp_row rfl rfl rfl, trivial⟩, rfl, ⟨supg rfl, trivial⟩, ⟨supg rfl, supg rfl, supg rfl, supg rfl, trivial⟩, trivial, ⟨suph rfl rfl, trivial⟩, rfl, rfl⟩ ?_
          intro n hI2
          obtain ⟨hn1, hn2⟩ := hI2
          have hz : n = 0 → m.getD (i + n) 0 = m.getD i 0 := fun h => by subst h; rfl
          have him := hm.at_ i
          refine W_seq ?_
          refine W_seq ?_
          refine W_regionE (c := 13) (c' := 28) (by kernel_rfl) rfl ?_
          refine Runs_p rfl (Valid.movek (A := Is _) rfl rfl) rfl rfl ?_ -- ref.go:83 move
          refine Runs_p rfl (Valid.movek (A := Is _) rfl rfl) rfl rfl ?_ -- ref.go:83 move
          refine Runs_p rfl (Valid.add rfl rfl rfl (room64 (by first | omega | (simp only [Int.toNat_natCast, toNat_add, toNat_add1, List.length_append, List.length_cons, List.length_nil, List.length_replicate]; omega)) (by first | omega | (simp only [Int.toNat_natCast, toNat_add, toNat_add1, List.length_append, List.length_cons, List.length_nil, List.length_replicate]; omega)))) rfl rfl ?_ -- ref.go:83 binOp
          refine Runs_p rfl (Valid.movek (A := Sl 1 _ _) rfl rfl) rfl rfl ?_ -- ref.go:83 move
          refine Runs_p rfl (Valid.len rfl Try.underlying22 (Reads.sl rfl)) rfl rfl ?_ -- ref.go:83 call
          refine Runs_p rfl (Valid.lss rfl rfl rfl) rfl rfl ?_ -- ref.go:83 binOp
          refine Runs_p rfl (Valid.movek (A := Is _) rfl rfl) rfl rfl ?_ -- ref.go:83 move
          refine Runs_cnd rfl rfl (Grd.is rfl) [] (fun hg => trivial) (fun hg => Valid.movek (A := Sl 1 _ _) rfl rfl) (by rfl) rfl ?_
          refine Runs_cnd rfl rfl (Grd.is rfl) [] (fun hg => trivial) (fun hg => Valid.movek (A := Is _) rfl rfl) (by rfl) rfl ?_
          refine Runs_cnd rfl rfl (Grd.is rfl) [] (fun hg => trivial) (fun hg => Valid.movek (A := Is _) rfl rfl) (by rfl) rfl ?_
          refine Runs_cnd rfl rfl (Grd.is rfl) [(26, _), (27, _)] (fun hg => ⟨cnd_at rfl (by first | exact hg | exact hg.1 | exact hg.1.1 | exact hg.1.1.1), cnd_at rfl (by first | exact hg | exact hg.1 | exact hg.1.1 | exact hg.1.1.1), trivial⟩) (fun hg => Valid.add rfl rfl rfl (room64 (by simp only [decide_eq_true_eq] at hg; first | omega | (simp only [Int.toNat_natCast, toNat_add, toNat_add1, List.length_append, List.length_cons, List.length_nil, List.length_replicate]; omega)) (by simp only [decide_eq_true_eq] at hg; first | omega | (simp only [Int.toNat_natCast, toNat_add, toNat_add1, List.length_append, List.length_cons, List.length_nil, List.length_replicate]; omega)))) (by rfl) rfl ?_
          refine Runs_cnd rfl rfl (Grd.is rfl) [(25, _), (28, _)] (fun hg => ⟨cnd_at rfl (by first | exact hg | exact hg.1 | exact hg.1.1 | exact hg.1.1.1), cnd_at rfl (by first | exact hg | exact hg.1 | exact hg.1.1 | exact hg.1.1.1), trivial⟩) (fun hg => Valid.eltaddr1 0 rfl Try.underlying22 sz3 (Reads.sl rfl) rfl (by simp only [decide_eq_true_eq] at hg; first | omega | (simp only [Int.toNat_natCast, toNat_add, toNat_add1, List.length_append, List.length_cons, List.length_nil, List.length_replicate]; omega)) (by first | rfl | simp)) (by rfl) rfl ?_
          refine Runs_cnd rfl rfl (Grd.is rfl) [(29, _)] (fun hg => ⟨cnd_at rfl (by first | exact hg | exact hg.1 | exact hg.1.1 | exact hg.1.1.1), trivial⟩) (fun hg => Valid.loadelt rfl ag3 rfl) (by rfl) rfl ?_
          refine Runs_cnd rfl rfl (Grd.is rfl) [(30, _)] (fun hg => ⟨cnd_at rfl (by first | exact hg | exact hg.1 | exact hg.1.1 | exact hg.1.1.1), trivial⟩) (fun hg => Valid.lss rfl rfl rfl) (by rfl) rfl ?_
          refine Runs_p rfl (Valid.pickand rfl rfl rfl (fun h => by first | exact h | exact ⟨hg, h⟩) rfl) rfl rfl ?_ -- ref.go:83 pick
          refine Runs_nil ?_
          refine thenQ_n ?_
          refine W_cond _ rfl (fun hb3 => ?_) (fun hb3 => ?_)
          · try simp only [toNat_add, decide_eq_true_eq, Bool.and_eq_true] at hb3
            all_goals (
              refine W_skip ?_
              refine thenQ_n ?_
              refine W_block ?_
              refine W_regionE (c := 28) (c' := 31) (by kernel_rfl) rfl ?_
              refine Runs_p rfl (Valid.movek (A := Is _) rfl rfl) rfl rfl ?_ -- ref.go:84 move
              refine Runs_p rfl (Valid.add rfl rfl rfl (room64 (by first | omega | (simp only [Int.toNat_natCast, toNat_add, toNat_add1, List.length_append, List.length_cons, List.length_nil, List.length_replicate]; omega)) (by first | omega | (simp only [Int.toNat_natCast, toNat_add, toNat_add1, List.length_append, List.length_cons, List.length_nil, List.length_replicate]; omega)))) rfl rfl ?_ -- ref.go:84 binOp
              refine Runs_p rfl (Valid.assignk (A := Is _) rfl rfl) rfl rfl ?_ -- ref.go:84 assign
              refine Runs_nil ?_
              refine blockQ_n ?_
              refine LoopQ.next (n + 1) [] (⟨by omega, by rw [show i + (n + 1) = i + n + 1 by omega, runE_step m (i + n) (by omega) (by omega)]; exact hn2⟩) (by omega) ⟨⟨(leq_is rfl rfl (by first | rfl | (simp; done) | omega | (simp [toNat_add, toNat_add1, Nat.add_assoc]; done) | (simp [toNat_add, toNat_add1]; omega))), trivial⟩, ⟨(leq_sl (Reads.sl rfl) rfl rfl rfl), (leq_is rfl rfl rfl), (leq_own rfl rfl rfl rfl rfl), (leq_is rfl rfl rfl), trivial⟩, trivial, ⟨hp_row rfl rfl rfl, trivial⟩, rfl, ⟨supg rfl, trivial⟩, ⟨supg rfl, supg rfl, supg rfl, supg rfl, trivial⟩, trivial, ⟨suph rfl rfl, trivial⟩, rfl, rfl⟩
              done)
          · try simp only [toNat_add, decide_eq_false_iff_not, Bool.and_eq_false_iff] at hb3
            all_goals (
              refine W_exit ?_
              refine thenQ_e ?_
              refine loopQ_e ?_
              refine blockQ_x ?_
              refine thenQ_n ?_
              refine W_seq ?_
              refine W_seq ?_
              refine W_regionE (c := 28) (c' := 30) (by kernel_rfl) rfl ?_
              refine Runs_p rfl (Valid.movek (A := Is _) rfl rfl) rfl rfl ?_ -- ref.go:86 move
              refine Runs_p rfl (Valid.eql rfl rfl rfl) rfl rfl ?_ -- ref.go:86 binOp
              refine Runs_nil ?_
              refine thenQ_n ?_
              refine W_cond _ rfl (fun hb4 => ?_) (fun hb4 => ?_)
              · try simp only [decide_eq_true_eq] at hb4
                all_goals (
                  refine W_seq ?_
                  refine W_regionE (c := 30) (c' := 39) (by kernel_rfl) rfl ?_
                  refine Runs_p rfl (Valid.movek (A := Own 56 1 _ _) rfl rfl) rfl rfl ?_ -- ref.go:87 move
                  refine Runs_p rfl (Valid.movek (A := Sl 1 _ _) rfl rfl) rfl rfl ?_ -- ref.go:87 move
                  refine Runs_p rfl (Valid.movek (A := Is _) rfl rfl) rfl rfl ?_ -- ref.go:87 move
                  refine Runs_p rfl (Valid.eltaddr1 0 rfl Try.underlying22 sz3 (Reads.sl rfl) rfl (by first | omega | (simp only [Int.toNat_natCast, toNat_add, toNat_add1, List.length_append, List.length_cons, List.length_nil, List.length_replicate]; omega)) (by first | rfl | simp)) rfl rfl ?_ -- ref.go:87 indexAddr
                  refine Runs_p rfl (Valid.loadelt rfl ag3 rfl) rfl rfl ?_ -- ref.go:87 load
                  refine Runs_p rfl (Valid.sub rfl rfl rfl (room64 (by first | omega | (simp only [Int.toNat_natCast]; omega)) (by first | omega | (simp only [Int.toNat_natCast]; omega)))) rfl rfl ?_ -- ref.go:87 binOp
                  refine Runs_p rfl (Valid.lit (el := 3) [_] rfl rfl (fun _ => by kernel_rfl) rfl (by decide)) rfl rfl ?_ -- ref.go:87 buildSlice
                  refine Runs_w rfl (Valid.app rfl Try.underlying22 ti3 (by decide) rfl rfl (Reads.sl rfl) (by first | exact one_map (fun _ => rfl) | exact one_cons rfl one_nil | exact one_app (one_map (fun _ => rfl)) (one_cons rfl one_nil) | exact one_app (one_map (fun _ => rfl)) (one_map (fun _ => rfl)) | exact one_rep rfl | exact one_app (one_rep rfl) (one_map (fun _ => rfl)) | (intro u hu; simp at hu; rcases hu with rfl | hu <;> first | rfl | (subst hu; rfl))) (by first | (simp only [maxLen]; omega) | (simp only [maxLen, Int.toNat_natCast, toNat_add, toNat_add1, List.length_append, List.length_cons, List.length_nil, List.length_replicate]; omega)) (by first | omega | (simp only [Int.toNat_natCast, toNat_add, toNat_add1, List.length_append, List.length_cons, List.length_nil, List.length_replicate]; omega))) rfl rfl ?_ -- ref.go:87 call
                  refine Runs_p rfl (Valid.assignk (A := Own 296 1 _ _) rfl rfl) rfl rfl ?_ -- ref.go:87 assign
                  refine Runs_nil ?_
                  refine thenQ_n ?_
                  refine W_seq ?_
                  refine W_regionE (c := 39) (c' := 42) (by kernel_rfl) rfl ?_
                  refine Runs_p rfl (Valid.movek (A := Is _) rfl rfl) rfl rfl ?_ -- ref.go:88 move
                  refine Runs_p rfl (Valid.add rfl rfl rfl (room64 (by first | omega | (simp only [Int.toNat_natCast, toNat_add, toNat_add1, List.length_append, List.length_cons, List.length_nil, List.length_replicate]; omega)) (by first | omega | (simp only [Int.toNat_natCast, toNat_add, toNat_add1, List.length_append, List.length_cons, List.length_nil, List.length_replicate]; omega)))) rfl rfl ?_ -- ref.go:88 binOp
                  refine Runs_p rfl (Valid.assignk (A := Is _) rfl rfl) rfl rfl ?_ -- ref.go:88 assign
                  refine Runs_nil ?_
                  refine thenQ_n ?_
                  refine W_exit ?_
                  refine thenQ_e ?_
                  refine blockQ_x ?_
                  refine LoopQ.next (⟨i + 1, ys ++ [m.getD i 0 - 1]⟩) [(56, 296)] (⟨by omega, by first | (rw [← hy, dec_one (m := m) (f := i) (by omega) (by omega), map_cons_app]) | (rw [← hy, dec_run (m := m) (f := i) (by omega), map_map_app, ← hn2, runE_stop m (i + n) (by omega), show (numR ((m.drop i).takeWhile lowP)).1.toNat = k by omega]), by simp; omega⟩) (by dsimp only; omega) ⟨⟨(leq_is rfl rfl (by first | rfl | (simp; done) | omega | (simp [toNat_add, toNat_add1, Nat.add_assoc]; done) | (simp [toNat_add, toNat_add1]; omega))), (leq_own rfl rfl rfl (by first | rfl | (simp; done) | omega | (simp [toNat_add, toNat_add1, Nat.add_assoc]; done) | (simp [toNat_add, toNat_add1]; omega)) (by first | rfl | (simp; done) | omega | (simp [toNat_add, toNat_add1, Nat.add_assoc]; done) | (simp [toNat_add, toNat_add1]; omega))), trivial⟩, ⟨(leq_sl (Reads.sl rfl) rfl rfl rfl), (leq_is rfl rfl rfl), trivial⟩, ⟨hp_row rfl (by first | rfl | (simp; done) | omega | (simp [toNat_add, toNat_add1, Nat.add_assoc]; done) | (simp [toNat_add, toNat_add1]; omega)) (by first | rfl | (simp; done) | omega | (simp [toNat_add, toNat_add1, Nat.add_assoc]; done) | (simp [toNat_add, toNat_add1]; omega)), trivial⟩, trivial, rfl, ⟨supg rfl, supg rfl, trivial⟩, ⟨supg rfl, supg rfl, trivial⟩, ⟨suph rfl rfl, trivial⟩, trivial, rfl, rfl⟩
                  done)
              · try simp only [decide_eq_false_iff_not] at hb4
                all_goals (
                  refine W_skip ?_
                  refine thenQ_n ?_
                  refine W_seq ?_
                  refine W_regionE (c := 30) (c' := 42) (by kernel_rfl) rfl ?_
                  refine Runs_p rfl (Valid.movek (A := Sl 1 _ _) rfl rfl) rfl rfl ?_ -- ref.go:91 move
                  refine Runs_p rfl (Valid.movek (A := Is _) rfl rfl) rfl rfl ?_ -- ref.go:91 move
                  refine Runs_p rfl (Valid.movek (A := Is _) rfl rfl) rfl rfl ?_ -- ref.go:91 move
                  refine Runs_p rfl (Valid.movek (A := Is _) rfl rfl) rfl rfl ?_ -- ref.go:91 move
                  refine Runs_p rfl (Valid.add rfl rfl rfl (room64 (by first | omega | (simp only [Int.toNat_natCast, toNat_add, toNat_add1, List.length_append, List.length_cons, List.length_nil, List.length_replicate]; omega)) (by first | omega | (simp only [Int.toNat_natCast, toNat_add, toNat_add1, List.length_append, List.length_cons, List.length_nil, List.length_replicate]; omega)))) rfl rfl ?_ -- ref.go:91 binOp
                  refine Runs_p rfl (Valid.slice1 rfl Try.underlying22 sz3 (Reads.sl rfl) rfl rfl (by first | omega | (simp only [Int.toNat_natCast, toNat_add, toNat_add1, List.length_append, List.length_cons, List.length_nil, List.length_replicate]; omega))) rfl rfl ?_ -- ref.go:91 slice
                  refine Runs_p rfl (Valid.call rfl (num_rseg m i _ _ _ rfl (by rw [← hn2, runE_stop m (i + n) (by omega)]; simp) (by omega) rfl (by omega)) ⟨argle_sl (Reads.sl rfl), trivial⟩) rfl rfl ?_ -- ref.go:91 call
                  refine Runs_p rfl (Valid.movek (A := Tup [Is _, Is _]) rfl rfl) rfl rfl ?_ -- ref.go:91 move
                  refine Runs_p rfl (Valid.extract _ rfl rfl rfl) rfl rfl ?_ -- ref.go:91 extract
                  refine Runs_p rfl (Valid.extract _ rfl rfl rfl) rfl rfl ?_ -- ref.go:91 extract
                  refine Runs_p rfl (Valid.assignk (A := Is _) rfl rfl) rfl rfl ?_ -- ref.go:91 assign
                  refine Runs_p rfl (Valid.assignk (A := Is _) rfl rfl) rfl rfl ?_ -- ref.go:91 assign
                  refine Runs_nil ?_
                  refine thenQ_n ?_
                  refine W_seq ?_
                  refine W_seq ?_
                  refine W_regionE (c := 42) (c' := 52) (by kernel_rfl) rfl ?_
                  refine Runs_p rfl (Valid.movek (A := Is _) rfl rfl) rfl rfl ?_ -- ref.go:92 move
                  refine Runs_p rfl (Valid.neq rfl rfl rfl) rfl rfl ?_ -- ref.go:92 binOp
                  refine Runs_p rfl (Valid.movek (A := Is _) rfl rfl) rfl rfl ?_ -- ref.go:92 move
                  refine Runs_cnd rfl rfl (Grd.is rfl) [] (fun hg => trivial) (fun hg => Valid.moveS rfl (Reads.own rfl)) (by rfl) rfl ?_
                  refine Runs_cnd rfl rfl (Grd.is rfl) [(60, _)] (fun hg => ⟨cnd_at rfl (by first | exact hg | exact hg.1 | exact hg.1.1 | exact hg.1.1.1), trivial⟩) (fun hg => Valid.len rfl Try.underlying22 (Reads.sl rfl)) (by rfl) rfl ?_
                  refine Runs_cnd rfl rfl (Grd.is rfl) [] (fun hg => trivial) (fun hg => Valid.movek (A := Is _) rfl rfl) (by rfl) rfl ?_
                  refine Runs_cnd rfl rfl (Grd.is rfl) [(61, _), (62, _)] (fun hg => ⟨cnd_at rfl (by first | exact hg | exact hg.1 | exact hg.1.1 | exact hg.1.1.1), cnd_at rfl (by first | exact hg | exact hg.1 | exact hg.1.1 | exact hg.1.1.1), trivial⟩) (fun hg => Valid.add rfl rfl rfl (room64 (by simp only [decide_eq_false_iff_not, ne_eq] at hg; first | omega | (simp only [Int.toNat_natCast, toNat_add, toNat_add1, List.length_append, List.length_cons, List.length_nil, List.length_replicate]; omega)) (by simp only [decide_eq_false_iff_not, ne_eq] at hg; first | omega | (simp only [Int.toNat_natCast, toNat_add, toNat_add1, List.length_append, List.length_cons, List.length_nil, List.length_replicate]; omega)))) (by rfl) rfl ?_
                  refine Runs_cnd rfl rfl (Grd.is rfl) [] (fun hg => trivial) (fun hg => Valid.movek (A := Is _) rfl rfl) (by rfl) rfl ?_
                  refine Runs_cnd rfl rfl (Grd.is rfl) [(63, _), (64, _)] (fun hg => ⟨cnd_at rfl (by first | exact hg | exact hg.1 | exact hg.1.1 | exact hg.1.1.1), cnd_at rfl (by first | exact hg | exact hg.1 | exact hg.1.1 | exact hg.1.1.1), trivial⟩) (fun hg => Valid.gtr rfl rfl rfl) (by rfl) rfl ?_
                  refine Runs_p rfl (Valid.pickor rfl rfl rfl rfl (fun h => by first | exact h | exact ⟨hg, h⟩)) rfl rfl ?_ -- ref.go:92 pick
                  refine Runs_nil ?_
                  refine thenQ_n ?_
                  refine W_cond _ rfl (fun hb5 => ?_) (fun hb5 => ?_)
                  · try simp only [decide_eq_true_eq, Bool.or_eq_true, ne_eq] at hb5
                    all_goals (
                      refine W_seq ?_
                      refine W_regionE (c := 52) (c' := 54) (by kernel_rfl) rfl ?_
                      refine Runs_p rfl (Valid.assignk (A := Is (.slice none 0 0)) rfl rfl) rfl rfl ?_ -- ref.go:93 assign
                      refine Runs_p rfl (Valid.assignk (A := Is _) rfl rfl) rfl rfl ?_ -- ref.go:93 assign
                      refine Runs_nil ?_
                      refine thenQ_n ?_
                      refine W_ret ?_
                      refine thenQ_r ?_
                      refine blockQ_r ?_
                      refine loopQ_r ?_
                      refine blockQ_r ?_
                      refine thenQ_r ?_
                      refine finQ_r ?_
                      refine ResOk.two rfl (RVal.sl (Reads.nil rfl) rfl (by first | (rw [decV_bad (by assumption)]; done) | (rw [decV_bad (by assumption)]; rfl) | (rw [decV_no hneg (by rw [← hy, List.drop_of_length_le (by omega), decR_nil]; simp [fitsO]; omega)]; done) | (rw [decV_no hneg (by rw [← hy, List.drop_of_length_le (by omega), decR_nil]; simp [fitsO]; omega)]; rfl) | (rw [decV_ok (o := ys) hneg (by rw [← hy, List.drop_of_length_le (by omega), decR_nil]; simp) (by omega)]; done) | (rw [decV_ok (o := ys) hneg (by rw [← hy, List.drop_of_length_le (by omega), decR_nil]; simp) (by omega)]; rfl) | (rcases Decidable.em ((numR ((m.drop i).takeWhile lowP)).2 = 0) with h0 | h0 <;> first | (rw [decV_no hneg (by rw [← hy, dec_run (m := m) (f := i) h0, map_map_app]; exact fits_map (by simp; omega))]; done) | (rw [decV_no hneg (by rw [← hy, decR_bad (m.drop i) h0]; rfl)]; done) | (rw [decV_no hneg (by rw [← hy, dec_run (m := m) (f := i) h0, map_map_app]; exact fits_map (by simp; omega))]; rfl) | (rw [decV_no hneg (by rw [← hy, decR_bad (m.drop i) h0]; rfl)]; rfl))) (by first | (rw [decV_bad (by assumption)]; done) | (rw [decV_bad (by assumption)]; rfl) | (rw [decV_no hneg (by rw [← hy, List.drop_of_length_le (by omega), decR_nil]; simp [fitsO]; omega)]; done) | (rw [decV_no hneg (by rw [← hy, List.drop_of_length_le (by omega), decR_nil]; simp [fitsO]; omega)]; rfl) | (rw [decV_ok (o := ys) hneg (by rw [← hy, List.drop_of_length_le (by omega), decR_nil]; simp) (by omega)]; done) | (rw [decV_ok (o := ys) hneg (by rw [← hy, List.drop_of_length_le (by omega), decR_nil]; simp) (by omega)]; rfl) | (rcases Decidable.em ((numR ((m.drop i).takeWhile lowP)).2 = 0) with h0 | h0 <;> first | (rw [decV_no hneg (by rw [← hy, dec_run (m := m) (f := i) h0, map_map_app]; exact fits_map (by simp; omega))]; done) | (rw [decV_no hneg (by rw [← hy, decR_bad (m.drop i) h0]; rfl)]; done) | (rw [decV_no hneg (by rw [← hy, dec_run (m := m) (f := i) h0, map_map_app]; exact fits_map (by simp; omega))]; rfl) | (rw [decV_no hneg (by rw [← hy, decR_bad (m.drop i) h0]; rfl)]; rfl)))) (RVal.is rfl rfl (by first | (rw [decV_bad (by assumption)]; done) | (rw [decV_bad (by assumption)]; rfl) | (rw [decV_no hneg (by rw [← hy, List.drop_of_length_le (by omega), decR_nil]; simp [fitsO]; omega)]; done) | (rw [decV_no hneg (by rw [← hy, List.drop_of_length_le (by omega), decR_nil]; simp [fitsO]; omega)]; rfl) | (rw [decV_ok (o := ys) hneg (by rw [← hy, List.drop_of_length_le (by omega), decR_nil]; simp) (by omega)]; done) | (rw [decV_ok (o := ys) hneg (by rw [← hy, List.drop_of_length_le (by omega), decR_nil]; simp) (by omega)]; rfl) | (rcases Decidable.em ((numR ((m.drop i).takeWhile lowP)).2 = 0) with h0 | h0 <;> first | (rw [decV_no hneg (by rw [← hy, dec_run (m := m) (f := i) h0, map_map_app]; exact fits_map (by simp; omega))]; done) | (rw [decV_no hneg (by rw [← hy, decR_bad (m.drop i) h0]; rfl)]; done) | (rw [decV_no hneg (by rw [← hy, dec_run (m := m) (f := i) h0, map_map_app]; exact fits_map (by simp; omega))]; rfl) | (rw [decV_no hneg (by rw [← hy, decR_bad (m.drop i) h0]; rfl)]; rfl))))
                      done)
                  · try simp only [decide_eq_false_iff_not, Bool.or_eq_false_iff, ne_eq] at hb5
                    all_goals (
                      refine W_skip ?_
                      refine thenQ_n ?_
                      refine W_seq ?_
                      refine W_seq ?_
                      refine W_regionE (c := 52) (c' := 53) (by kernel_rfl) rfl ?_
                      refine Runs_p rfl (Valid.assignk (A := Is _) rfl rfl) rfl rfl ?_ -- ref.go:95 assign
                      refine Runs_nil ?_
                      refine thenQ_n ?_
                      refine W_block ?_
                      refine W_loopx (G := Nat) (fun (k : Nat) => k ≤ (numR ((m.drop i).takeWhile lowP)).1.toNat) [(0, Sl 1 _ _), (1, Is _), (7, Is _), (8, Is _), (9, Is _)] (fun (k : Nat) => [(11, Is (.int .i64 (k : Int))), (6, Own 56 1 (ys ++ List.replicate k 0).length ((ys ++ List.replicate k 0).map I64))]) [] (fun (k : Nat) => [(56, .row 3 1 (ys ++ List.replicate k 0).length ((ys ++ List.replicate k 0).map I64))]) 53 (fun (k : Nat) => (numR ((m.drop i).takeWhile lowP)).1.toNat - k) (0) [] (by omega) ⟨⟨(leq_is rfl rfl (by first | rfl | (simp; done) | (simp [List.replicate_succ']; done) | (simp [List.replicate_succ']; omega))), (leq_own rfl rfl rfl (by first | rfl | (simp; done) | (simp [List.replicate_succ']; done) | (simp [List.replicate_succ']; omega)) (by first | rfl | (simp; done) | (simp [List.replicate_succ']; done) | (simp [List.replicate_succ']; omega))), trivial⟩, ⟨(leq_sl (Reads.sl rfl) rfl rfl rfl), (leq_is rfl rfl rfl), (leq_is rfl rfl rfl), (leq_is rfl rfl rfl), (leq_is rfl rfl rfl), trivial⟩, ⟨hp_row rfl (by first | rfl | (simp; done) | (simp [List.replicate_succ']; done) | (simp [List.replicate_succ']; omega)) (by first | rfl | (simp; done) | (simp [List.replicate_succ']; done) | (simp [List.replicate_succ']; omega)), trivial⟩, trivial, rfl, ⟨supg rfl, supg rfl, trivial⟩, ⟨supg rfl, supg rfl, supg rfl, supg rfl, supg rfl, trivial⟩, ⟨suph rfl rfl, trivial⟩, trivial, rfl, rfl⟩ ?_
                      intro k hI3
                      refine W_seq ?_
                      refine W_seq ?_
                      refine W_regionE (c := 53) (c' := 56) (by kernel_rfl) rfl ?_
                      refine Runs_p rfl (Valid.movek (A := Is _) rfl rfl) rfl rfl ?_ -- ref.go:95 move
                      refine Runs_p rfl (Valid.movek (A := Is _) rfl rfl) rfl rfl ?_ -- ref.go:95 move
                      refine Runs_p rfl (Valid.lss rfl rfl rfl) rfl rfl ?_ -- ref.go:95 binOp
                      refine Runs_nil ?_
                      refine thenQ_n ?_
                      refine W_cond _ rfl (fun hb6 => ?_) (fun hb6 => ?_)
                      · try simp only [decide_eq_true_eq] at hb6
                        all_goals (
                          refine W_skip ?_
                          refine thenQ_n ?_
                          refine W_seq ?_
                          refine W_block ?_
                          refine W_regionE (c := 56) (c' := 60) (by kernel_rfl) rfl ?_
                          refine Runs_p rfl (Valid.movek (A := Own 56 1 _ _) rfl rfl) rfl rfl ?_ -- ref.go:96 move
                          refine Runs_p rfl (Valid.lit (el := 3) [_] rfl rfl (fun _ => by kernel_rfl) rfl (by decide)) rfl rfl ?_ -- ref.go:96 buildSlice
                          refine Runs_w rfl (Valid.app rfl Try.underlying22 ti3 (by decide) rfl rfl (Reads.sl rfl) (by first | exact one_map (fun _ => rfl) | exact one_cons rfl one_nil | exact one_app (one_map (fun _ => rfl)) (one_cons rfl one_nil) | exact one_app (one_map (fun _ => rfl)) (one_map (fun _ => rfl)) | exact one_rep rfl | exact one_app (one_rep rfl) (one_map (fun _ => rfl)) | (intro u hu; simp at hu; rcases hu with rfl | hu <;> first | rfl | (subst hu; rfl))) (by first | (simp only [maxLen]; omega) | (simp only [maxLen, List.length_append, List.length_replicate]; omega)) (by first | omega | (simp only [List.length_append, List.length_replicate]; omega))) rfl rfl ?_ -- ref.go:96 call
                          refine Runs_p rfl (Valid.assignk (A := Own 464 1 _ _) rfl rfl) rfl rfl ?_ -- ref.go:96 assign
                          refine Runs_nil ?_
                          refine blockQ_n ?_
                          refine thenQ_n ?_
                          refine W_regionE (c := 60) (c' := 63) (by kernel_rfl) rfl ?_
                          refine Runs_p rfl (Valid.movek (A := Is _) rfl rfl) rfl rfl ?_ -- ref.go:95 move
                          refine Runs_p rfl (Valid.add rfl rfl rfl (room64 (by first | omega | (simp only [Int.toNat_natCast, toNat_add, toNat_add1, List.length_append, List.length_cons, List.length_nil, List.length_replicate]; omega)) (by first | omega | (simp only [Int.toNat_natCast, toNat_add, toNat_add1, List.length_append, List.length_cons, List.length_nil, List.length_replicate]; omega)))) rfl rfl ?_ -- ref.go:95 binOp
                          refine Runs_p rfl (Valid.assignk (A := Is _) rfl rfl) rfl rfl ?_ -- ref.go:95 assign
                          refine Runs_nil ?_
                          refine LoopQ.next (k + 1) [(56, 464)] (by omega) (by omega) ⟨⟨(leq_is rfl rfl (by first | rfl | (simp; done) | (simp [List.replicate_succ']; done) | (simp [List.replicate_succ']; omega))), (leq_own rfl rfl rfl (by first | rfl | (simp; done) | (simp [List.replicate_succ']; done) | (simp [List.replicate_succ']; omega)) (by first | rfl | (simp; done) | (simp [List.replicate_succ']; done) | (simp [List.replicate_succ']; omega))), trivial⟩, ⟨(leq_sl (Reads.sl rfl) rfl rfl rfl), (leq_is rfl rfl rfl), (leq_is rfl rfl rfl), (leq_is rfl rfl rfl), (leq_is rfl rfl rfl), trivial⟩, ⟨hp_row rfl (by first | rfl | (simp; done) | (simp [List.replicate_succ']; done) | (simp [List.replicate_succ']; omega)) (by first | rfl | (simp; done) | (simp [List.replicate_succ']; done) | (simp [List.replicate_succ']; omega)), trivial⟩, trivial, rfl, ⟨supg rfl, supg rfl, trivial⟩, ⟨supg rfl, supg rfl, supg rfl, supg rfl, supg rfl, trivial⟩, ⟨suph rfl rfl, trivial⟩, trivial, rfl, rfl⟩
                          done)
                      · try simp only [decide_eq_false_iff_not] at hb6
                        all_goals (
                          refine W_exit ?_
                          refine thenQ_e ?_
                          refine loopQ_e ?_
                          refine blockQ_x ?_
                          refine thenQ_n ?_
                          refine W_regionE (c := 56) (c' := 60) (by kernel_rfl) rfl ?_
                          refine Runs_p rfl (Valid.movek (A := Is _) rfl rfl) rfl rfl ?_ -- ref.go:98 move
                          refine Runs_p rfl (Valid.movek (A := Is _) rfl rfl) rfl rfl ?_ -- ref.go:98 move
                          refine Runs_p rfl (Valid.add rfl rfl rfl (room64 (by first | omega | (simp only [Int.toNat_natCast, toNat_add, toNat_add1, List.length_append, List.length_cons, List.length_nil, List.length_replicate]; omega)) (by first | omega | (simp only [Int.toNat_natCast, toNat_add, toNat_add1, List.length_append, List.length_cons, List.length_nil, List.length_replicate]; omega)))) rfl rfl ?_ -- ref.go:98 binOp
                          refine Runs_p rfl (Valid.assignk (A := Is _) rfl rfl) rfl rfl ?_ -- ref.go:98 assign
                          refine Runs_nil ?_
                          refine blockQ_n ?_
                          refine LoopQ.next (⟨i + n, ys ++ List.replicate k 0⟩) [] (⟨by omega, by first | (rw [← hy, dec_one (m := m) (f := i) (by omega) (by omega), map_cons_app]) | (rw [← hy, dec_run (m := m) (f := i) (by omega), map_map_app, ← hn2, runE_stop m (i + n) (by omega), show (numR ((m.drop i).takeWhile lowP)).1.toNat = k by omega]), by simp; omega⟩) (by dsimp only; omega) ⟨⟨(leq_is rfl rfl (by first | rfl | (simp; done) | omega | (simp [toNat_add, toNat_add1, Nat.add_assoc]; done) | (simp [toNat_add, toNat_add1]; omega))), (leq_own rfl rfl rfl (by first | rfl | (simp; done) | omega | (simp [toNat_add, toNat_add1, Nat.add_assoc]; done) | (simp [toNat_add, toNat_add1]; omega)) (by first | rfl | (simp; done) | omega | (simp [toNat_add, toNat_add1, Nat.add_assoc]; done) | (simp [toNat_add, toNat_add1]; omega))), trivial⟩, ⟨(leq_sl (Reads.sl rfl) rfl rfl rfl), (leq_is rfl rfl rfl), trivial⟩, ⟨hp_row rfl (by first | rfl | (simp; done) | omega | (simp [toNat_add, toNat_add1, Nat.add_assoc]; done) | (simp [toNat_add, toNat_add1]; omega)) (by first | rfl | (simp; done) | omega | (simp [toNat_add, toNat_add1, Nat.add_assoc]; done) | (simp [toNat_add, toNat_add1]; omega)), trivial⟩, trivial, rfl, ⟨supg rfl, supg rfl, trivial⟩, ⟨supg rfl, supg rfl, trivial⟩, ⟨suph rfl rfl, trivial⟩, trivial, rfl, rfl⟩
                          done)
                      done)
                  done)
              done)
          done)
      · try simp only [decide_eq_false_iff_not] at hb2
        all_goals (
          refine W_exit ?_
          refine thenQ_e ?_
          refine loopQ_e ?_
          refine blockQ_x ?_
          refine thenQ_n ?_
          refine W_seq ?_
          refine W_seq ?_
          refine W_regionE (c := 12) (c' := 16) (by kernel_rfl) rfl ?_
          refine Runs_p rfl (Valid.movek (A := Own 56 1 _ _) rfl rfl) rfl rfl ?_ -- ref.go:100 move
          refine Runs_p rfl (Valid.len rfl Try.underlying22 (Reads.own rfl)) rfl rfl ?_ -- ref.go:100 call
          refine Runs_p rfl (Valid.movek (A := Is _) rfl rfl) rfl rfl ?_ -- ref.go:100 move
          refine Runs_p rfl (Valid.gtr rfl rfl rfl) rfl rfl ?_ -- ref.go:100 binOp
          refine Runs_nil ?_
          refine thenQ_n ?_
          refine W_cond _ rfl (fun hb7 => ?_) (fun hb7 => ?_)
          · try simp only [decide_eq_true_eq] at hb7
            all_goals (
              refine W_seq ?_
              refine W_regionE (c := 16) (c' := 18) (by kernel_rfl) rfl ?_
              refine Runs_p rfl (Valid.assignk (A := Is (.slice none 0 0)) rfl rfl) rfl rfl ?_ -- ref.go:101 assign
              refine Runs_p rfl (Valid.assignk (A := Is _) rfl rfl) rfl rfl ?_ -- ref.go:101 assign
              refine Runs_nil ?_
              refine thenQ_n ?_
              refine W_ret ?_
              refine thenQ_r ?_
              refine finQ_r ?_
              refine ResOk.two rfl (RVal.sl (Reads.nil rfl) rfl (by first | (rw [decV_bad (by assumption)]; done) | (rw [decV_bad (by assumption)]; rfl) | (rw [decV_no hneg (by rw [← hy, List.drop_of_length_le (by omega), decR_nil]; simp [fitsO]; omega)]; done) | (rw [decV_no hneg (by rw [← hy, List.drop_of_length_le (by omega), decR_nil]; simp [fitsO]; omega)]; rfl) | (rw [decV_ok (o := ys) hneg (by rw [← hy, List.drop_of_length_le (by omega), decR_nil]; simp) (by omega)]; done) | (rw [decV_ok (o := ys) hneg (by rw [← hy, List.drop_of_length_le (by omega), decR_nil]; simp) (by omega)]; rfl) | (rcases Decidable.em ((numR ((m.drop i).takeWhile lowP)).2 = 0) with h0 | h0 <;> first | (rw [decV_no hneg (by rw [← hy, dec_run (m := m) (f := i) h0, map_map_app]; exact fits_map (by simp; omega))]; done) | (rw [decV_no hneg (by rw [← hy, decR_bad (m.drop i) h0]; rfl)]; done) | (rw [decV_no hneg (by rw [← hy, dec_run (m := m) (f := i) h0, map_map_app]; exact fits_map (by simp; omega))]; rfl) | (rw [decV_no hneg (by rw [← hy, decR_bad (m.drop i) h0]; rfl)]; rfl))) (by first | (rw [decV_bad (by assumption)]; done) | (rw [decV_bad (by assumption)]; rfl) | (rw [decV_no hneg (by rw [← hy, List.drop_of_length_le (by omega), decR_nil]; simp [fitsO]; omega)]; done) | (rw [decV_no hneg (by rw [← hy, List.drop_of_length_le (by omega), decR_nil]; simp [fitsO]; omega)]; rfl) | (rw [decV_ok (o := ys) hneg (by rw [← hy, List.drop_of_length_le (by omega), decR_nil]; simp) (by omega)]; done) | (rw [decV_ok (o := ys) hneg (by rw [← hy, List.drop_of_length_le (by omega), decR_nil]; simp) (by omega)]; rfl) | (rcases Decidable.em ((numR ((m.drop i).takeWhile lowP)).2 = 0) with h0 | h0 <;> first | (rw [decV_no hneg (by rw [← hy, dec_run (m := m) (f := i) h0, map_map_app]; exact fits_map (by simp; omega))]; done) | (rw [decV_no hneg (by rw [← hy, decR_bad (m.drop i) h0]; rfl)]; done) | (rw [decV_no hneg (by rw [← hy, dec_run (m := m) (f := i) h0, map_map_app]; exact fits_map (by simp; omega))]; rfl) | (rw [decV_no hneg (by rw [← hy, decR_bad (m.drop i) h0]; rfl)]; rfl)))) (RVal.is rfl rfl (by first | (rw [decV_bad (by assumption)]; done) | (rw [decV_bad (by assumption)]; rfl) | (rw [decV_no hneg (by rw [← hy, List.drop_of_length_le (by omega), decR_nil]; simp [fitsO]; omega)]; done) | (rw [decV_no hneg (by rw [← hy, List.drop_of_length_le (by omega), decR_nil]; simp [fitsO]; omega)]; rfl) | (rw [decV_ok (o := ys) hneg (by rw [← hy, List.drop_of_length_le (by omega), decR_nil]; simp) (by omega)]; done) | (rw [decV_ok (o := ys) hneg (by rw [← hy, List.drop_of_length_le (by omega), decR_nil]; simp) (by omega)]; rfl) | (rcases Decidable.em ((numR ((m.drop i).takeWhile lowP)).2 = 0) with h0 | h0 <;> first | (rw [decV_no hneg (by rw [← hy, dec_run (m := m) (f := i) h0, map_map_app]; exact fits_map (by simp; omega))]; done) | (rw [decV_no hneg (by rw [← hy, decR_bad (m.drop i) h0]; rfl)]; done) | (rw [decV_no hneg (by rw [← hy, dec_run (m := m) (f := i) h0, map_map_app]; exact fits_map (by simp; omega))]; rfl) | (rw [decV_no hneg (by rw [← hy, decR_bad (m.drop i) h0]; rfl)]; rfl))))
              done)
          · try simp only [decide_eq_false_iff_not] at hb7
            all_goals (
              refine W_skip ?_
              refine thenQ_n ?_
              refine W_seq ?_
              refine W_regionE (c := 16) (c' := 19) (by kernel_rfl) rfl ?_
              refine Runs_p rfl (Valid.movek (A := Own 56 1 _ _) rfl rfl) rfl rfl ?_ -- ref.go:103 move
              refine Runs_p rfl (Valid.assignk (A := Own 56 1 _ _) rfl rfl) rfl rfl ?_ -- ref.go:103 assign
              refine Runs_p rfl (Valid.assignk (A := Is _) rfl rfl) rfl rfl ?_ -- ref.go:103 assign
              refine Runs_nil ?_
              refine thenQ_n ?_
              refine W_ret ?_
              refine finQ_r ?_
              refine ResOk.two rfl (RVal.sl (Reads.own rfl) rfl (by first | (rw [decV_bad (by assumption)]; done) | (rw [decV_bad (by assumption)]; rfl) | (rw [decV_no hneg (by rw [← hy, List.drop_of_length_le (by omega), decR_nil]; simp [fitsO]; omega)]; done) | (rw [decV_no hneg (by rw [← hy, List.drop_of_length_le (by omega), decR_nil]; simp [fitsO]; omega)]; rfl) | (rw [decV_ok (o := ys) hneg (by rw [← hy, List.drop_of_length_le (by omega), decR_nil]; simp) (by omega)]; done) | (rw [decV_ok (o := ys) hneg (by rw [← hy, List.drop_of_length_le (by omega), decR_nil]; simp) (by omega)]; rfl) | (rcases Decidable.em ((numR ((m.drop i).takeWhile lowP)).2 = 0) with h0 | h0 <;> first | (rw [decV_no hneg (by rw [← hy, dec_run (m := m) (f := i) h0, map_map_app]; exact fits_map (by simp; omega))]; done) | (rw [decV_no hneg (by rw [← hy, decR_bad (m.drop i) h0]; rfl)]; done) | (rw [decV_no hneg (by rw [← hy, dec_run (m := m) (f := i) h0, map_map_app]; exact fits_map (by simp; omega))]; rfl) | (rw [decV_no hneg (by rw [← hy, decR_bad (m.drop i) h0]; rfl)]; rfl))) (by first | (rw [decV_bad (by assumption)]; done) | (rw [decV_bad (by assumption)]; rfl) | (rw [decV_no hneg (by rw [← hy, List.drop_of_length_le (by omega), decR_nil]; simp [fitsO]; omega)]; done) | (rw [decV_no hneg (by rw [← hy, List.drop_of_length_le (by omega), decR_nil]; simp [fitsO]; omega)]; rfl) | (rw [decV_ok (o := ys) hneg (by rw [← hy, List.drop_of_length_le (by omega), decR_nil]; simp) (by omega)]; done) | (rw [decV_ok (o := ys) hneg (by rw [← hy, List.drop_of_length_le (by omega), decR_nil]; simp) (by omega)]; rfl) | (rcases Decidable.em ((numR ((m.drop i).takeWhile lowP)).2 = 0) with h0 | h0 <;> first | (rw [decV_no hneg (by rw [← hy, dec_run (m := m) (f := i) h0, map_map_app]; exact fits_map (by simp; omega))]; done) | (rw [decV_no hneg (by rw [← hy, decR_bad (m.drop i) h0]; rfl)]; done) | (rw [decV_no hneg (by rw [← hy, dec_run (m := m) (f := i) h0, map_map_app]; exact fits_map (by simp; omega))]; rfl) | (rw [decV_no hneg (by rw [← hy, decR_bad (m.drop i) h0]; rfl)]; rfl)))) (RVal.is rfl rfl (by first | (rw [decV_bad (by assumption)]; done) | (rw [decV_bad (by assumption)]; rfl) | (rw [decV_no hneg (by rw [← hy, List.drop_of_length_le (by omega), decR_nil]; simp [fitsO]; omega)]; done) | (rw [decV_no hneg (by rw [← hy, List.drop_of_length_le (by omega), decR_nil]; simp [fitsO]; omega)]; rfl) | (rw [decV_ok (o := ys) hneg (by rw [← hy, List.drop_of_length_le (by omega), decR_nil]; simp) (by omega)]; done) | (rw [decV_ok (o := ys) hneg (by rw [← hy, List.drop_of_length_le (by omega), decR_nil]; simp) (by omega)]; rfl) | (rcases Decidable.em ((numR ((m.drop i).takeWhile lowP)).2 = 0) with h0 | h0 <;> first | (rw [decV_no hneg (by rw [← hy, dec_run (m := m) (f := i) h0, map_map_app]; exact fits_map (by simp; omega))]; done) | (rw [decV_no hneg (by rw [← hy, decR_bad (m.drop i) h0]; rfl)]; done) | (rw [decV_no hneg (by rw [← hy, dec_run (m := m) (f := i) h0, map_map_app]; exact fits_map (by simp; omega))]; rfl) | (rw [decV_no hneg (by rw [← hy, decR_bad (m.drop i) h0]; rfl)]; rfl))))
              done)
          done)
      done)
end Zf
end Go.Proofs.Ytimpmdcebapfiaa
