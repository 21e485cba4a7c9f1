/-
  WALKS of stage 6: Encode and Decode.
-/
import Derived.Test.YtimpmdcebapfiaaRows
import Derived.Test.YtimpmdcebapfiaaZm
import Derived.Test.YtimpmdcebapfiaaZn
import Derived.Test.YtimpmdcebapfiaaZo
import Derived.Test.YtimpmdcebapfiaaZa
import Derived.Test.YtimpmdcebapfiaaZb
import Derived.Test.YtimpmdcebapfiaaZc
namespace Go.Proofs.Ytimpmdcebapfiaa
open Go.RowKit
namespace Zd
open Ab Zm Zn Zo Za Zb Zc
theorem ag22 (w : World) : (isAgg 22).run Try.prog w = .ok false w := by kernel_rfl
theorem ag3 (w : World) : (isAgg 3).run Try.prog w = .ok false w := by kernel_rfl
theorem sz3 (w : World) : (sizeOf 3).run Try.prog w = .ok 1 w := by kernel_rfl
theorem zv41 (w : World) : (zeroValue 41).run Try.prog w = .ok (.agg #[(Value.slice none 0 0)]) w := by kernel_rfl
theorem dropWhile_nil {m : List Int} {f : Nat} (h : m.length ≤ runE m f) : (m.drop f).dropWhile lowP = [] := by rw [← run_rest, List.drop_of_length_le h]
theorem dropWhile_cons {m : List Int} {f : Nat} (h : runE m f < m.length) : (m.drop f).dropWhile lowP = m.getD (runE m f) 0 :: m.drop (runE m f + 1) := by rw [← run_rest, drop_cons m _ 0 h]
theorem seg_len (m : List Int) (f : Nat) : ((m.drop f).takeWhile lowP).length ≤ m.length := by
  have := (List.takeWhile_sublist lowP (l := m.drop f)).length_le
  rw [List.length_drop] at this
  omega
theorem num_seg (m : List Int) (f : Nat) (a b : Int) (n : Nat) (ha : a = f) (hb : b = runE m f) (hm : m.length ≤ 1000000000000) (hn : n = b.toNat - a.toNat) (_hf : f ≤ m.length) : FPure Try.prog 16 [Sl 1 n (((m.drop a.toNat).take n).map (Value.int .i64))] (Tup [Is (.int .i64 (numR ((m.drop f).takeWhile lowP)).1), Is (.int .i64 (numR ((m.drop f).takeWhile lowP)).2)]) := by
  subst ha hb hn
  simp only [Int.toNat_natCast]
  have hl : ((m.drop f).takeWhile lowP).length = runE m f - f := by unfold runE; omega
  rw [run_seg, ← hl]
  show FPure _ _ [Sl 1 ((m.drop f).takeWhile lowP).length (((m.drop f).takeWhile lowP).map (Value.int .i64))] _
  exact num_s _ (by have := seg_len m f; omega)

set_option maxRecDepth 100000 in
set_option maxHeartbeats 1000000 in
theorem fits_s (m : List Int) (most : Int) (hm : m.length ≤ 1000000000000) (h1 : -9223372036854775808 ≤ most) (h2 : most ≤ 9223372036854775807) :
    FPure Try.prog 25 [Sl 1 m.length (m.map (Value.int .i64)), Is (.int .i64 most)] (Is (.bool (fitsO (decR m) most))) := by
  refine FPure.of Try.func25 Try.ntmps25 rfl (by kernel_rfl) rfl rfl rfl ?_
  refine W_seq ?_
  refine W_regionE (c := 1) (c' := 2) (by kernel_rfl) rfl ?_
  refine Runs_p rfl (Valid.assignk (A := Is _) rfl rfl) rfl rfl ?_ -- zero.go:113 assign
  refine Runs_nil ?_
  refine thenQ_n ?_
  refine W_scope2 0 rfl (fun (g_ : Nat × Int) => match g_ with | ⟨f, left⟩ => f ≤ m.length ∧ (left = most ∨ (-1 ≤ left ∧ left ≤ 9223372036854775807)) ∧ fitsO (decR (m.drop f)) left = fitsO (decR m) most) [(0, Sl 1 m.length (m.map (Value.int .i64)))] (fun (g_ : Nat × Int) => match g_ with | ⟨f, left⟩ => [(5, Is (.int .i64 left)), (6, Is (.int .i64 (f : Int)))]) [] (fun (g_ : Nat × Int) => match g_ with | ⟨f, left⟩ => []) 5 (fun (g_ : Nat × Int) => match g_ with | ⟨f, left⟩ => m.length - f) ?_ ?_
  · intro hpass
    refine W_seq ?_
    refine W_regionE (c := 2) (c' := 5) (by kernel_rfl) rfl ?_
    refine Runs_p rfl (Valid.movek (A := Is _) rfl rfl) rfl rfl ?_ -- zero.go:114 move
    refine Runs_p rfl (Valid.assignk (A := Is _) rfl rfl) rfl rfl ?_ -- zero.go:114 assign
    refine Runs_p rfl (Valid.assignk (A := Is _) rfl rfl) rfl rfl ?_ -- zero.go:114 assign
    refine Runs_nil ?_
    refine thenQ_n ?_
    refine W_enter hpass (⟨0, most⟩) [] (⟨by omega, .inl rfl, rfl⟩) ⟨⟨(leq_is rfl rfl (by first | rfl | (simp; done) | omega | (simp [toNat_add, toNat_add1, Nat.add_assoc]; done) | (simp [toNat_add, toNat_add1]; omega))), (leq_is rfl rfl (by first | rfl | (simp; done) | omega | (simp [toNat_add, toNat_add1, Nat.add_assoc]; done) | (simp [toNat_add, toNat_add1]; omega))), trivial⟩, ⟨(leq_sl (Reads.sl rfl) rfl rfl rfl), trivial⟩, trivial, trivial, rfl, ⟨supg rfl, supg rfl, trivial⟩, ⟨supg rfl, trivial⟩, trivial, trivial, rfl, rfl⟩
  · intro ⟨f, left⟩ hL
    obtain ⟨hf1, hf2, hf3⟩ := hL
    have hrb := runE_bd m f hf1
    have hnr := numR_range ((m.drop f).takeWhile lowP)
    refine W_seq ?_
    refine W_regionE (c := 5) (c' := 9) (by kernel_rfl) rfl ?_
    refine Runs_p rfl (Valid.movek (A := Sl 1 _ _) rfl rfl) rfl rfl ?_ -- zero.go:116 move
    refine Runs_p rfl (Valid.movek (A := Is _) rfl rfl) rfl rfl ?_ -- zero.go:116 move
    refine Runs_p rfl (Valid.call rfl (end_s _ _ (by omega) (by omega)) ⟨argle_sl (Reads.sl rfl), argle rfl, trivial⟩) rfl rfl ?_ -- zero.go:116 call
    refine Runs_p rfl (Valid.assignk (A := Is _) rfl rfl) rfl rfl ?_ -- zero.go:116 assign
    refine Runs_nil ?_
    refine thenQ_n ?_
    refine W_seq ?_
    refine W_regionE (c := 9) (c' := 19) (by kernel_rfl) rfl ?_
    refine Runs_p rfl (Valid.movek (A := Sl 1 _ _) rfl rfl) rfl rfl ?_ -- zero.go:117 move
    refine Runs_p rfl (Valid.movek (A := Is _) rfl rfl) rfl rfl ?_ -- zero.go:117 move
    refine Runs_p rfl (Valid.movek (A := Is _) rfl rfl) rfl rfl ?_ -- zero.go:117 move
    refine Runs_p rfl (Valid.slice1 rfl Try.underlying22 sz3 (Reads.sl rfl) rfl rfl (by omega)) rfl rfl ?_ -- zero.go:117 slice
    refine Runs_p rfl (Valid.call rfl (num_seg m f _ _ _ rfl rfl (by omega) rfl (by omega)) ⟨argle_sl (Reads.sl rfl), trivial⟩) rfl rfl ?_ -- zero.go:117 call
    refine Runs_p rfl (Valid.movek (A := Tup [Is _, Is _]) rfl rfl) rfl rfl ?_ -- zero.go:117 move
    refine Runs_p rfl (Valid.extract _ rfl rfl rfl) rfl rfl ?_ -- zero.go:117 extract
    refine Runs_p rfl (Valid.extract _ rfl rfl rfl) rfl rfl ?_ -- zero.go:117 extract
    refine Runs_p rfl (Valid.assignk (A := Is _) rfl rfl) rfl rfl ?_ -- zero.go:117 assign
    refine Runs_p rfl (Valid.assignk (A := Is _) rfl rfl) rfl rfl ?_ -- zero.go:117 assign
    refine Runs_nil ?_
    refine thenQ_n ?_
    refine W_seq ?_
    refine W_seq ?_
    refine W_regionE (c := 19) (c' := 26) (by kernel_rfl) rfl ?_
    refine Runs_p rfl (Valid.movek (A := Is _) rfl rfl) rfl rfl ?_ -- zero.go:118 move
    refine Runs_p rfl (Valid.neq rfl rfl rfl) rfl rfl ?_ -- zero.go:118 binOp
    refine Runs_p rfl (Valid.movek (A := Is _) rfl rfl) rfl rfl ?_ -- zero.go:118 move
    refine Runs_cnd rfl rfl (Grd.is rfl) [] (fun hg => trivial) (fun hg => Valid.movek (A := Is _) rfl rfl) (by rfl) rfl ?_
    refine Runs_cnd rfl rfl (Grd.is rfl) [] (fun hg => trivial) (fun hg => Valid.movek (A := Is _) rfl rfl) (by rfl) rfl ?_
    refine Runs_cnd rfl rfl (Grd.is rfl) [(25, _), (26, _)] (fun hg => ⟨cnd_at rfl (by first | exact hg | exact hg.1 | exact hg.1.1 | exact hg.1.1.1), cnd_at rfl (by first | exact hg | exact hg.1 | exact hg.1.1 | exact hg.1.1.1), trivial⟩) (fun hg => Valid.gtr rfl rfl rfl) (by rfl) rfl ?_
    refine Runs_p rfl (Valid.pickor rfl rfl rfl rfl (fun h => by first | exact h | exact ⟨hg, h⟩)) rfl rfl ?_ -- zero.go:118 pick
    refine Runs_nil ?_
    refine thenQ_n ?_
    refine W_cond _ rfl (fun hb2 => ?_) (fun hb2 => ?_)
    · try simp only [decide_eq_true_eq, Bool.or_eq_true, ne_eq] at hb2
      all_goals (
        refine W_seq ?_
        refine W_regionE (c := 26) (c' := 27) (by kernel_rfl) rfl ?_
        refine Runs_p rfl (Valid.assignk (A := Is _) rfl rfl) rfl rfl ?_ -- zero.go:119 assign
        refine Runs_nil ?_
        refine thenQ_n ?_
        refine W_ret ?_
        refine thenQ_r ?_
        refine jumpQ_r ?_
        refine finQ_r ?_
        refine ResOk.one rfl (RVal.is rfl rfl (by rw [← hf3]; first | exact congrArg Value.bool (fits_end (m.drop f) left (by omega) (by omega) (dropWhile_nil (by omega))).symm | (rcases Decidable.em ((numR ((m.drop f).takeWhile lowP)).2 = 0) with h0 | h0 <;> first | exact congrArg Value.bool (fits_bad (m.drop f) left h0).symm | exact congrArg Value.bool (fits_more (m.drop f) left (by omega)).symm)))
        done)
    · try simp only [decide_eq_false_iff_not, Bool.or_eq_false_iff, ne_eq] at hb2
      all_goals (
        refine W_skip ?_
        refine thenQ_n ?_
        refine W_seq ?_
        refine W_regionE (c := 26) (c' := 30) (by kernel_rfl) rfl ?_
        refine Runs_p rfl (Valid.movek (A := Is _) rfl rfl) rfl rfl ?_ -- zero.go:121 move
        refine Runs_p rfl (Valid.movek (A := Is _) rfl rfl) rfl rfl ?_ -- zero.go:121 move
        refine Runs_p rfl (Valid.sub rfl rfl rfl (room64 (by first | omega | (simp only [Int.toNat_natCast, toNat_add, toNat_add1, List.length_append, List.length_cons, List.length_nil, List.length_replicate]; omega)) (by first | omega | (simp only [Int.toNat_natCast, toNat_add, toNat_add1, List.length_append, List.length_cons, List.length_nil, List.length_replicate]; omega)))) rfl rfl ?_ -- zero.go:121 binOp
        refine Runs_p rfl (Valid.assignk (A := Is _) rfl rfl) rfl rfl ?_ -- zero.go:121 assign
        refine Runs_nil ?_
        refine thenQ_n ?_
        refine W_seq ?_
        refine W_seq ?_
        refine W_regionE (c := 30) (c' := 34) (by kernel_rfl) rfl ?_
        refine Runs_p rfl (Valid.movek (A := Is _) rfl rfl) rfl rfl ?_ -- zero.go:122 move
        refine Runs_p rfl (Valid.movek (A := Sl 1 _ _) rfl rfl) rfl rfl ?_ -- zero.go:122 move
        refine Runs_p rfl (Valid.len rfl Try.underlying22 (Reads.sl rfl)) rfl rfl ?_ -- zero.go:122 call
        refine Runs_p rfl (Valid.lss rfl rfl rfl) rfl rfl ?_ -- zero.go:122 binOp
        refine Runs_nil ?_
        refine thenQ_n ?_
        refine W_cond _ rfl (fun hb3 => ?_) (fun hb3 => ?_)
        · try simp only [decide_eq_true_eq] at hb3
          all_goals (
            refine W_seq ?_
            refine W_regionE (c := 34) (c' := 37) (by kernel_rfl) rfl ?_
            refine Runs_p rfl (Valid.movek (A := Is _) rfl rfl) rfl rfl ?_ -- zero.go:124 move
            refine Runs_p rfl (Valid.sub rfl rfl rfl (room64 (by first | omega | (simp only [Int.toNat_natCast, toNat_add, toNat_add1, List.length_append, List.length_cons, List.length_nil, List.length_replicate]; omega)) (by first | omega | (simp only [Int.toNat_natCast, toNat_add, toNat_add1, List.length_append, List.length_cons, List.length_nil, List.length_replicate]; omega)))) rfl rfl ?_ -- zero.go:124 binOp
            refine Runs_p rfl (Valid.assignk (A := Is _) rfl rfl) rfl rfl ?_ -- zero.go:124 assign
            refine Runs_nil ?_
            refine thenQ_n ?_
            refine W_seq ?_
            refine W_regionE (c := 37) (c' := 40) (by kernel_rfl) rfl ?_
            refine Runs_p rfl (Valid.movek (A := Is _) rfl rfl) rfl rfl ?_ -- zero.go:125 move
            refine Runs_p rfl (Valid.add rfl rfl rfl (room64 (by first | omega | (simp only [Int.toNat_natCast, toNat_add, toNat_add1, List.length_append, List.length_cons, List.length_nil, List.length_replicate]; omega)) (by first | omega | (simp only [Int.toNat_natCast, toNat_add, toNat_add1, List.length_append, List.length_cons, List.length_nil, List.length_replicate]; omega)))) rfl rfl ?_ -- zero.go:125 binOp
            refine Runs_p rfl (Valid.assignk (A := Is _) rfl rfl) rfl rfl ?_ -- zero.go:125 assign
            refine Runs_nil ?_
            refine thenQ_n ?_
            refine W_goto ?_
            refine thenQ_g ?_
            refine GotoQ.go (⟨runE m f + 1, left - (numR ((m.drop f).takeWhile lowP)).1 - 1⟩) [] (⟨by omega, .inr ⟨by omega, by omega⟩, by rw [← hf3, ← fits_cons (m.drop f) left _ _ (by omega) (dropWhile_cons (by omega))]⟩) (by dsimp only; omega) ⟨⟨(leq_is rfl rfl (by first | rfl | (simp; done) | omega | (simp [toNat_add, toNat_add1, Nat.add_assoc]; done) | (simp [toNat_add, toNat_add1]; omega))), (leq_is rfl rfl (by first | rfl | (simp; done) | omega | (simp [toNat_add, toNat_add1, Nat.add_assoc]; done) | (simp [toNat_add, toNat_add1]; omega))), trivial⟩, ⟨(leq_sl (Reads.sl rfl) rfl rfl rfl), trivial⟩, trivial, trivial, rfl, ⟨supg rfl, supg rfl, trivial⟩, ⟨supg rfl, trivial⟩, trivial, trivial, rfl, rfl⟩
            done)
        · try simp only [decide_eq_false_iff_not] at hb3
          all_goals (
            refine W_skip ?_
            refine thenQ_n ?_
            refine W_seq ?_
            refine W_regionE (c := 34) (c' := 35) (by kernel_rfl) rfl ?_
            refine Runs_p rfl (Valid.assignk (A := Is _) rfl rfl) rfl rfl ?_ -- zero.go:128 assign
            refine Runs_nil ?_
            refine thenQ_n ?_
            refine W_ret ?_
            refine jumpQ_r ?_
            refine finQ_r ?_
            refine ResOk.one rfl (RVal.is rfl rfl (by rw [← hf3]; first | exact congrArg Value.bool (fits_end (m.drop f) left (by omega) (by omega) (dropWhile_nil (by omega))).symm | (rcases Decidable.em ((numR ((m.drop f).takeWhile lowP)).2 = 0) with h0 | h0 <;> first | exact congrArg Value.bool (fits_bad (m.drop f) left h0).symm | exact congrArg Value.bool (fits_more (m.drop f) left (by omega)).symm)))
            done)
        done)

set_option maxRecDepth 100000 in
set_option maxHeartbeats 1000000 in
theorem enc_s (l : List Int) (hl : l.length ≤ 100000000000) :
    FPure Try.prog 14 [Sl 1 l.length (l.map (Value.int .i64))] (Tup [Sl 1 (encV l).1.length ((encV l).1.map (Value.int .i64)), Is (.int .i64 (encV l).2)]) := by
  refine FPure.of Try.func14 Try.ntmps14 rfl (by kernel_rfl) rfl rfl rfl ?_
  refine W_seq ?_
  refine W_regionE (c := 1) (c' := 3) (by kernel_rfl) rfl ?_
  refine Runs_p rfl (Valid.assignk (A := Is (.slice none 0 0)) rfl rfl) rfl rfl ?_ -- zero.go:54 assign
  refine Runs_p rfl (Valid.assignk (A := Is _) rfl rfl) rfl rfl ?_ -- zero.go:54 assign
  refine Runs_nil ?_
  refine thenQ_n ?_
  refine W_scope2 0 rfl (fun (g_ : Nat × Nat × List Int) => match g_ with | ⟨i, z, ys⟩ => i ≤ l.length ∧ z ≤ i ∧ ys ++ enc z (l.drop i) = enc 0 l ∧ outV l 1099511627776 = false) [(0, Sl 1 l.length (l.map (Value.int .i64))), (4, Ptr 40 0), (5, FnV 22 [Ptr 40 0] [])] (fun (g_ : Nat × Nat × List Int) => match g_ with | ⟨i, z, ys⟩ => [(6, Is (.int .i64 (z : Int))), (7, Is (.int .i64 (i : Int)))]) [] (fun (g_ : Nat × Nat × List Int) => match g_ with | ⟨i, z, ys⟩ => [(40, .var 41 [Own 48 1 ys.length (ys.map I64)]), (48, .row 3 1 ys.length (ys.map I64))]) 11 (fun (g_ : Nat × Nat × List Int) => match g_ with | ⟨i, z, ys⟩ => l.length - i) ?_ ?_
  · intro hpass
    refine W_seq ?_
    refine W_seq ?_
    refine W_regionE (c := 3) (c' := 5) (by kernel_rfl) rfl ?_
    refine Runs_p rfl (Valid.movek (A := Sl 1 _ _) rfl rfl) rfl rfl ?_ -- zero.go:55 move
    refine Runs_p rfl (Valid.call rfl (outside_s _ _ (by omega)) ⟨argle_sl (Reads.sl rfl), argle rfl, trivial⟩) rfl rfl ?_ -- zero.go:55 call
    refine Runs_nil ?_
    refine thenQ_n ?_
    refine W_cond _ rfl (fun hb2 => ?_) (fun hb2 => ?_)
    · try simp only [Int.toNat_natCast, toNat_add, toNat_add1, decide_eq_true_eq, decide_eq_false_iff_not, Bool.and_eq_true, Bool.or_eq_true, Bool.and_eq_false_iff, Bool.or_eq_false_iff, Bool.not_eq_true', Bool.not_eq_false', Bool.true_eq_false, Bool.false_eq_true, not_true_eq_false, not_false_eq_true, ne_eq] at hb2
      all_goals (
        refine W_seq ?_
        refine W_regionE (c := 5) (c' := 7) (by kernel_rfl) rfl ?_
        refine Runs_p rfl (Valid.assignk (A := Is (.slice none 0 0)) rfl rfl) rfl rfl ?_ -- zero.go:56 assign
        refine Runs_p rfl (Valid.assignk (A := Is _) rfl rfl) rfl rfl ?_ -- zero.go:56 assign
        refine Runs_nil ?_
        refine thenQ_n ?_
        refine W_ret ?_
        refine thenQ_r ?_
        refine jumpQ_r ?_
        refine finQ_r ?_
        refine ResOk.two rfl (RVal.sl (Reads.nil rfl) rfl (by first | (rw [encV, if_pos (by assumption)]; done) | (rw [encV, if_pos (by assumption)]; rfl) | (rw [encV, if_neg (by rw [hout]; exact Bool.false_ne_true), ← hi3, enc_end z l i (by omega)]; simp; done) | (rw [encV, if_neg (by rw [hout]; exact Bool.false_ne_true)])) (by first | (rw [encV, if_pos (by assumption)]; done) | (rw [encV, if_pos (by assumption)]; rfl) | (rw [encV, if_neg (by rw [hout]; exact Bool.false_ne_true), ← hi3, enc_end z l i (by omega)]; simp; done) | (rw [encV, if_neg (by rw [hout]; exact Bool.false_ne_true)]))) (RVal.is rfl rfl (by first | (rw [encV, if_pos (by assumption)]; done) | (rw [encV, if_pos (by assumption)]; rfl) | (rw [encV, if_neg (by rw [hout]; exact Bool.false_ne_true), ← hi3, enc_end z l i (by omega)]; simp; done) | (rw [encV, if_neg (by rw [hout]; exact Bool.false_ne_true)])))
        done)
    · try simp only [Int.toNat_natCast, toNat_add, toNat_add1, decide_eq_true_eq, decide_eq_false_iff_not, Bool.and_eq_true, Bool.or_eq_true, Bool.and_eq_false_iff, Bool.or_eq_false_iff, Bool.not_eq_true', Bool.not_eq_false', Bool.true_eq_false, Bool.false_eq_true, not_true_eq_false, not_false_eq_true, ne_eq] at hb2
      all_goals (
        refine W_skip ?_
        refine thenQ_n ?_
        refine W_seq ?_
        refine W_regionE (c := 5) (c' := 6) (by kernel_rfl) rfl ?_
        refine Runs_w rfl (Valid.alloc [(Value.slice none 0 0)] rfl zv41 rfl) rfl rfl ?_ -- zero.go:58 alloc
        refine Runs_nil ?_
        refine W.ent ?_ (Ent.ownnilat 40 0 3 1 rfl rfl)
        refine thenQ_n ?_
        refine W_seq ?_
        refine W_regionE (c := 7) (c' := 9) (by kernel_rfl) rfl ?_
        refine Runs_p rfl (Valid.makefunc rfl) rfl rfl ?_ -- zero.go:59 makeFunc
        refine Runs_p rfl (Valid.assignk (A := FnV 22 [Ptr 40 0] []) rfl rfl) rfl rfl ?_ -- zero.go:59 assign
        refine Runs_nil ?_
        refine thenQ_n ?_
        refine W_seq ?_
        refine W_regionE (c := 9) (c' := 11) (by kernel_rfl) rfl ?_
        refine Runs_p rfl (Valid.assignk (A := Is _) rfl rfl) rfl rfl ?_ -- zero.go:60 assign
        refine Runs_p rfl (Valid.assignk (A := Is _) rfl rfl) rfl rfl ?_ -- zero.go:60 assign
        refine Runs_nil ?_
        refine thenQ_n ?_
        refine W_enter hpass (⟨0, 0, []⟩) [] (⟨by omega, by omega, rfl, by assumption⟩) ⟨⟨(leq_is rfl rfl (by first | rfl | (simp; done) | simp)), (leq_is rfl rfl (by first | rfl | (simp; done) | simp)), trivial⟩, ⟨(leq_sl (Reads.sl rfl) rfl rfl rfl), (leq_ptr rfl rfl rfl), (leq_fn rfl rfl ⟨(leq_ptr rfl rfl rfl), trivial⟩ trivial), trivial⟩, ⟨hp_var rfl ⟨(leq_own rfl rfl rfl (by first | rfl | (simp; done) | simp) (by first | rfl | (simp; done) | simp)), trivial⟩, hp_row rfl (by first | rfl | (simp; done) | simp) (by first | rfl | (simp; done) | simp), trivial⟩, trivial, rfl, ⟨supg rfl, supg rfl, trivial⟩, ⟨supg rfl, supg rfl, supg rfl, trivial⟩, ⟨suph rfl rfl, suph rfl rfl, trivial⟩, trivial, rfl, rfl⟩
        done)
  · intro ⟨i, z, ys⟩ hL
    obtain ⟨hi1, hi2, hi3, hout⟩ := hL
    have hel := enc_len l 0
    have hle := congrArg List.length hi3
    simp only [List.length_append] at hle
    have hdz := digs_len (z : Int) (by omega)
    simp only [Int.toNat_natCast] at hdz
    have hev : ∀ k, k < l.length → 0 ≤ l.getD k 0 ∧ l.getD k 0 ≤ 1099511627776 := fun k hk => out_at hout hk
    have hvi := hev i
    refine W_seq ?_
    refine W_seq ?_
    refine W_regionE (c := 11) (c' := 22) (by kernel_rfl) rfl ?_
    refine Runs_p rfl (Valid.movek (A := Is _) rfl rfl) rfl rfl ?_ -- zero.go:62 move
    refine Runs_p rfl (Valid.movek (A := Sl 1 _ _) rfl rfl) rfl rfl ?_ -- zero.go:62 move
    refine Runs_p rfl (Valid.len rfl Try.underlying22 (Reads.sl rfl)) rfl rfl ?_ -- zero.go:62 call
    refine Runs_p rfl (Valid.lss rfl rfl rfl) rfl rfl ?_ -- zero.go:62 binOp
    refine Runs_p rfl (Valid.movek (A := Is _) rfl rfl) rfl rfl ?_ -- zero.go:62 move
    refine Runs_cnd rfl rfl (Grd.is rfl) [] (fun hg => trivial) (fun hg => Valid.movek (A := Sl 1 _ _) rfl rfl) (by rfl) rfl ?_
    refine Runs_cnd rfl rfl (Grd.is rfl) [] (fun hg => trivial) (fun hg => Valid.movek (A := Is _) rfl rfl) (by rfl) rfl ?_
    refine Runs_cnd rfl rfl (Grd.is rfl) [(16, _), (17, _)] (fun hg => ⟨cnd_at rfl (by first | exact hg | exact hg.1 | exact hg.1.1 | exact hg.1.1.1), cnd_at rfl (by first | exact hg | exact hg.1 | exact hg.1.1 | exact hg.1.1.1), trivial⟩) (fun hg => Valid.eltaddr1 0 rfl Try.underlying22 sz3 (Reads.sl rfl) rfl (by simp only [decide_eq_true_eq] at hg; first | omega | (simp only [Int.toNat_natCast, toNat_add, toNat_add1, List.length_append, List.length_cons, List.length_nil, List.length_replicate]; omega)) (by first | rfl | simp)) (by rfl) rfl ?_
    refine Runs_cnd rfl rfl (Grd.is rfl) [(18, _)] (fun hg => ⟨cnd_at rfl (by first | exact hg | exact hg.1 | exact hg.1.1 | exact hg.1.1.1), trivial⟩) (fun hg => Valid.loadelt rfl ag3 rfl) (by rfl) rfl ?_
    refine Runs_cnd rfl rfl (Grd.is rfl) [(19, _)] (fun hg => ⟨cnd_at rfl (by first | exact hg | exact hg.1 | exact hg.1.1 | exact hg.1.1.1), trivial⟩) (fun hg => Valid.eql rfl rfl rfl) (by rfl) rfl ?_
    refine Runs_p rfl (Valid.pickand rfl rfl rfl (fun h => by first | exact h | exact ⟨hg, h⟩) rfl) rfl rfl ?_ -- zero.go:62 pick
    refine Runs_nil ?_
    refine thenQ_n ?_
    refine W_cond _ rfl (fun hb3 => ?_) (fun hb3 => ?_)
    · try simp only [Int.toNat_natCast, decide_eq_true_eq, Bool.and_eq_true] at hb3
      all_goals (
        refine W_seq ?_
        refine W_regionE (c := 22) (c' := 25) (by kernel_rfl) rfl ?_
        refine Runs_p rfl (Valid.movek (A := Is _) rfl rfl) rfl rfl ?_ -- zero.go:63 move
        refine Runs_p rfl (Valid.add rfl rfl rfl (room64 (by first | omega | (simp only [Int.toNat_natCast, toNat_add, toNat_add1, List.length_append, List.length_cons, List.length_nil, List.length_replicate]; omega)) (by first | omega | (simp only [Int.toNat_natCast, toNat_add, toNat_add1, List.length_append, List.length_cons, List.length_nil, List.length_replicate]; omega)))) rfl rfl ?_ -- zero.go:63 binOp
        refine Runs_p rfl (Valid.assignk (A := Is _) rfl rfl) rfl rfl ?_ -- zero.go:63 assign
        refine Runs_nil ?_
        refine thenQ_n ?_
        refine W_seq ?_
        refine W_regionE (c := 25) (c' := 28) (by kernel_rfl) rfl ?_
        refine Runs_p rfl (Valid.movek (A := Is _) rfl rfl) rfl rfl ?_ -- zero.go:64 move
        refine Runs_p rfl (Valid.add rfl rfl rfl (room64 (by first | omega | (simp only [Int.toNat_natCast, toNat_add, toNat_add1, List.length_append, List.length_cons, List.length_nil, List.length_replicate]; omega)) (by first | omega | (simp only [Int.toNat_natCast, toNat_add, toNat_add1, List.length_append, List.length_cons, List.length_nil, List.length_replicate]; omega)))) rfl rfl ?_ -- zero.go:64 binOp
        refine Runs_p rfl (Valid.assignk (A := Is _) rfl rfl) rfl rfl ?_ -- zero.go:64 assign
        refine Runs_nil ?_
        refine thenQ_n ?_
        refine W_goto ?_
        refine thenQ_g ?_
        refine GotoQ.go (⟨i + 1, z + 1, ys⟩) [] (⟨by omega, by omega, by first | (rw [enc_zero z l i (by omega) (by omega)]; exact hi3) | (rw [← hi3, enc_cons z l i (by omega) (by omega)]; simp), hout⟩) (by dsimp only; omega) ⟨⟨(leq_is rfl rfl (by first | rfl | (simp; done) | simp)), (leq_is rfl rfl (by first | rfl | (simp; done) | simp)), trivial⟩, ⟨(leq_sl (Reads.sl rfl) rfl rfl rfl), (leq_ptr rfl rfl rfl), (leq_fn rfl rfl ⟨(leq_ptr rfl rfl rfl), trivial⟩ trivial), trivial⟩, ⟨hp_var rfl ⟨(leq_own rfl rfl rfl (by first | rfl | (simp; done) | simp) (by first | rfl | (simp; done) | simp)), trivial⟩, hp_row rfl (by first | rfl | (simp; done) | simp) (by first | rfl | (simp; done) | simp), trivial⟩, trivial, rfl, ⟨supg rfl, supg rfl, trivial⟩, ⟨supg rfl, supg rfl, supg rfl, trivial⟩, ⟨suph rfl rfl, suph rfl rfl, trivial⟩, trivial, rfl, rfl⟩
        done)
    · try simp only [Int.toNat_natCast, decide_eq_false_iff_not, Bool.and_eq_false_iff] at hb3
      all_goals (
        refine W_skip ?_
        refine thenQ_n ?_
        refine W_seq ?_
        refine W_regionE (c := 22) (c' := 25) (by kernel_rfl) rfl ?_
        refine Runs_p rfl (Valid.movek (A := Is _) rfl rfl) rfl rfl ?_ -- zero.go:67 move
        refine Runs_p rfl (Valid.movek (A := FnV 22 [Ptr 40 0] []) rfl rfl) rfl rfl ?_ -- zero.go:67 move
        refine Runs_w rfl (Valid.callm [(0, 40), (1, 48)] rfl (.inl ⟨rfl, rfl⟩) (spell_s _ _ (by omega) (by simp only [Int.toNat_natCast]; omega)) ⟨(leq_is rfl rfl rfl), (leq_fn rfl rfl ⟨(leq_ptr rfl rfl rfl), trivial⟩ trivial), trivial⟩ ⟨⟨_, rfl, .var ⟨(leq_own rfl rfl rfl rfl rfl), trivial⟩⟩, ⟨_, rfl, .row rfl rfl⟩, trivial⟩ (up_pure rfl) (hpup_cons (j := 40) rfl (cup_var (allup_cons (up_own' (id' := 192) rfl) allup_nil)) (hpup_cons (j := 192) rfl cup_row hpup_nil)) (by kernel_rfl) (by kernel_rfl) (by kernel_rfl) (by kernel_rfl) (by kernel_rfl) (by kernel_rfl) (by kernel_rfl) (by kernel_rfl) (by kernel_rfl)) rfl rfl ?_ -- zero.go:67 call
        refine Runs_nil ?_
        refine thenQ_n ?_
        refine W_seq ?_
        refine W_regionE (c := 25) (c' := 26) (by kernel_rfl) rfl ?_
        refine Runs_p rfl (Valid.assignk (A := Is _) rfl rfl) rfl rfl ?_ -- zero.go:68 assign
        refine Runs_nil ?_
        refine thenQ_n ?_
        refine W_seq ?_
        refine W_seq ?_
        refine W_regionE (c := 26) (c' := 30) (by kernel_rfl) rfl ?_
        refine Runs_p rfl (Valid.movek (A := Is _) rfl rfl) rfl rfl ?_ -- zero.go:69 move
        refine Runs_p rfl (Valid.movek (A := Sl 1 _ _) rfl rfl) rfl rfl ?_ -- zero.go:69 move
        refine Runs_p rfl (Valid.len rfl Try.underlying22 (Reads.sl rfl)) rfl rfl ?_ -- zero.go:69 call
        refine Runs_p rfl (Valid.lss rfl rfl rfl) rfl rfl ?_ -- zero.go:69 binOp
        refine Runs_nil ?_
        refine thenQ_n ?_
        refine W_cond _ rfl (fun hb4 => ?_) (fun hb4 => ?_)
        · try simp only [decide_eq_true_eq] at hb4
          all_goals (
            refine W_seq ?_
            refine W_regionE (c := 30) (c' := 37) (by kernel_rfl) rfl ?_
            refine Runs_p rfl (Valid.movek (A := FnV 22 [Ptr 40 0] []) rfl rfl) rfl rfl ?_ -- zero.go:70 move
            refine Runs_p rfl (Valid.movek (A := Sl 1 _ _) rfl rfl) rfl rfl ?_ -- zero.go:70 move
            refine Runs_p rfl (Valid.movek (A := Is _) rfl rfl) rfl rfl ?_ -- zero.go:70 move
            refine Runs_p rfl (Valid.eltaddr1 0 rfl Try.underlying22 sz3 (Reads.sl rfl) rfl (by first | omega | (simp only [Int.toNat_natCast, toNat_add, toNat_add1, List.length_append, List.length_cons, List.length_nil, List.length_replicate]; omega)) (by first | rfl | simp)) rfl rfl ?_ -- zero.go:70 indexAddr
            refine Runs_p rfl (Valid.loadelt rfl ag3 rfl) rfl rfl ?_ -- zero.go:70 load
            refine Runs_p rfl (Valid.add rfl rfl rfl (room64 (by simp only [Int.toNat_natCast]; omega) (by simp only [Int.toNat_natCast]; omega))) rfl rfl ?_ -- zero.go:70 binOp
            refine Runs_w rfl (Valid.callm [(0, 40), (1, 192)] rfl (.inr ⟨_, _, rfl, rfl⟩) (lay_s (ys ++ digs (z : Int).toNat) (l.getD (i : Int).toNat 0 + 1) (by simp only [Int.toNat_natCast, List.length_append]; omega)) ⟨(leq_ptr rfl rfl rfl), (leq_is rfl rfl rfl), trivial⟩ ⟨⟨_, rfl, .var ⟨(leq_own rfl rfl rfl rfl rfl), trivial⟩⟩, ⟨_, rfl, .row rfl rfl⟩, trivial⟩ (up_pure rfl) (hpup_cons (j := 40) rfl (cup_var (allup_cons (up_own' (id' := 288) rfl) allup_nil)) (hpup_cons (j := 288) rfl cup_row hpup_nil)) (by kernel_rfl) (by kernel_rfl) (by kernel_rfl) (by kernel_rfl) (by kernel_rfl) (by kernel_rfl) (by kernel_rfl) (by kernel_rfl) (by kernel_rfl)) rfl rfl ?_ -- zero.go:70 call
            refine Runs_nil ?_
            refine thenQ_n ?_
            refine W_seq ?_
            refine W_regionE (c := 37) (c' := 40) (by kernel_rfl) rfl ?_
            refine Runs_p rfl (Valid.movek (A := Is _) rfl rfl) rfl rfl ?_ -- zero.go:71 move
            refine Runs_p rfl (Valid.add rfl rfl rfl (room64 (by first | omega | (simp only [Int.toNat_natCast, toNat_add, toNat_add1, List.length_append, List.length_cons, List.length_nil, List.length_replicate]; omega)) (by first | omega | (simp only [Int.toNat_natCast, toNat_add, toNat_add1, List.length_append, List.length_cons, List.length_nil, List.length_replicate]; omega)))) rfl rfl ?_ -- zero.go:71 binOp
            refine Runs_p rfl (Valid.assignk (A := Is _) rfl rfl) rfl rfl ?_ -- zero.go:71 assign
            refine Runs_nil ?_
            refine thenQ_n ?_
            refine W_goto ?_
            refine thenQ_g ?_
            refine GotoQ.go (⟨i + 1, 0, ys ++ digs z ++ [l.getD i 0 + 1]⟩) [(48, 288)] (⟨by omega, by omega, by first | (rw [enc_zero z l i (by omega) (by omega)]; exact hi3) | (rw [← hi3, enc_cons z l i (by omega) (by omega)]; simp), hout⟩) (by dsimp only; omega) ⟨⟨(leq_is rfl rfl (by first | rfl | (simp; done) | simp)), (leq_is rfl rfl (by first | rfl | (simp; done) | simp)), trivial⟩, ⟨(leq_sl (Reads.sl rfl) rfl rfl rfl), (leq_ptr rfl rfl rfl), (leq_fn rfl rfl ⟨(leq_ptr rfl rfl rfl), trivial⟩ trivial), trivial⟩, ⟨hp_var rfl ⟨(leq_own rfl rfl rfl (by first | rfl | (simp; done) | simp) (by first | rfl | (simp; done) | simp)), trivial⟩, hp_row rfl (by first | rfl | (simp; done) | simp) (by first | rfl | (simp; done) | simp), trivial⟩, trivial, rfl, ⟨supg rfl, supg rfl, trivial⟩, ⟨supg rfl, supg rfl, supg rfl, trivial⟩, ⟨suph rfl rfl, suph rfl rfl, trivial⟩, trivial, rfl, rfl⟩
            done)
        · try simp only [decide_eq_false_iff_not] at hb4
          all_goals (
            refine W_skip ?_
            refine thenQ_n ?_
            refine W_seq ?_
            refine W_regionE (c := 30) (c' := 34) (by kernel_rfl) rfl ?_
            refine Runs_p rfl (Valid.fieldaddr (off' := 0) rfl rfl (fun _ _ => by kernel_rfl)) rfl rfl ?_ -- zero.go:74 fieldAddr
            refine Runs_p rfl (Valid.load _ rfl ag22 rfl rfl rfl) rfl rfl ?_ -- zero.go:74 load
            refine Runs_p rfl (Valid.assignk (A := Own 192 1 _ _) rfl rfl) rfl rfl ?_ -- zero.go:74 assign
            refine Runs_p rfl (Valid.assignk (A := Is _) rfl rfl) rfl rfl ?_ -- zero.go:74 assign
            refine Runs_nil ?_
            refine thenQ_n ?_
            refine W_ret ?_
            refine jumpQ_r ?_
            refine finQ_r ?_
            refine ResOk.two rfl (RVal.sl (Reads.own rfl) rfl (by first | (rw [encV, if_pos (by assumption)]; done) | (rw [encV, if_pos (by assumption)]; rfl) | (rw [encV, if_neg (by rw [hout]; exact Bool.false_ne_true), ← hi3, enc_end z l i (by omega)]; simp; done) | (rw [encV, if_neg (by rw [hout]; exact Bool.false_ne_true)])) (by first | (rw [encV, if_pos (by assumption)]; done) | (rw [encV, if_pos (by assumption)]; rfl) | (rw [encV, if_neg (by rw [hout]; exact Bool.false_ne_true), ← hi3, enc_end z l i (by omega)]; simp; done) | (rw [encV, if_neg (by rw [hout]; exact Bool.false_ne_true)]))) (RVal.is rfl rfl (by first | (rw [encV, if_pos (by assumption)]; done) | (rw [encV, if_pos (by assumption)]; rfl) | (rw [encV, if_neg (by rw [hout]; exact Bool.false_ne_true), ← hi3, enc_end z l i (by omega)]; simp; done) | (rw [encV, if_neg (by rw [hout]; exact Bool.false_ne_true)])))
            done)
        done)
end Zd
end Go.Proofs.Ytimpmdcebapfiaa
