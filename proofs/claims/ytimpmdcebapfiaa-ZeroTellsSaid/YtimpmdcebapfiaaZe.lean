/-
  WALKS of stage 6: Decode, and the reference.
-/
import Derived.Test.YtimpmdcebapfiaaRows
import Derived.Test.YtimpmdcebapfiaaZm
import Derived.Test.YtimpmdcebapfiaaZn
import Derived.Test.YtimpmdcebapfiaaZo
import Derived.Test.YtimpmdcebapfiaaZp
import Derived.Test.YtimpmdcebapfiaaZa
import Derived.Test.YtimpmdcebapfiaaZb
import Derived.Test.YtimpmdcebapfiaaZc
import Derived.Test.YtimpmdcebapfiaaZd
namespace Go.Proofs.Ytimpmdcebapfiaa
open Go.RowKit
namespace Ze
open Ab Zm Zn Zo Zp Za Zb Zc Zd
theorem ag22 (w : World) : (isAgg 22).run Try.prog w = .ok false w := by kernel_rfl
theorem ag3 (w : World) : (isAgg 3).run Try.prog w = .ok false w := by kernel_rfl
theorem sz3 (w : World) : (sizeOf 3).run Try.prog w = .ok 1 w := by kernel_rfl
theorem zv41 (w : World) : (zeroValue 41).run Try.prog w = .ok (.agg #[(Value.slice none 0 0)]) w := by kernel_rfl
set_option maxRecDepth 100000 in
set_option maxHeartbeats 1000000 in
theorem dec_s (m : List Int) (most : Int) (hl : m.length ≤ 100000000000) (hm : In64 m) (h1 : -9223372036854775808 ≤ most) (h2 : most ≤ 100000000000) :
    FPure Try.prog 19 [Sl 1 m.length (m.map (Value.int .i64)), Is (.int .i64 most)] (Tup [Sl 1 (decV m most).1.length ((decV m most).1.map (Value.int .i64)), Is (.int .i64 (decV m most).2)]) := by
  refine FPure.of Try.func19 Try.ntmps19 rfl (by kernel_rfl) rfl rfl rfl ?_
  refine W_seq ?_
  refine W_regionE (c := 1) (c' := 3) (by kernel_rfl) rfl ?_
  refine Runs_p rfl (Valid.assignk (A := Is (.slice none 0 0)) rfl rfl) rfl rfl ?_ -- zero.go:88 assign
  refine Runs_p rfl (Valid.assignk (A := Is _) rfl rfl) rfl rfl ?_ -- zero.go:88 assign
  refine Runs_nil ?_
  refine thenQ_n ?_
  refine W_scope2 0 rfl (fun (g_ : Nat × List Int) => match g_ with | ⟨f, ys⟩ => f ≤ m.length ∧ outV m 9223372036854775807 = false ∧ ∃ o, decR (m.drop f) = some o ∧ decR m = some (ys ++ o) ∧ ((ys ++ o).length : Int) ≤ most) [(0, Sl 1 m.length (m.map (Value.int .i64))), (6, Ptr 72 0), (7, FnV 22 [Ptr 72 0] [])] (fun (g_ : Nat × List Int) => match g_ with | ⟨f, ys⟩ => [(8, Is (.int .i64 (f : Int)))]) [] (fun (g_ : Nat × List Int) => match g_ with | ⟨f, ys⟩ => [(72, .var 41 [Own 80 1 ys.length (ys.map I64)]), (80, .row 3 1 ys.length (ys.map I64))]) 14 (fun (g_ : Nat × List Int) => match g_ with | ⟨f, ys⟩ => m.length - f) ?_ ?_
  · intro hpass
    refine W_seq ?_
    refine W_seq ?_
    refine W_regionE (c := 3) (c' := 5) (by kernel_rfl) rfl ?_
    refine Runs_p rfl (Valid.movek (A := Sl 1 _ _) rfl rfl) rfl rfl ?_ -- zero.go:89 move
    refine Runs_p rfl (Valid.call rfl (outside_s _ _ (by omega)) ⟨argle_sl (Reads.sl rfl), argle rfl, trivial⟩) rfl rfl ?_ -- zero.go:89 call
    refine Runs_nil ?_
    refine thenQ_n ?_
    refine W_cond _ rfl (fun hb2 => ?_) (fun hb2 => ?_)
    · try simp only [Int.toNat_natCast, toNat_add, toNat_add1, decide_eq_true_eq, decide_eq_false_iff_not, Bool.and_eq_true, Bool.or_eq_true, Bool.and_eq_false_iff, Bool.or_eq_false_iff, Bool.not_eq_true', Bool.not_eq_false', Bool.true_eq_false, Bool.false_eq_true, not_true_eq_false, not_false_eq_true, ne_eq] at hb2
      all_goals (
        refine W_seq ?_
        refine W_regionE (c := 5) (c' := 7) (by kernel_rfl) rfl ?_
        refine Runs_p rfl (Valid.assignk (A := Is (.slice none 0 0)) rfl rfl) rfl rfl ?_ -- zero.go:90 assign
        refine Runs_p rfl (Valid.assignk (A := Is _) rfl rfl) rfl rfl ?_ -- zero.go:90 assign
        refine Runs_nil ?_
        refine thenQ_n ?_
        refine W_ret ?_
        refine thenQ_r ?_
        refine jumpQ_r ?_
        refine finQ_r ?_
        refine ResOk.two rfl (RVal.sl (Reads.nil rfl) rfl (by first | (rw [decV_bad (out_big hm (by assumption))]; done) | (rw [decV_bad (out_big hm (by assumption))]; rfl) | (rw [decV_no (out_neg (by assumption)) (by assumption)]; done) | (rw [decV_no (out_neg (by assumption)) (by assumption)]; rfl) | (rcases hso with ⟨hh, e⟩ | ⟨hh, _⟩ <;> first | (exfalso; omega) | (rw [show (numR ((m.drop f).takeWhile lowP)).1.toNat = k by omega] at e; subst e; first | (rw [decV_ok (out_neg hout) ho2 (by simp only [List.length_append]; exact hmo)]; done) | (rw [decV_ok (out_neg hout) ho2 (by simp only [List.length_append]; exact hmo)]; rfl)))) (by first | (rw [decV_bad (out_big hm (by assumption))]; done) | (rw [decV_bad (out_big hm (by assumption))]; rfl) | (rw [decV_no (out_neg (by assumption)) (by assumption)]; done) | (rw [decV_no (out_neg (by assumption)) (by assumption)]; rfl) | (rcases hso with ⟨hh, e⟩ | ⟨hh, _⟩ <;> first | (exfalso; omega) | (rw [show (numR ((m.drop f).takeWhile lowP)).1.toNat = k by omega] at e; subst e; first | (rw [decV_ok (out_neg hout) ho2 (by simp only [List.length_append]; exact hmo)]; done) | (rw [decV_ok (out_neg hout) ho2 (by simp only [List.length_append]; exact hmo)]; rfl))))) (RVal.is rfl rfl (by first | (rw [decV_bad (out_big hm (by assumption))]; done) | (rw [decV_bad (out_big hm (by assumption))]; rfl) | (rw [decV_no (out_neg (by assumption)) (by assumption)]; done) | (rw [decV_no (out_neg (by assumption)) (by assumption)]; rfl) | (rcases hso with ⟨hh, e⟩ | ⟨hh, _⟩ <;> first | (exfalso; omega) | (rw [show (numR ((m.drop f).takeWhile lowP)).1.toNat = k by omega] at e; subst e; first | (rw [decV_ok (out_neg hout) ho2 (by simp only [List.length_append]; exact hmo)]; done) | (rw [decV_ok (out_neg hout) ho2 (by simp only [List.length_append]; exact hmo)]; rfl)))))
        done)
    · try simp only [Int.toNat_natCast, toNat_add, toNat_add1, decide_eq_true_eq, decide_eq_false_iff_not, Bool.and_eq_true, Bool.or_eq_true, Bool.and_eq_false_iff, Bool.or_eq_false_iff, Bool.not_eq_true', Bool.not_eq_false', Bool.true_eq_false, Bool.false_eq_true, not_true_eq_false, not_false_eq_true, ne_eq] at hb2
      all_goals (
        refine W_skip ?_
        refine thenQ_n ?_
        refine W_seq ?_
        refine W_seq ?_
        refine W_regionE (c := 5) (c' := 9) (by kernel_rfl) rfl ?_
        refine Runs_p rfl (Valid.movek (A := Sl 1 _ _) rfl rfl) rfl rfl ?_ -- zero.go:92 move
        refine Runs_p rfl (Valid.movek (A := Is _) rfl rfl) rfl rfl ?_ -- zero.go:92 move
        refine Runs_p rfl (Valid.call rfl (fits_s _ _ (by omega) (by omega) (by omega)) ⟨argle_sl (Reads.sl rfl), argle rfl, trivial⟩) rfl rfl ?_ -- zero.go:92 call
        refine Runs_p rfl (Valid.not rfl rfl) rfl rfl ?_ -- zero.go:92 unOp
        refine Runs_nil ?_
        refine thenQ_n ?_
        refine W_cond _ rfl (fun hb3 => ?_) (fun hb3 => ?_)
        · try simp only [Bool.not_eq_true'] at hb3
          all_goals (
            refine W_seq ?_
            refine W_regionE (c := 9) (c' := 11) (by kernel_rfl) rfl ?_
            refine Runs_p rfl (Valid.assignk (A := Is (.slice none 0 0)) rfl rfl) rfl rfl ?_ -- zero.go:93 assign
            refine Runs_p rfl (Valid.assignk (A := Is _) rfl rfl) rfl rfl ?_ -- zero.go:93 assign
            refine Runs_nil ?_
            refine thenQ_n ?_
            refine W_ret ?_
            refine thenQ_r ?_
            refine jumpQ_r ?_
            refine finQ_r ?_
            refine ResOk.two rfl (RVal.sl (Reads.nil rfl) rfl (by first | (rw [decV_bad (out_big hm (by assumption))]; done) | (rw [decV_bad (out_big hm (by assumption))]; rfl) | (rw [decV_no (out_neg (by assumption)) (by assumption)]; done) | (rw [decV_no (out_neg (by assumption)) (by assumption)]; rfl) | (rcases hso with ⟨hh, e⟩ | ⟨hh, _⟩ <;> first | (exfalso; omega) | (rw [show (numR ((m.drop f).takeWhile lowP)).1.toNat = k by omega] at e; subst e; first | (rw [decV_ok (out_neg hout) ho2 (by simp only [List.length_append]; exact hmo)]; done) | (rw [decV_ok (out_neg hout) ho2 (by simp only [List.length_append]; exact hmo)]; rfl)))) (by first | (rw [decV_bad (out_big hm (by assumption))]; done) | (rw [decV_bad (out_big hm (by assumption))]; rfl) | (rw [decV_no (out_neg (by assumption)) (by assumption)]; done) | (rw [decV_no (out_neg (by assumption)) (by assumption)]; rfl) | (rcases hso with ⟨hh, e⟩ | ⟨hh, _⟩ <;> first | (exfalso; omega) | (rw [show (numR ((m.drop f).takeWhile lowP)).1.toNat = k by omega] at e; subst e; first | (rw [decV_ok (out_neg hout) ho2 (by simp only [List.length_append]; exact hmo)]; done) | (rw [decV_ok (out_neg hout) ho2 (by simp only [List.length_append]; exact hmo)]; rfl))))) (RVal.is rfl rfl (by first | (rw [decV_bad (out_big hm (by assumption))]; done) | (rw [decV_bad (out_big hm (by assumption))]; rfl) | (rw [decV_no (out_neg (by assumption)) (by assumption)]; done) | (rw [decV_no (out_neg (by assumption)) (by assumption)]; rfl) | (rcases hso with ⟨hh, e⟩ | ⟨hh, _⟩ <;> first | (exfalso; omega) | (rw [show (numR ((m.drop f).takeWhile lowP)).1.toNat = k by omega] at e; subst e; first | (rw [decV_ok (out_neg hout) ho2 (by simp only [List.length_append]; exact hmo)]; done) | (rw [decV_ok (out_neg hout) ho2 (by simp only [List.length_append]; exact hmo)]; rfl)))))
            done)
        · try simp only [Bool.not_eq_false'] at hb3
          all_goals (
            refine W_skip ?_
            refine thenQ_n ?_
            refine W_seq ?_
            refine W_regionE (c := 9) (c' := 10) (by kernel_rfl) rfl ?_
            refine Runs_w rfl (Valid.alloc [(Value.slice none 0 0)] rfl zv41 rfl) rfl rfl ?_ -- zero.go:95 alloc
            refine Runs_nil ?_
            refine W.ent ?_ (Ent.ownnilat 72 0 3 1 rfl rfl)
            refine thenQ_n ?_
            refine W_seq ?_
            refine W_regionE (c := 11) (c' := 13) (by kernel_rfl) rfl ?_
            refine Runs_p rfl (Valid.makefunc rfl) rfl rfl ?_ -- zero.go:96 makeFunc
            refine Runs_p rfl (Valid.assignk (A := FnV 22 [Ptr 72 0] []) rfl rfl) rfl rfl ?_ -- zero.go:96 assign
            refine Runs_nil ?_
            refine thenQ_n ?_
            refine W_seq ?_
            refine W_regionE (c := 13) (c' := 14) (by kernel_rfl) rfl ?_
            refine Runs_p rfl (Valid.assignk (A := Is _) rfl rfl) rfl rfl ?_ -- zero.go:97 assign
            refine Runs_nil ?_
            refine thenQ_n ?_
            refine W_enter hpass (⟨0, []⟩) [] (⟨by omega, by assumption, by obtain ⟨o, e1, e2⟩ := fits_ok (by assumption); exact ⟨o, e1, e1, e2⟩⟩) ⟨⟨(leq_is rfl rfl (by first | rfl | (simp; done) | simp)), trivial⟩, ⟨(leq_sl (Reads.sl rfl) rfl rfl rfl), (leq_ptr rfl rfl rfl), (leq_fn rfl rfl ⟨(leq_ptr rfl rfl rfl), trivial⟩ trivial), trivial⟩, ⟨hp_var rfl ⟨(leq_own rfl rfl rfl (by first | rfl | (simp; done) | simp) (by first | rfl | (simp; done) | simp)), trivial⟩, hp_row rfl (by first | rfl | (simp; done) | simp) (by first | rfl | (simp; done) | simp), trivial⟩, trivial, rfl, ⟨supg rfl, trivial⟩, ⟨supg rfl, supg rfl, supg rfl, trivial⟩, ⟨suph rfl rfl, suph rfl rfl, trivial⟩, trivial, rfl, rfl⟩
            done)
        done)
  · intro ⟨f, ys⟩ hL
    obtain ⟨hf, hout, o, ho1, ho2, hmo⟩ := hL
    obtain ⟨hs0, hso⟩ := dec_at ho1
    simp only [List.length_append] at hmo
    have hrb := runE_bd m f hf
    have hnr := numR_range ((m.drop f).takeWhile lowP)
    have hel : runE m f < m.length → 0 ≤ m.getD (runE m f) 0 ∧ m.getD (runE m f) 0 ≤ 9223372036854775807 := fun h => out_at hout h
    have hol : (numR ((m.drop f).takeWhile lowP)).1.toNat ≤ o.length := by rcases hso with ⟨_, e⟩ | ⟨_, o2, _, e⟩ <;> rw [e] <;> simp
    have hol2 : runE m f < m.length → (numR ((m.drop f).takeWhile lowP)).1.toNat + 1 ≤ o.length := by
      intro hlt
      rcases hso with ⟨hh, e⟩ | ⟨_, o2, _, e⟩
      · omega
      · rw [e]; simp
    refine W_seq ?_
    refine W_regionE (c := 14) (c' := 18) (by kernel_rfl) rfl ?_
    refine Runs_p rfl (Valid.movek (A := Sl 1 _ _) rfl rfl) rfl rfl ?_ -- zero.go:99 move
    refine Runs_p rfl (Valid.movek (A := Is _) rfl rfl) rfl rfl ?_ -- zero.go:99 move
    refine Runs_p rfl (Valid.call rfl (end_s _ _ (by omega) (by omega)) ⟨argle_sl (Reads.sl rfl), argle rfl, trivial⟩) rfl rfl ?_ -- zero.go:99 call
    refine Runs_p rfl (Valid.assignk (A := Is _) rfl rfl) rfl rfl ?_ -- zero.go:99 assign
    refine Runs_nil ?_
    refine thenQ_n ?_
    refine W_seq ?_
    refine W_regionE (c := 18) (c' := 28) (by kernel_rfl) rfl ?_
    refine Runs_p rfl (Valid.movek (A := Sl 1 _ _) rfl rfl) rfl rfl ?_ -- zero.go:100 move
    refine Runs_p rfl (Valid.movek (A := Is _) rfl rfl) rfl rfl ?_ -- zero.go:100 move
    refine Runs_p rfl (Valid.movek (A := Is _) rfl rfl) rfl rfl ?_ -- zero.go:100 move
    refine Runs_p rfl (Valid.slice1 rfl Try.underlying22 sz3 (Reads.sl rfl) rfl rfl (by first | omega | (simp only [Int.toNat_natCast, toNat_add, toNat_add1, List.length_append, List.length_cons, List.length_nil, List.length_replicate]; omega))) rfl rfl ?_ -- zero.go:100 slice
    refine Runs_p rfl (Valid.call rfl (num_seg m f _ _ _ rfl rfl (by omega) rfl (by omega)) ⟨argle_sl (Reads.sl rfl), trivial⟩) rfl rfl ?_ -- zero.go:100 call
    refine Runs_p rfl (Valid.movek (A := Tup [Is _, Is _]) rfl rfl) rfl rfl ?_ -- zero.go:100 move
    refine Runs_p rfl (Valid.extract _ rfl rfl rfl) rfl rfl ?_ -- zero.go:100 extract
    refine Runs_p rfl (Valid.extract _ rfl rfl rfl) rfl rfl ?_ -- zero.go:100 extract
    refine Runs_p rfl (Valid.assignk (A := Is _) rfl rfl) rfl rfl ?_ -- zero.go:100 assign
    refine Runs_p rfl (Valid.assignk (A := Is _) rfl rfl) rfl rfl ?_ -- zero.go:100 assign
    refine Runs_nil ?_
    refine thenQ_n ?_
    refine W_seq ?_
    refine W_seq ?_
    refine W_regionE (c := 28) (c' := 30) (by kernel_rfl) rfl ?_
    refine Runs_p rfl (Valid.movek (A := Is _) rfl rfl) rfl rfl ?_ -- zero.go:101 move
    refine Runs_p rfl (Valid.movek (A := Is _) rfl rfl) rfl rfl ?_ -- zero.go:101 move
    refine Runs_nil ?_
    refine thenQ_n ?_
    refine W_block ?_
    refine W_loopx (G := Nat) (fun (k : Nat) => k ≤ (numR ((m.drop f).takeWhile lowP)).1.toNat) [(0, Sl 1 _ _), (6, Ptr 72 0), (7, FnV 22 [Ptr 72 0] []), (9, Is _), (30, Is _)] (fun (k : Nat) => [(31, Is (.int .i64 (k : Int)))]) [] (fun (k : Nat) => [(72, .var 41 [Own 80 1 (ys ++ List.replicate k 0).length ((ys ++ List.replicate k 0).map I64)]), (80, .row 3 1 (ys ++ List.replicate k 0).length ((ys ++ List.replicate k 0).map I64))]) 30 (fun (k : Nat) => (numR ((m.drop f).takeWhile lowP)).1.toNat - k) (0) [] (by omega) ⟨⟨(leq_is rfl rfl (by first | rfl | (simp; done) | (simp [List.replicate_succ']; done) | simp)), trivial⟩, ⟨(leq_sl (Reads.sl rfl) rfl rfl rfl), (leq_ptr rfl rfl rfl), (leq_fn rfl rfl ⟨(leq_ptr rfl rfl rfl), trivial⟩ trivial), (leq_is rfl rfl rfl), (leq_is rfl rfl rfl), trivial⟩, ⟨hp_var rfl ⟨(leq_own rfl rfl rfl (by first | rfl | (simp; done) | (simp [List.replicate_succ']; done) | simp) (by first | rfl | (simp; done) | (simp [List.replicate_succ']; done) | simp)), trivial⟩, hp_row rfl (by first | rfl | (simp; done) | (simp [List.replicate_succ']; done) | simp) (by first | rfl | (simp; done) | (simp [List.replicate_succ']; done) | simp), trivial⟩, trivial, rfl, ⟨supg rfl, trivial⟩, ⟨supg rfl, supg rfl, supg rfl, supg rfl, supg rfl, trivial⟩, ⟨suph rfl rfl, suph rfl rfl, trivial⟩, trivial, rfl, rfl⟩ ?_
    intro k hI1
    refine W_seq ?_
    refine W_regionE (c := 30) (c' := 31) (by kernel_rfl) rfl ?_
    refine Runs_p rfl (Valid.lss rfl rfl rfl) rfl rfl ?_ -- zero.go:101 binOp
    refine Runs_nil ?_
    refine thenQ_n ?_
    refine W_seq ?_
    refine W_cond _ rfl (fun hb4 => ?_) (fun hb4 => ?_)
    · try simp only [decide_eq_true_eq] at hb4
      all_goals (
        refine W_skip ?_
        refine thenQ_n ?_
        refine W_seq ?_
        refine W_block ?_
        refine W_regionE (c := 31) (c' := 33) (by kernel_rfl) rfl ?_
        refine Runs_p rfl (Valid.movek (A := FnV 22 [Ptr 72 0] []) rfl rfl) rfl rfl ?_ -- zero.go:102 move
        refine Runs_w rfl (Valid.callm [(0, 72), (1, 80)] rfl (.inr ⟨_, _, rfl, rfl⟩) (lay_s (ys ++ List.replicate k 0) 0 (by simp; omega)) ⟨(leq_ptr rfl rfl rfl), (leq_is rfl rfl rfl), trivial⟩ ⟨⟨_, rfl, .var ⟨(leq_own rfl rfl rfl rfl rfl), trivial⟩⟩, ⟨_, rfl, .row rfl rfl⟩, trivial⟩ (up_pure rfl) (hpup_cons (j := 72) rfl (cup_var (allup_cons (up_own' (id' := 256) rfl) allup_nil)) (hpup_cons (j := 256) rfl cup_row hpup_nil)) (by kernel_rfl) (by kernel_rfl) (by kernel_rfl) (by kernel_rfl) (by kernel_rfl) (by kernel_rfl) (by kernel_rfl) (by kernel_rfl) (by kernel_rfl)) rfl rfl ?_ -- zero.go:102 call
        refine Runs_nil ?_
        refine blockQ_n ?_
        refine thenQ_n ?_
        refine W_regionE (c := 33) (c' := 35) (by kernel_rfl) rfl ?_
        refine Runs_p rfl (Valid.add rfl rfl rfl (room64 (by first | omega | (simp only [Int.toNat_natCast, toNat_add, toNat_add1, List.length_append, List.length_cons, List.length_nil, List.length_replicate]; omega)) (by first | omega | (simp only [Int.toNat_natCast, toNat_add, toNat_add1, List.length_append, List.length_cons, List.length_nil, List.length_replicate]; omega)))) rfl rfl ?_ -- zero.go:101 binOp
        refine Runs_p rfl (Valid.movek (A := Is _) rfl rfl) rfl rfl ?_ -- zero.go:101 move
        refine Runs_nil ?_
        refine LoopQ.next (k + 1) [(80, 256)] (by omega) (by omega) ⟨⟨(leq_is rfl rfl (by first | rfl | (simp; done) | (simp [List.replicate_succ']; done) | simp)), trivial⟩, ⟨(leq_sl (Reads.sl rfl) rfl rfl rfl), (leq_ptr rfl rfl rfl), (leq_fn rfl rfl ⟨(leq_ptr rfl rfl rfl), trivial⟩ trivial), (leq_is rfl rfl rfl), (leq_is rfl rfl rfl), trivial⟩, ⟨hp_var rfl ⟨(leq_own rfl rfl rfl (by first | rfl | (simp; done) | (simp [List.replicate_succ']; done) | simp) (by first | rfl | (simp; done) | (simp [List.replicate_succ']; done) | simp)), trivial⟩, hp_row rfl (by first | rfl | (simp; done) | (simp [List.replicate_succ']; done) | simp) (by first | rfl | (simp; done) | (simp [List.replicate_succ']; done) | simp), trivial⟩, trivial, rfl, ⟨supg rfl, trivial⟩, ⟨supg rfl, supg rfl, supg rfl, supg rfl, supg rfl, trivial⟩, ⟨suph rfl rfl, suph rfl rfl, trivial⟩, trivial, rfl, rfl⟩
        done)
    · try simp only [decide_eq_false_iff_not] at hb4
      all_goals (
        refine W_exit ?_
        refine thenQ_e ?_
        refine loopQ_e ?_
        refine blockQ_x ?_
        refine thenQ_n ?_
        refine W_seq ?_
        refine W_seq ?_
        refine W_regionE (c := 31) (c' := 35) (by kernel_rfl) rfl ?_
        refine Runs_p rfl (Valid.movek (A := Is _) rfl rfl) rfl rfl ?_ -- zero.go:104 move
        refine Runs_p rfl (Valid.movek (A := Sl 1 _ _) rfl rfl) rfl rfl ?_ -- zero.go:104 move
        refine Runs_p rfl (Valid.len rfl Try.underlying22 (Reads.sl rfl)) rfl rfl ?_ -- zero.go:104 call
        refine Runs_p rfl (Valid.lss rfl rfl rfl) rfl rfl ?_ -- zero.go:104 binOp
        refine Runs_nil ?_
        refine thenQ_n ?_
        refine W_cond _ rfl (fun hb5 => ?_) (fun hb5 => ?_)
        · try simp only [decide_eq_true_eq] at hb5
          all_goals (
            refine W_seq ?_
            refine W_regionE (c := 35) (c' := 42) (by kernel_rfl) rfl ?_
            refine Runs_p rfl (Valid.movek (A := FnV 22 [Ptr 72 0] []) rfl rfl) rfl rfl ?_ -- zero.go:105 move
            refine Runs_p rfl (Valid.movek (A := Sl 1 _ _) rfl rfl) rfl rfl ?_ -- zero.go:105 move
            refine Runs_p rfl (Valid.movek (A := Is _) rfl rfl) rfl rfl ?_ -- zero.go:105 move
            refine Runs_p rfl (Valid.eltaddr1 0 rfl Try.underlying22 sz3 (Reads.sl rfl) rfl (by first | omega | (simp only [Int.toNat_natCast, toNat_add, toNat_add1, List.length_append, List.length_cons, List.length_nil, List.length_replicate]; omega)) (by first | rfl | simp)) rfl rfl ?_ -- zero.go:105 indexAddr
            refine Runs_p rfl (Valid.loadelt rfl ag3 rfl) rfl rfl ?_ -- zero.go:105 load
            refine Runs_p rfl (Valid.sub rfl rfl rfl (room64 (by simp only [Int.toNat_natCast]; omega) (by simp only [Int.toNat_natCast]; omega))) rfl rfl ?_ -- zero.go:105 binOp
            refine Runs_w rfl (Valid.callm [(0, 72), (1, 80)] rfl (.inr ⟨_, _, rfl, rfl⟩) (lay_s (ys ++ List.replicate k 0) (m.getD (runE m f : Int).toNat 0 - 1) (by simp; omega)) ⟨(leq_ptr rfl rfl rfl), (leq_is rfl rfl rfl), trivial⟩ ⟨⟨_, rfl, .var ⟨(leq_own rfl rfl rfl rfl rfl), trivial⟩⟩, ⟨_, rfl, .row rfl rfl⟩, trivial⟩ (up_pure rfl) (hpup_cons (j := 72) rfl (cup_var (allup_cons (up_own' (id' := 328) rfl) allup_nil)) (hpup_cons (j := 328) rfl cup_row hpup_nil)) (by kernel_rfl) (by kernel_rfl) (by kernel_rfl) (by kernel_rfl) (by kernel_rfl) (by kernel_rfl) (by kernel_rfl) (by kernel_rfl) (by kernel_rfl)) rfl rfl ?_ -- zero.go:105 call
            refine Runs_nil ?_
            refine thenQ_n ?_
            refine W_seq ?_
            refine W_regionE (c := 42) (c' := 45) (by kernel_rfl) rfl ?_
            refine Runs_p rfl (Valid.movek (A := Is _) rfl rfl) rfl rfl ?_ -- zero.go:106 move
            refine Runs_p rfl (Valid.add rfl rfl rfl (room64 (by first | omega | (simp only [Int.toNat_natCast, toNat_add, toNat_add1, List.length_append, List.length_cons, List.length_nil, List.length_replicate]; omega)) (by first | omega | (simp only [Int.toNat_natCast, toNat_add, toNat_add1, List.length_append, List.length_cons, List.length_nil, List.length_replicate]; omega)))) rfl rfl ?_ -- zero.go:106 binOp
            refine Runs_p rfl (Valid.assignk (A := Is _) rfl rfl) rfl rfl ?_ -- zero.go:106 assign
            refine Runs_nil ?_
            refine thenQ_n ?_
            refine W_goto ?_
            refine thenQ_g ?_
            refine GotoQ.go (⟨runE m f + 1, ys ++ List.replicate k 0 ++ [m.getD (runE m f) 0 - 1]⟩) [(80, 328)] (⟨by omega, hout, by rcases hso with ⟨hh, e⟩ | ⟨_, o2, e1, e⟩ <;> first | (exfalso; omega) | exact ⟨o2, e1, by rw [ho2, e, show (numR ((m.drop f).takeWhile lowP)).1.toNat = k by omega]; simp, by rw [e] at hmo; simp at hmo ⊢; omega⟩⟩) (by dsimp only; omega) ⟨⟨(leq_is rfl rfl (by first | rfl | (simp; done) | simp)), trivial⟩, ⟨(leq_sl (Reads.sl rfl) rfl rfl rfl), (leq_ptr rfl rfl rfl), (leq_fn rfl rfl ⟨(leq_ptr rfl rfl rfl), trivial⟩ trivial), trivial⟩, ⟨hp_var rfl ⟨(leq_own rfl rfl rfl (by first | rfl | (simp; done) | simp) (by first | rfl | (simp; done) | simp)), trivial⟩, hp_row rfl (by first | rfl | (simp; done) | simp) (by first | rfl | (simp; done) | simp), trivial⟩, trivial, rfl, ⟨supg rfl, trivial⟩, ⟨supg rfl, supg rfl, supg rfl, trivial⟩, ⟨suph rfl rfl, suph rfl rfl, trivial⟩, trivial, rfl, rfl⟩
            done)
        · try simp only [decide_eq_false_iff_not] at hb5
          all_goals (
            refine W_skip ?_
            refine thenQ_n ?_
            refine W_seq ?_
            refine W_regionE (c := 35) (c' := 39) (by kernel_rfl) rfl ?_
            refine Runs_p rfl (Valid.fieldaddr (off' := 0) rfl rfl (fun _ _ => by kernel_rfl)) rfl rfl ?_ -- zero.go:109 fieldAddr
            refine Runs_p rfl (Valid.load _ rfl ag22 rfl rfl rfl) rfl rfl ?_ -- zero.go:109 load
            refine Runs_p rfl (Valid.assignk (A := Own 80 1 _ _) rfl rfl) rfl rfl ?_ -- zero.go:109 assign
            refine Runs_p rfl (Valid.assignk (A := Is _) rfl rfl) rfl rfl ?_ -- zero.go:109 assign
            refine Runs_nil ?_
            refine thenQ_n ?_
            refine W_ret ?_
            refine jumpQ_r ?_
            refine finQ_r ?_
            refine ResOk.two rfl (RVal.sl (Reads.own rfl) rfl (by first | (rw [decV_bad (out_big hm (by assumption))]; done) | (rw [decV_bad (out_big hm (by assumption))]; rfl) | (rw [decV_no (out_neg (by assumption)) (by assumption)]; done) | (rw [decV_no (out_neg (by assumption)) (by assumption)]; rfl) | (rcases hso with ⟨hh, e⟩ | ⟨hh, _⟩ <;> first | (exfalso; omega) | (rw [show (numR ((m.drop f).takeWhile lowP)).1.toNat = k by omega] at e; subst e; first | (rw [decV_ok (out_neg hout) ho2 (by simp only [List.length_append]; exact hmo)]; done) | (rw [decV_ok (out_neg hout) ho2 (by simp only [List.length_append]; exact hmo)]; rfl)))) (by first | (rw [decV_bad (out_big hm (by assumption))]; done) | (rw [decV_bad (out_big hm (by assumption))]; rfl) | (rw [decV_no (out_neg (by assumption)) (by assumption)]; done) | (rw [decV_no (out_neg (by assumption)) (by assumption)]; rfl) | (rcases hso with ⟨hh, e⟩ | ⟨hh, _⟩ <;> first | (exfalso; omega) | (rw [show (numR ((m.drop f).takeWhile lowP)).1.toNat = k by omega] at e; subst e; first | (rw [decV_ok (out_neg hout) ho2 (by simp only [List.length_append]; exact hmo)]; done) | (rw [decV_ok (out_neg hout) ho2 (by simp only [List.length_append]; exact hmo)]; rfl))))) (RVal.is rfl rfl (by first | (rw [decV_bad (out_big hm (by assumption))]; done) | (rw [decV_bad (out_big hm (by assumption))]; rfl) | (rw [decV_no (out_neg (by assumption)) (by assumption)]; done) | (rw [decV_no (out_neg (by assumption)) (by assumption)]; rfl) | (rcases hso with ⟨hh, e⟩ | ⟨hh, _⟩ <;> first | (exfalso; omega) | (rw [show (numR ((m.drop f).takeWhile lowP)).1.toNat = k by omega] at e; subst e; first | (rw [decV_ok (out_neg hout) ho2 (by simp only [List.length_append]; exact hmo)]; done) | (rw [decV_ok (out_neg hout) ho2 (by simp only [List.length_append]; exact hmo)]; rfl)))))
            done)
        done)
end Ze
end Go.Proofs.Ytimpmdcebapfiaa
