/-
  WALKS of stage 12: what is taken.
-/
import Derived.Test.YtkjmdnehlodihaaRows
import Derived.Test.YtkjmdnehlodihaaAbs
import Derived.Test.YtkjmdnehlodihaaBb
import Derived.Test.YtkjmdnehlodihaaCm
import Derived.Test.YtkjmdnehlodihaaFz
import Derived.Test.YtkjmdnehlodihaaGm
import Derived.Test.YtkjmdnehlodihaaEa
import Derived.Test.YtkjmdnehlodihaaEb
namespace Go.Proofs.Ytkjmdnehlodihaa
open Go.RowKit
namespace Ec
open Ab Bm Bt Bb Cm Fz Gm Ea Eb
theorem ag3 (w : World) : (isAgg 3).run Try.prog w = .ok false w := by kernel_rfl
theorem getV_ok {s : ByteArray} {a : Int} (h : (getV s a 1).2 = 0) : 0 ≤ a ∧ a + 1 ≤ 8 * s.size := by
  unfold getV at h
  by_cases h1 : (decide ((0 : Int) ≤ 1) && decide ((1 : Int) ≤ 64) && decide (0 ≤ a)) = false
  · rw [if_pos h1] at h; exact absurd h (by decide)
  · rw [if_neg h1] at h
    simp at h1
    by_cases h2 : a + 1 ≤ 8 * s.size
    · exact ⟨h1, h2⟩
    · rw [if_neg h2] at h; exact absurd h (by decide)
/-- ones up to a nought: how many, where they end, what is wrong -/
def tkF (s : ByteArray) : Nat → Nat → Int → Nat × Int × Int
  | 0, _, _ => (0, 0, 3)
  | f + 1, k, a => if (getV s a 1).2 = 0 then (if (getV s a 1).1 = 0 then (k, a + 1, 0) else tkF s f (k + 1) (a + 1)) else (0, 0, (getV s a 1).2)
  termination_by f => f
theorem tk_0 (s : ByteArray) (k : Nat) (a : Int) : tkF s 0 k a = (0, 0, 3) := by rw [tkF]
theorem tk_e {s : ByteArray} {f k : Nat} {a : Int} (hf : 0 < f) (h : ¬ (getV s a 1).2 = 0) : tkF s f k a = (0, 0, (getV s a 1).2) := by
  obtain ⟨d, rfl⟩ : ∃ d, f = d + 1 := ⟨f - 1, by omega⟩
  rw [tkF, if_neg h]
theorem tk_n {s : ByteArray} {f k : Nat} {a : Int} (hf : 0 < f) (h : (getV s a 1).2 = 0) (h2 : (getV s a 1).1 = 0) : tkF s f k a = (k, a + 1, 0) := by
  obtain ⟨d, rfl⟩ : ∃ d, f = d + 1 := ⟨f - 1, by omega⟩
  rw [tkF, if_pos h, if_pos h2]
theorem tk_o {s : ByteArray} {f k : Nat} {a : Int} (hf : 0 < f) (h : (getV s a 1).2 = 0) (h2 : ¬ (getV s a 1).1 = 0) : tkF s f k a = tkF s (f - 1) (k + 1) (a + 1) := by
  obtain ⟨d, rfl⟩ : ∃ d, f = d + 1 := ⟨f - 1, by omega⟩
  rw [tkF, if_pos h, if_neg h2]; rfl
theorem tk_bd (s : ByteArray) : ∀ f k a, (tkF s f k a).2.2 = 0 → (tkF s f k a).1 < k + f ∧ a < (tkF s f k a).2.1 ∧ (tkF s f k a).2.1 ≤ 8 * s.size ∧ (tkF s f k a).2.1 = a + ((tkF s f k a).1 - k : Int) + 1 ∧ k ≤ (tkF s f k a).1
  | 0, k, a, h => by rw [tk_0] at h; exact absurd h (by decide)
  | f + 1, k, a, h => by
    by_cases h1 : (getV s a 1).2 = 0
    · have hg := getV_ok h1
      by_cases h2 : (getV s a 1).1 = 0
      · rw [tk_n (by omega) h1 h2]; exact ⟨by show k < _; omega, by show a < a + 1; omega, by show a + 1 ≤ _; omega, by show a + 1 = a + ((k : Int) - k) + 1; omega, Nat.le_refl k⟩
      · rw [tk_o (by omega) h1 h2] at h ⊢
        have ih := tk_bd s f (k + 1) (a + 1) h
        rw [show f + 1 - 1 = f by omega]
        exact ⟨by omega, by omega, by omega, by omega, by omega⟩
    · rw [tk_e (by omega) h1] at h; exact absurd h h1
def tkV (l : List Int) (r : Nat × Int × Int) : Int := if r.2.2 = 0 then l.getD r.1 0 else 0
def tkL (l : List Int) (r : Nat × Int × Int) : List Int := if r.2.2 = 0 then mtfI l r.1 else l
theorem tk_res {l : List Int} {r : Nat × Int × Int} (k : Nat) (a : Int) (h : r = (k, a, 0)) : l.getD k 0 = tkV l r ∧ a = r.2.1 ∧ 0 = r.2.2 ∧ mtfI l k = tkL l r := by subst h; exact ⟨rfl, rfl, rfl, rfl⟩
theorem tk_err {l : List Int} {r : Nat × Int × Int} {e : Int} (he : ¬ e = 0) (h : r = (0, 0, e)) : 0 = tkV l r ∧ 0 = r.2.1 ∧ e = r.2.2 ∧ l = tkL l r := by
  subst h
  unfold tkV tkL
  rw [if_neg he, if_neg he]
  exact ⟨rfl, rfl, rfl, rfl⟩

set_option maxRecDepth 100000 in
set_option maxHeartbeats 1000000 in
theorem take_s (l : List Int) (t : Int) (s : ByteArray) (a0 : Int) (ht : 2 ≤ t ∧ t ≤ 6) (hl : l.length = 6) (hs : s.size ≤ 1000000000000) (ha : 0 ≤ a0) (ha2 : a0 ≤ 9223372036854775807) :
    FMem Try.prog 26 [Ptr 1 0, Is (.string s), Is (.int .i64 a0)] [(1, .arr 72 (AX (Value.int .i64) l [.int .i64 t]))] (Tup [Is (.int .i64 (tkV l (tkF s t.toNat 0 a0))), Is (.int .i64 (tkF s t.toNat 0 a0).2.1), Is (.int .i64 (tkF s t.toNat 0 a0).2.2)]) [(1, .arr 72 (AX (Value.int .i64) (tkL l (tkF s t.toNat 0 a0)) [.int .i64 t]))] := by
  refine FMem.of Try.func26 Try.ntmps26 rfl (by kernel_rfl) rfl rfl rfl ?_
  refine W_seq ?_
  refine W_regionE (c := 1) (c' := 4) (by kernel_rfl) rfl ?_
  refine Runs_p rfl (Valid.assignk (A := Is _) rfl rfl) rfl rfl ?_ -- selectors.go:75 assign
  refine Runs_p rfl (Valid.assignk (A := Is _) rfl rfl) rfl rfl ?_ -- selectors.go:75 assign
  refine Runs_p rfl (Valid.assignk (A := Is _) rfl rfl) rfl rfl ?_ -- selectors.go:75 assign
  refine Runs_nil ?_
  refine thenQ_n ?_
  refine W_seq ?_
  refine W_seq ?_
  refine W_regionE (c := 4) (c' := 9) (by kernel_rfl) rfl ?_
  refine Runs_p rfl (Valid.movek (A := Ptr 1 0) rfl rfl) rfl rfl ?_ -- selectors.go:76 move
  refine Runs_p rfl (Valid.nilcheck rfl rfl) rfl rfl ?_ -- selectors.go:76 nilCheck
  refine Runs_p rfl (Valid.fieldaddr (off' := 6) rfl rfl (fun _ _ => by kernel_rfl)) rfl rfl ?_ -- selectors.go:76 fieldAddr
  refine Runs_p rfl (Valid.loadZ rfl ag3 rfl rfl (by first | omega | (simp only [Int.toNat_natCast, toNat_add, toNat_add1, List.length_append, List.length_cons, List.length_nil, List.length_replicate]; omega))) rfl rfl ?_ -- selectors.go:76 load
  refine Runs_p rfl (Valid.movek (A := Is _) rfl rfl) rfl rfl ?_ -- selectors.go:76 move
  refine Runs_nil ?_
  refine thenQ_n ?_
  refine W_block ?_
  refine W_loopx (G := Nat × Int) (fun (g_ : Nat × Int) => match g_ with | ⟨k, a⟩ => (k : Int) ≤ t ∧ 0 ≤ a ∧ a ≤ 9223372036854775807 ∧ tkF s (t.toNat - k) k a = (tkF s t.toNat 0 a0)) [(0, Ptr 1 0), (1, Is _), (15, Is _)] (fun (g_ : Nat × Int) => match g_ with | ⟨k, a⟩ => [(16, Is (.int .i64 (k : Int))), (2, Is (.int .i64 a))]) [(1, .arr 72 (AX (Value.int .i64) _ _))] (fun (g_ : Nat × Int) => match g_ with | ⟨k, a⟩ => []) 9 (fun (g_ : Nat × Int) => match g_ with | ⟨k, a⟩ => t.toNat - k) (⟨0, a0⟩) [] (⟨by omega, ha, ha2, rfl⟩) ⟨⟨(leq_is rfl rfl (by rfl)), (leq_is rfl rfl (by rfl)), trivial⟩, ⟨(leq_ptr rfl rfl rfl), (leq_is rfl rfl rfl), (leq_is rfl rfl rfl), trivial⟩, trivial, ⟨hp_ax rfl rfl rfl, trivial⟩, rfl, ⟨supg rfl, supg rfl, trivial⟩, ⟨supg rfl, supg rfl, supg rfl, trivial⟩, trivial, ⟨suph rfl rfl, trivial⟩, rfl, rfl⟩ ?_
  intro ⟨k, a⟩ hI1
  obtain ⟨hI2, hI3, hI5, hI4⟩ := hI1
  have hg : (getV s a 1).2 = 0 → _ := fun h => getV_ok h
  refine W_seq ?_
  refine W_regionE (c := 9) (c' := 10) (by kernel_rfl) rfl ?_
  refine Runs_p rfl (Valid.lss rfl rfl rfl) rfl rfl ?_ -- selectors.go:76 binOp
  refine Runs_nil ?_
  refine thenQ_n ?_
  refine W_seq ?_
  refine W_cond _ rfl (fun hb1 => ?_) (fun hb1 => ?_)
  · try simp only [decide_eq_true_eq] at hb1
    all_goals (
      refine W_skip ?_
      refine thenQ_n ?_
      refine W_seq ?_
      refine W_block ?_
      refine W_seq ?_
      refine W_regionE (c := 10) (c' := 12) (by kernel_rfl) rfl ?_
      refine Runs_p rfl (Valid.movek (A := Is _) rfl rfl) rfl rfl ?_ -- selectors.go:76 move
      refine Runs_p rfl (Valid.assignk (A := Is _) rfl rfl) rfl rfl ?_ -- selectors.go:76 assign
      refine Runs_nil ?_
      refine thenQ_n ?_
      refine W_seq ?_
      refine W_regionE (c := 12) (c' := 20) (by kernel_rfl) rfl ?_
      refine Runs_p rfl (Valid.movek (A := Is _) rfl rfl) rfl rfl ?_ -- selectors.go:77 move
      refine Runs_p rfl (Valid.movek (A := Is _) rfl rfl) rfl rfl ?_ -- selectors.go:77 move
      refine Runs_p rfl (Valid.call rfl (get_f _ _ _ (by omega) (by omega)) ⟨argle rfl, argle rfl, argle rfl, trivial⟩) rfl rfl ?_ -- selectors.go:77 call
      refine Runs_p rfl (Valid.movek (A := Tup [Is _, Is _]) rfl rfl) rfl rfl ?_ -- selectors.go:77 move
      refine Runs_p rfl (Valid.extract _ rfl rfl rfl) rfl rfl ?_ -- selectors.go:77 extract
      refine Runs_p rfl (Valid.extract _ rfl rfl rfl) rfl rfl ?_ -- selectors.go:77 extract
      refine Runs_p rfl (Valid.assignk (A := Is _) rfl rfl) rfl rfl ?_ -- selectors.go:77 assign
      refine Runs_p rfl (Valid.assignk (A := Is _) rfl rfl) rfl rfl ?_ -- selectors.go:77 assign
      refine Runs_nil ?_
      refine thenQ_n ?_
      refine W_seq ?_
      refine W_seq ?_
      refine W_regionE (c := 20) (c' := 22) (by kernel_rfl) rfl ?_
      refine Runs_p rfl (Valid.movek (A := Is _) rfl rfl) rfl rfl ?_ -- selectors.go:78 move
      refine Runs_p rfl (Valid.neq rfl rfl rfl) rfl rfl ?_ -- selectors.go:78 binOp
      refine Runs_nil ?_
      refine thenQ_n ?_
      refine W_cond _ rfl (fun hb2 => ?_) (fun hb2 => ?_)
      · try simp only [decide_eq_true_eq, ne_eq] at hb2
        all_goals (
          have he : ¬ (getV s a 1).2 = 0 := hb2
          refine W_seq ?_
          refine W_regionE (c := 22) (c' := 26) (by kernel_rfl) rfl ?_
          refine Runs_p rfl (Valid.movek (A := Is _) rfl rfl) rfl rfl ?_ -- selectors.go:79 move
          refine Runs_p rfl (Valid.assignk (A := Is _) rfl rfl) rfl rfl ?_ -- selectors.go:79 assign
          refine Runs_p rfl (Valid.assignk (A := Is _) rfl rfl) rfl rfl ?_ -- selectors.go:79 assign
          refine Runs_p rfl (Valid.assignk (A := Is _) rfl rfl) rfl rfl ?_ -- selectors.go:79 assign
          refine Runs_nil ?_
          refine thenQ_n ?_
          refine W_ret ?_
          refine thenQ_r ?_
          refine blockQ_r ?_
          refine thenQ_r ?_
          refine loopQ_r ?_
          refine blockQ_r ?_
          refine thenQ_r ?_
          refine finMQ_r ?_
          exact FinM.of [] (ResOk.three rfl (RVal.is rfl rfl (by first | exact congrArg (Value.int .i64) (tk_err (l := l) he (hI4.symm.trans (tk_e (by omega) he))).1 | exact congrArg (Value.int .i64) (tk_res (l := l) k _ (hI4.symm.trans (tk_n (by omega) hz h0))).1 | exact congrArg (Value.int .i64) (tk_err (l := l) (show ¬ (3 : Int) = 0 by decide) (hI4.symm.trans (by rw [show t.toNat - k = 0 by omega, tk_0]))).1)) (RVal.is rfl rfl (by first | exact congrArg (Value.int .i64) (tk_err (l := l) he (hI4.symm.trans (tk_e (by omega) he))).2.1 | exact congrArg (Value.int .i64) (tk_res (l := l) k _ (hI4.symm.trans (tk_n (by omega) hz h0))).2.1 | exact congrArg (Value.int .i64) (tk_err (l := l) (show ¬ (3 : Int) = 0 by decide) (hI4.symm.trans (by rw [show t.toNat - k = 0 by omega, tk_0]))).2.1)) (RVal.is rfl rfl (by first | exact congrArg (Value.int .i64) (tk_err (l := l) he (hI4.symm.trans (tk_e (by omega) he))).2.2.1 | exact congrArg (Value.int .i64) (tk_res (l := l) k _ (hI4.symm.trans (tk_n (by omega) hz h0))).2.2.1 | exact congrArg (Value.int .i64) (tk_err (l := l) (show ¬ (3 : Int) = 0 by decide) (hI4.symm.trans (by rw [show t.toNat - k = 0 by omega, tk_0]))).2.2.1))) rfl ⟨hp_ax rfl (by first | rfl | exact (tk_err (l := l) he (hI4.symm.trans (tk_e (by omega) he))).2.2.2 | exact (tk_res (l := l) k _ (hI4.symm.trans (tk_n (by omega) hz h0))).2.2.2 | exact (tk_err (l := l) (show ¬ (3 : Int) = 0 by decide) (hI4.symm.trans (by rw [show t.toNat - k = 0 by omega, tk_0]))).2.2.2) (by first | rfl | exact (tk_err (l := l) he (hI4.symm.trans (tk_e (by omega) he))).2.2.2 | exact (tk_res (l := l) k _ (hI4.symm.trans (tk_n (by omega) hz h0))).2.2.2 | exact (tk_err (l := l) (show ¬ (3 : Int) = 0 by decide) (hI4.symm.trans (by rw [show t.toNat - k = 0 by omega, tk_0]))).2.2.2), trivial⟩ rfl rfl
          done)
      · try simp only [decide_eq_false_iff_not, ne_eq] at hb2
        all_goals (
          have hz : (getV s a 1).2 = 0 := by simpa using hb2
          refine W_skip ?_
          refine thenQ_n ?_
          refine W_seq ?_
          refine W_regionE (c := 22) (c' := 25) (by kernel_rfl) rfl ?_
          refine Runs_p rfl (Valid.movek (A := Is _) rfl rfl) rfl rfl ?_ -- selectors.go:81 move
          refine Runs_p rfl (Valid.add rfl rfl rfl (room64 (by have := hg hz; omega) (by have := hg hz; omega))) rfl rfl ?_ -- selectors.go:81 binOp
          refine Runs_p rfl (Valid.assignk (A := Is _) rfl rfl) rfl rfl ?_ -- selectors.go:81 assign
          refine Runs_nil ?_
          refine thenQ_n ?_
          refine W_seq ?_
          refine W_regionE (c := 25) (c' := 27) (by kernel_rfl) rfl ?_
          refine Runs_p rfl (Valid.movek (A := Is _) rfl rfl) rfl rfl ?_ -- selectors.go:82 move
          refine Runs_p rfl (Valid.eql rfl rfl rfl) rfl rfl ?_ -- selectors.go:82 binOp
          refine Runs_nil ?_
          refine thenQ_n ?_
          refine W_cond _ rfl (fun hb3 => ?_) (fun hb3 => ?_)
          · try simp only [decide_eq_true_eq] at hb3
            all_goals (
              have h0 : (getV s a 1).1 = 0 := hb3
              refine W_seq ?_
              refine W_regionE (c := 27) (c' := 36) (by kernel_rfl) rfl ?_
              refine Runs_p rfl (Valid.movek (A := Ptr 1 0) rfl rfl) rfl rfl ?_ -- selectors.go:83 move
              refine Runs_p rfl (Valid.nilcheck rfl rfl) rfl rfl ?_ -- selectors.go:83 nilCheck
              refine Runs_p rfl (Valid.fieldaddr (off' := 0) rfl rfl (fun _ _ => by kernel_rfl)) rfl rfl ?_ -- selectors.go:83 fieldAddr
              refine Runs_p rfl (Valid.movek (A := Is _) rfl rfl) rfl rfl ?_ -- selectors.go:83 move
              refine Runs_w rfl (Valid.callm [(1, 1)] rfl (.inl ⟨rfl, rfl⟩) (bring_s _ _ _ (by omega) (by omega) (by omega)) ⟨(leq_ptr rfl rfl rfl), (leq_is rfl rfl rfl), trivial⟩ ⟨⟨_, rfl, .arr rfl⟩, trivial⟩ (up_pure rfl) (hpup_cons (j := 1) rfl cup_arr hpup_nil) (by kernel_rfl) (by kernel_rfl) (by kernel_rfl) (by kernel_rfl) (by kernel_rfl) (by kernel_rfl) (by kernel_rfl) (by kernel_rfl) (by kernel_rfl)) rfl rfl ?_ -- selectors.go:83 call
              refine Runs_p rfl (Valid.movek (A := Is _) rfl rfl) rfl rfl ?_ -- selectors.go:83 move
              refine Runs_p rfl (Valid.assignk (A := Is _) rfl rfl) rfl rfl ?_ -- selectors.go:83 assign
              refine Runs_p rfl (Valid.assignk (A := Is _) rfl rfl) rfl rfl ?_ -- selectors.go:83 assign
              refine Runs_p rfl (Valid.assignk (A := Is _) rfl rfl) rfl rfl ?_ -- selectors.go:83 assign
              refine Runs_nil ?_
              refine thenQ_n ?_
              refine W_ret ?_
              refine blockQ_r ?_
              refine thenQ_r ?_
              refine loopQ_r ?_
              refine blockQ_r ?_
              refine thenQ_r ?_
              refine finMQ_r ?_
              exact FinM.of [] (ResOk.three rfl (RVal.is rfl rfl (by first | exact congrArg (Value.int .i64) (tk_err (l := l) he (hI4.symm.trans (tk_e (by omega) he))).1 | exact congrArg (Value.int .i64) (tk_res (l := l) k _ (hI4.symm.trans (tk_n (by omega) hz h0))).1 | exact congrArg (Value.int .i64) (tk_err (l := l) (show ¬ (3 : Int) = 0 by decide) (hI4.symm.trans (by rw [show t.toNat - k = 0 by omega, tk_0]))).1)) (RVal.is rfl rfl (by first | exact congrArg (Value.int .i64) (tk_err (l := l) he (hI4.symm.trans (tk_e (by omega) he))).2.1 | exact congrArg (Value.int .i64) (tk_res (l := l) k _ (hI4.symm.trans (tk_n (by omega) hz h0))).2.1 | exact congrArg (Value.int .i64) (tk_err (l := l) (show ¬ (3 : Int) = 0 by decide) (hI4.symm.trans (by rw [show t.toNat - k = 0 by omega, tk_0]))).2.1)) (RVal.is rfl rfl (by first | exact congrArg (Value.int .i64) (tk_err (l := l) he (hI4.symm.trans (tk_e (by omega) he))).2.2.1 | exact congrArg (Value.int .i64) (tk_res (l := l) k _ (hI4.symm.trans (tk_n (by omega) hz h0))).2.2.1 | exact congrArg (Value.int .i64) (tk_err (l := l) (show ¬ (3 : Int) = 0 by decide) (hI4.symm.trans (by rw [show t.toNat - k = 0 by omega, tk_0]))).2.2.1))) rfl ⟨hp_ax rfl (by first | rfl | exact (tk_err (l := l) he (hI4.symm.trans (tk_e (by omega) he))).2.2.2 | exact (tk_res (l := l) k _ (hI4.symm.trans (tk_n (by omega) hz h0))).2.2.2 | exact (tk_err (l := l) (show ¬ (3 : Int) = 0 by decide) (hI4.symm.trans (by rw [show t.toNat - k = 0 by omega, tk_0]))).2.2.2) (by first | rfl | exact (tk_err (l := l) he (hI4.symm.trans (tk_e (by omega) he))).2.2.2 | exact (tk_res (l := l) k _ (hI4.symm.trans (tk_n (by omega) hz h0))).2.2.2 | exact (tk_err (l := l) (show ¬ (3 : Int) = 0 by decide) (hI4.symm.trans (by rw [show t.toNat - k = 0 by omega, tk_0]))).2.2.2), trivial⟩ rfl rfl
              done)
          · try simp only [decide_eq_false_iff_not] at hb3
            all_goals (
              have h1 : ¬ (getV s a 1).1 = 0 := hb3
              refine W_skip ?_
              refine blockQ_n ?_
              refine thenQ_n ?_
              refine W_regionE (c := 27) (c' := 29) (by kernel_rfl) rfl ?_
              refine Runs_p rfl (Valid.add rfl rfl rfl (room64 (by first | omega | (simp only [Int.toNat_natCast, toNat_add, toNat_add1, List.length_append, List.length_cons, List.length_nil, List.length_replicate]; omega)) (by first | omega | (simp only [Int.toNat_natCast, toNat_add, toNat_add1, List.length_append, List.length_cons, List.length_nil, List.length_replicate]; omega)))) rfl rfl ?_ -- selectors.go:76 binOp
              refine Runs_p rfl (Valid.movek (A := Is _) rfl rfl) rfl rfl ?_ -- selectors.go:76 move
              refine Runs_nil ?_
              refine LoopQ.next (⟨k + 1, a + 1⟩) [] (⟨by omega, by omega, by have := hg hz; omega, by rw [← hI4, tk_o (f := t.toNat - k) (by omega) hz h1, show t.toNat - (k + 1) = t.toNat - k - 1 by omega]⟩) (by dsimp only; omega) ⟨⟨(leq_is rfl rfl (by rfl)), (leq_is rfl rfl (by rfl)), trivial⟩, ⟨(leq_ptr rfl rfl rfl), (leq_is rfl rfl rfl), (leq_is rfl rfl rfl), trivial⟩, trivial, ⟨hp_ax rfl rfl rfl, trivial⟩, rfl, ⟨supg rfl, supg rfl, trivial⟩, ⟨supg rfl, supg rfl, supg rfl, trivial⟩, trivial, ⟨suph rfl rfl, trivial⟩, rfl, rfl⟩
              done)
          done)
      done)
  · try simp only [decide_eq_false_iff_not] at hb1
    all_goals (
      refine W_exit ?_
      refine thenQ_e ?_
      refine loopQ_e ?_
      refine blockQ_x ?_
      refine thenQ_n ?_
      refine W_seq ?_
      refine W_regionE (c := 10) (c' := 13) (by kernel_rfl) rfl ?_
      refine Runs_p rfl (Valid.assignk (A := Is _) rfl rfl) rfl rfl ?_ -- selectors.go:86 assign
      refine Runs_p rfl (Valid.assignk (A := Is _) rfl rfl) rfl rfl ?_ -- selectors.go:86 assign
      refine Runs_p rfl (Valid.assignk (A := Is _) rfl rfl) rfl rfl ?_ -- selectors.go:86 assign
      refine Runs_nil ?_
      refine thenQ_n ?_
      refine W_ret ?_
      refine finMQ_r ?_
      exact FinM.of [] (ResOk.three rfl (RVal.is rfl rfl (by first | exact congrArg (Value.int .i64) (tk_err (l := l) he (hI4.symm.trans (tk_e (by omega) he))).1 | exact congrArg (Value.int .i64) (tk_res (l := l) k _ (hI4.symm.trans (tk_n (by omega) hz h0))).1 | exact congrArg (Value.int .i64) (tk_err (l := l) (show ¬ (3 : Int) = 0 by decide) (hI4.symm.trans (by rw [show t.toNat - k = 0 by omega, tk_0]))).1)) (RVal.is rfl rfl (by first | exact congrArg (Value.int .i64) (tk_err (l := l) he (hI4.symm.trans (tk_e (by omega) he))).2.1 | exact congrArg (Value.int .i64) (tk_res (l := l) k _ (hI4.symm.trans (tk_n (by omega) hz h0))).2.1 | exact congrArg (Value.int .i64) (tk_err (l := l) (show ¬ (3 : Int) = 0 by decide) (hI4.symm.trans (by rw [show t.toNat - k = 0 by omega, tk_0]))).2.1)) (RVal.is rfl rfl (by first | exact congrArg (Value.int .i64) (tk_err (l := l) he (hI4.symm.trans (tk_e (by omega) he))).2.2.1 | exact congrArg (Value.int .i64) (tk_res (l := l) k _ (hI4.symm.trans (tk_n (by omega) hz h0))).2.2.1 | exact congrArg (Value.int .i64) (tk_err (l := l) (show ¬ (3 : Int) = 0 by decide) (hI4.symm.trans (by rw [show t.toNat - k = 0 by omega, tk_0]))).2.2.1))) rfl ⟨hp_ax rfl (by first | rfl | exact (tk_err (l := l) he (hI4.symm.trans (tk_e (by omega) he))).2.2.2 | exact (tk_res (l := l) k _ (hI4.symm.trans (tk_n (by omega) hz h0))).2.2.2 | exact (tk_err (l := l) (show ¬ (3 : Int) = 0 by decide) (hI4.symm.trans (by rw [show t.toNat - k = 0 by omega, tk_0]))).2.2.2) (by first | rfl | exact (tk_err (l := l) he (hI4.symm.trans (tk_e (by omega) he))).2.2.2 | exact (tk_res (l := l) k _ (hI4.symm.trans (tk_n (by omega) hz h0))).2.2.2 | exact (tk_err (l := l) (show ¬ (3 : Int) = 0 by decide) (hI4.symm.trans (by rw [show t.toNat - k = 0 by omega, tk_0]))).2.2.2), trivial⟩ rfl rfl
      done)
end Ec
end Go.Proofs.Ytkjmdnehlodihaa
