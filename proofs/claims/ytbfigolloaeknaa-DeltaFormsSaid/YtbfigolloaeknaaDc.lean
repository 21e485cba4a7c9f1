/-
  WALKS of stage 9: Take.
-/
import Derived.Test.YtbfigolloaeknaaRows
import Derived.Test.YtbfigolloaeknaaMgc
import Derived.Test.YtbfigolloaeknaaDd
import Derived.Test.YtbfigolloaeknaaDa
import Derived.Test.YtbfigolloaeknaaDb
import Derived.Test.YtbfigolloaeknaaMha
import Derived.Test.YtbfigolloaeknaaCa
namespace Go.Proofs.Ytbfigolloaeknaa
open Go.RowKit
namespace Dc
open Ab Bm Bt Dd Da Db Bb Ca
theorem ag22 (w : World) : (isAgg 22).run Try.prog w = .ok false w := by kernel_rfl
theorem ag3 (w : World) : (isAgg 3).run Try.prog w = .ok false w := by kernel_rfl
theorem sz22 (w : World) : (sizeOf 22).run Try.prog w = .ok 1 w := by kernel_rfl
theorem sz28 (w : World) : (sizeOf 28).run Try.prog w = .ok 1 w := by kernel_rfl
theorem sz3 (w : World) : (sizeOf 3).run Try.prog w = .ok 1 w := by kernel_rfl
theorem ti3 : TI Try.prog 3 1 8 := .mk' (z := (Value.int .i64 0)) (by kernel_rfl) rfl
theorem len3 {vs : List Value} (h : vs.length = 3) : ∃ a b c, vs = [a, b, c] := by
  match vs, h with
  | [a, b, c], _ => exact ⟨a, b, c, rfl⟩
/-- so many lengths, the last one, the place behind them, what is wrong -/
def tsk (s : ByteArray) (v a : Int) : Nat → List Int × Int × Int × Int
  | 0 => ([], v, a, 0)
  | k + 1 => if (tsk s v a k).2.2.2 ≠ 0 then tsk s v a k else if (lnV s (tsk s v a k).2.2.1 (tsk s v a k).2.1).2.2 ≠ 0 then ([], 0, 0, (lnV s (tsk s v a k).2.2.1 (tsk s v a k).2.1).2.2) else ((tsk s v a k).1 ++ [(lnV s (tsk s v a k).2.2.1 (tsk s v a k).2.1).1], (lnV s (tsk s v a k).2.2.1 (tsk s v a k).2.1).1, (lnV s (tsk s v a k).2.2.1 (tsk s v a k).2.1).2.1, 0)
def takeD (s : ByteArray) (a n : Int) : List Int × Int × Int := if (a < 0 ∨ n < 2) ∨ 258 < n then ([], 0, 1) else if (getV s a 5).2 ≠ 0 then ([], 0, (getV s a 5).2) else if ¬ Da.good (getV s a 5).1 then ([], 0, 3) else ((tsk s (getV s a 5).1 (a + 5) n.toNat).1, (tsk s (getV s a 5).1 (a + 5) n.toNat).2.2.1, (tsk s (getV s a 5).1 (a + 5) n.toNat).2.2.2)
theorem td_1 {s : ByteArray} {a n : Int} (h : (a < 0 ∨ n < 2) ∨ 258 < n) : takeD s a n = ([], 0, 1) := by rw [takeD, if_pos h]
theorem td_2 {s : ByteArray} {a n : Int} (h : ¬ ((a < 0 ∨ n < 2) ∨ 258 < n)) (h2 : (getV s a 5).2 ≠ 0) : takeD s a n = ([], 0, (getV s a 5).2) := by rw [takeD, if_neg h, if_pos h2]
theorem td_3 {s : ByteArray} {a n : Int} (h : ¬ ((a < 0 ∨ n < 2) ∨ 258 < n)) (h2 : (getV s a 5).2 = 0) (h3 : ¬ Da.good (getV s a 5).1) : takeD s a n = ([], 0, 3) := by rw [takeD, if_neg h, if_neg (by simpa using h2), if_pos h3]
theorem td_4 {s : ByteArray} {a n : Int} (h : ¬ ((a < 0 ∨ n < 2) ∨ 258 < n)) (h2 : (getV s a 5).2 = 0) (h3 : Da.good (getV s a 5).1) : takeD s a n = ((tsk s (getV s a 5).1 (a + 5) n.toNat).1, (tsk s (getV s a 5).1 (a + 5) n.toNat).2.2.1, (tsk s (getV s a 5).1 (a + 5) n.toNat).2.2.2) := by rw [takeD, if_neg h, if_neg (by simpa using h2), if_neg (by simpa using h3)]
theorem ts_e {s : ByteArray} {v a : Int} {k : Nat} (h : (tsk s v a k).2.2.2 = 0) (h2 : (lnV s (tsk s v a k).2.2.1 (tsk s v a k).2.1).2.2 ≠ 0) : tsk s v a (k + 1) = ([], 0, 0, (lnV s (tsk s v a k).2.2.1 (tsk s v a k).2.1).2.2) := by rw [tsk, if_neg (by simpa using h), if_pos h2]
theorem ts_s {s : ByteArray} {v a : Int} {k : Nat} (h : (tsk s v a k).2.2.2 = 0) (h2 : (lnV s (tsk s v a k).2.2.1 (tsk s v a k).2.1).2.2 = 0) : tsk s v a (k + 1) = ((tsk s v a k).1 ++ [(lnV s (tsk s v a k).2.2.1 (tsk s v a k).2.1).1], (lnV s (tsk s v a k).2.2.1 (tsk s v a k).2.1).1, (lnV s (tsk s v a k).2.2.1 (tsk s v a k).2.1).2.1, 0) := by rw [tsk, if_neg (by simpa using h), if_neg (by simpa using h2)]
theorem ts_more {s : ByteArray} {v a : Int} {k : Nat} (h : (tsk s v a k).2.2.2 ≠ 0) : ∀ d, tsk s v a (k + d) = tsk s v a k
  | 0 => rfl
  | d + 1 => by rw [← Nat.add_assoc, tsk, if_pos (by rw [ts_more h d]; exact h), ts_more h d]
theorem ts_err {s : ByteArray} {v a : Int} {k n : Nat} (hk : k < n) (h : (tsk s v a k).2.2.2 = 0) (h2 : (lnV s (tsk s v a k).2.2.1 (tsk s v a k).2.1).2.2 ≠ 0) : tsk s v a n = ([], 0, 0, (lnV s (tsk s v a k).2.2.1 (tsk s v a k).2.1).2.2) := by
  have h3 := ts_e h h2
  have h4 := ts_more (s := s) (v := v) (a := a) (k := k + 1) (by rw [h3]; exact h2) (n - (k + 1))
  rw [show k + 1 + (n - (k + 1)) = n by omega] at h4
  rw [h4, h3]
theorem ln_in {s : ByteArray} : ∀ (f : Nat) (a n : Int), 0 ≤ a → Da.good n → (stp s f a n).2.2 = 0 → Da.good (stp s f a n).1 ∧ a + 1 ≤ (stp s f a n).2.1 ∧ (stp s f a n).2.1 ≤ 8 * s.size
  | 0, _, _, _, _, h => by simp [stp] at h
  | f + 1, a, n, ha, hn, h => by
    rw [stp] at h ⊢
    by_cases c1 : (getV s a 1).2 ≠ 0
    · rw [if_pos c1] at h; exact absurd h c1
    rw [if_neg c1] at h ⊢
    have h5 := gvE s a 1 (by simpa using c1)
    by_cases c2 : (getV s a 1).1 = 0
    · rw [if_pos c2]; exact ⟨hn, by simp, by simp only; omega⟩
    rw [if_neg c2] at h ⊢
    by_cases c3 : (getV s (a + 1) 1).2 ≠ 0
    · rw [if_pos c3] at h; exact absurd h c3
    rw [if_neg c3] at h ⊢
    by_cases c4 : Da.good (stM s a n)
    · rw [if_neg (by simpa using c4)] at h ⊢
      have := ln_in f (a + 2) _ (by omega) c4 h
      exact ⟨this.1, by omega, this.2.2⟩
    · rw [if_pos c4] at h; simp at h
theorem ts_in {s : ByteArray} {v a : Int} (ha : 0 ≤ a ∧ a ≤ 8 * s.size) (hv : Da.good v) : ∀ k, (tsk s v a k).2.2.2 = 0 → (tsk s v a k).1.length = k ∧ Da.good (tsk s v a k).2.1 ∧ a ≤ (tsk s v a k).2.2.1 ∧ (tsk s v a k).2.2.1 ≤ 8 * s.size
  | 0, _ => ⟨rfl, hv, by simp [tsk], by simp only [tsk]; omega⟩
  | k + 1, h => by
    by_cases h1 : (tsk s v a k).2.2.2 = 0
    · have ih := ts_in ha hv k h1
      by_cases h2 : (lnV s (tsk s v a k).2.2.1 (tsk s v a k).2.1).2.2 = 0
      · have h3 := ln_in _ _ _ (by omega) ih.2.1 h2
        rw [ts_s h1 h2]
        refine ⟨by simp [ih.1], h3.1, ?_, h3.2.2⟩
        have := h3.2.1
        show a ≤ (lnV s (tsk s v a k).2.2.1 (tsk s v a k).2.1).2.1
        unfold lnV
        omega
      · rw [ts_e h1 h2] at h; exact absurd h h2
    · rw [tsk, if_pos h1] at h; exact absurd h h1

set_option maxRecDepth 100000 in
set_option maxHeartbeats 2000000 in
theorem take_s (s : ByteArray) (hs : s.size ≤ 100000000000) (a n : Int) (ha : -9223372036854775808 ≤ a ∧ a ≤ 9223372036854775807) (hn : -9223372036854775808 ≤ n ∧ n ≤ 9223372036854775807) :
    FPure Try.prog 14 [Is (.string s), Is (.int .i64 a), Is (.int .i64 n)] (Tup [Sl 1 (takeD s a n).1.length ((takeD s a n).1.map (Value.int .i64)), Is (.int .i64 (takeD s a n).2.1), Is (.int .i64 (takeD s a n).2.2)]) := by
  refine FPure.ofD (fd := 25) (caps := caps3) (hp0 := [(1, .var 22 [Is (.slice none 0 0)]), (2, .var 3 [Is (.int .i64 0)]), (3, .var 28 [Is (.int .i64 0)])]) (args' := [Is (.string s), Is (.int .i64 a), Is (.int .i64 n), Any, Any, Any, Ptr 1 0, Ptr 2 0, Ptr 3 0, Any, Any])
    (fun n => [.pointer (some ⟨n, 0, none⟩), .pointer (some ⟨n + 1, 0, none⟩), .pointer (some ⟨n + 2, 0, none⟩)]) (fun vs n => vs ++ [undef, undef, undef, .pointer (some ⟨n, 0, none⟩), .pointer (some ⟨n + 1, 0, none⟩), .pointer (some ⟨n + 2, 0, none⟩), undef, .func (.func 25) #[] #[.pointer (some ⟨n, 0, none⟩), .pointer (some ⟨n + 1, 0, none⟩), .pointer (some ⟨n + 2, 0, none⟩)]]) (fun w => ((w.alloc (.cells #[.slice none 0 0] 22)).alloc (.cells #[.int .i64 0] 3)).alloc (.cells #[.int .i64 0] 28))
    Try.func14 Try.ntmps14 rfl (by kernel_rfl) rfl rfl rfl rfl rfl (run_callFunc Try.func25 rfl rfl) (fun R vs w Q hl hR_ => ?_) (fun σ κ vs hvs => ?_) ?_
  · have hl : vs.length = 3 := hl
    obtain ⟨va, vb, vc, rfl⟩ := len3 hl
    skip
    · have hmf : ∀ (fn : Fn) (first cap : Array Value) (w : World), (Instr.makeFunc fn first cap).run Try.prog w = .ok (.func fn first cap) w := fun _ _ _ _ => rfl
      rw [wpIn_wide] at hR_ ⊢
      refine wp_seq (wp_region ?_)
      simp [wpOps, go_sem]
      repeat refine Or.inl ?_
      refine wp_seq (wp_region ?_)
      simp [wpOps, go_sem]
      repeat refine Or.inl ?_
      refine wp_act (by kernel_rfl) (by first | rfl | (simp [World.alloc]; done)) hR_
  · match vs, hvs with
    | [va, vb, vc], ⟨h1, h2, h3, _⟩ =>
      have e1 := hr_more (HR.nochunks (base := fun b => b < κ.w.heap.size) (σ := σ) (κ := κ)) rfl (fun b hb => hb) 1 22 [.slice none 0 0] rfl (fun j c hc => by cases hc)
      have l1 := κ.new_le (.cells #[.slice none 0 0] 22) (some 0)
      have e2 := hr_more e1 rfl (fun b hb => Nat.lt_of_lt_of_le hb l1.size) 2 3 [.int .i64 0] rfl (fun j c hc => by
        have hz : ∀ y ∈ ([] ++ [(1, Chunk.var 22 ([Value.slice none 0 0].map Is))] : List (Nat × Chunk)), y.2.sup = [] := by simp [Chunk.sup, Is]
        rw [hz (j, c) (hpOf_mem hc)]; simp)
      have l2 := (κ.new (.cells #[.slice none 0 0] 22) (some 0)).new_le (.cells #[.int .i64 0] 3) (some 0)
      have e3 := hr_more e2 rfl (fun b hb => Nat.lt_of_lt_of_le (Nat.lt_of_lt_of_le hb l1.size) l2.size) 3 28 [.int .i64 0] rfl (fun j c hc => by
        have hz : ∀ y ∈ (([] ++ [(1, Chunk.var 22 ([Value.slice none 0 0].map Is))]) ++ [(2, Chunk.var 3 ([Value.int .i64 0].map Is))] : List (Nat × Chunk)), y.2.sup = [] := by simp [Chunk.sup, Is]
        rw [hz (j, c) (hpOf_mem hc)]; simp)
      have l3 := ((κ.new (.cells #[.slice none 0 0] 22) (some 0)).new (.cells #[.int .i64 0] 3) (some 0)).new_le (.cells #[.int .i64 0] 28) (some 0)
      have z1 : (κ.new (.cells #[.slice none 0 0] 22) (some 0)).w.heap.size = κ.w.heap.size + 1 := by simp [Kw.new]
      have z2 : ((κ.new (.cells #[.slice none 0 0] 22) (some 0)).new (.cells #[.int .i64 0] 3) (some 0)).w.heap.size = κ.w.heap.size + 2 := by simp [Kw.new]
      rw [z1] at e2 e3
      rw [z2] at e3
      refine ⟨_, _, rfl, Kw.le_trans l1 (Kw.le_trans l2 l3), fun b hb => ?_, ⟨h1, h2, h3, trivial, trivial, trivial, ⟨_, rfl, rfl⟩, ⟨_, rfl, rfl⟩, ⟨_, rfl, rfl⟩, trivial, trivial, trivial⟩, e3, ⟨⟨_, rfl, rfl⟩, ⟨_, rfl, rfl⟩, ⟨_, rfl, rfl⟩, trivial⟩⟩
      have o1 := κ.new_old (.cells #[.slice none 0 0] 22) (some 0) b hb
      have o2 := (κ.new (.cells #[.slice none 0 0] 22) (some 0)).new_old (.cells #[.int .i64 0] 3) (some 0) b (by omega)
      have o3 := ((κ.new (.cells #[.slice none 0 0] 22) (some 0)).new (.cells #[.int .i64 0] 3) (some 0)).new_old (.cells #[.int .i64 0] 28) (some 0) b (by omega)
      exact ⟨o3.1.trans (o2.1.trans o1.1), o3.2.trans (o2.2.trans o1.2)⟩
  refine W_seq ?_
  refine W_seq ?_
  refine W_regionE (c := 1) (c' := 11) (by kernel_rfl) rfl ?_
  refine Runs_p rfl (Valid.movek (A := Is _) rfl rfl) rfl rfl ?_ -- delta.go:103 move
  refine Runs_p rfl (Valid.lss rfl rfl rfl) rfl rfl ?_ -- delta.go:103 binOp
  refine Runs_p rfl (Valid.movek (A := Is _) rfl rfl) rfl rfl ?_ -- delta.go:103 move
  refine Runs_cnd rfl rfl (Grd.is rfl) [] (fun hg => trivial) (fun hg => Valid.movek (A := Is _) rfl rfl) (by rfl) rfl ?_
  refine Runs_cnd rfl rfl (Grd.is rfl) [(14, _)] (fun hg => ⟨cnd_at rfl (by first | exact hg | exact hg.1 | exact hg.1.1 | exact hg.1.1.1), trivial⟩) (fun hg => Valid.lss rfl rfl rfl) (by rfl) rfl ?_
  refine Runs_p rfl (Valid.pickor rfl rfl rfl rfl (fun h => by first | exact h | exact ⟨hg, h⟩)) rfl rfl ?_ -- delta.go:103 pick
  refine Runs_p rfl (Valid.movek (A := Is _) rfl rfl) rfl rfl ?_ -- delta.go:103 move
  refine Runs_cnd rfl rfl (Grd.is rfl) [] (fun hg => trivial) (fun hg => Valid.movek (A := Is _) rfl rfl) (by rfl) rfl ?_
  refine Runs_cnd rfl rfl (Grd.is rfl) [(18, _)] (fun hg => ⟨cnd_at rfl (by first | exact hg | exact hg.1 | exact hg.1.1 | exact hg.1.1.1), trivial⟩) (fun hg => Valid.gtr rfl rfl rfl) (by rfl) rfl ?_
  refine Runs_p rfl (Valid.pickor rfl rfl rfl rfl (fun h => by first | exact h | exact ⟨hg, h⟩)) rfl rfl ?_ -- delta.go:103 pick
  refine Runs_nil ?_
  refine W.ent ?_ (Ent.ownnilat 1 0 3 1 rfl rfl)
  refine thenQ_n ?_
  refine W_cond _ rfl (fun hb1 => ?_) (fun hb1 => ?_)
  · try simp only [decide_eq_true_eq, Bool.or_eq_true] at hb1
    all_goals (
      · skip
        have htd := td_1 (s := s) hb1
        refine W_up 0 (by kernel_rfl) rfl rfl (c' := 13) rfl ?_
        refine Runs_nil ?_
        refine ⟨_, _, VUp.callm [] rfl (.inl ⟨rfl, rfl⟩) (need_n 1 (by decide)) ⟨(leq_is rfl rfl rfl), trivial⟩ trivial (by kernel_rfl) (by kernel_rfl) (by kernel_rfl), by kernel_rfl, ?_⟩
        refine thenQ_p ?_
        exact ⟨hin3, hout3 _, .panicking (caught _), ⟨⟨_, rfl, .var ⟨leq_any, trivial⟩⟩, ⟨_, rfl, .var ⟨leq_any, trivial⟩⟩, ⟨_, rfl, .var ⟨leq_any, trivial⟩⟩, trivial⟩, rfl, rfl, tk_catch _, rfl, ResOk.three rfl (RVal.cell ag22 rfl rfl rfl (by rw [htd]; exact argle_sl (Reads.nil rfl))) (RVal.cell ag3 rfl rfl rfl (by rw [htd]; exact argle rfl)) (RVal.cell ag28 rfl rfl rfl (by rw [htd]; exact argle rfl))⟩
      done)
  · try simp only [decide_eq_false_iff_not, Bool.or_eq_false_iff] at hb1
    all_goals (
      refine W_skip ?_
      refine thenQ_n ?_
      refine W_seq ?_
      refine W_regionE (c := 12) (c' := 17) (by kernel_rfl) rfl ?_
      refine Runs_p rfl (Valid.movek (A := Is _) rfl rfl) rfl rfl ?_ -- delta.go:106 move
      refine Runs_p rfl (Valid.movek (A := Is _) rfl rfl) rfl rfl ?_ -- delta.go:106 move
      refine Runs_p rfl (Valid.build23 (Value.int .i64 0) rfl rfl (fun _ => by kernel_rfl)) rfl rfl ?_ -- delta.go:106 build
      refine Runs_w rfl (Valid.boxagg rfl rfl) rfl rfl ?_ -- delta.go:106 box
      refine Runs_p rfl (Valid.assignk (A := Ptr 120 0) rfl rfl) rfl rfl ?_ -- delta.go:106 assign
      refine Runs_nil ?_
      refine thenQ_n ?_
      refine W_seq ?_
      have hnb : ¬ ((a < 0 ∨ n < 2) ∨ 258 < n) := by omega
      rcases (show ¬ (getV s a 5).2 = 0 ∨ ((getV s a 5).2 = 0 ∧ ¬ Da.good (getV s a 5).1) ∨ ((getV s a 5).2 = 0 ∧ Da.good (getV s a 5).1) from by by_cases h1 : (getV s a 5).2 = 0 <;> by_cases h2 : Da.good (getV s a 5).1 <;> simp [h1, h2]) with h5 | ⟨h5, hg⟩ | ⟨h5, hg⟩
      · skip
        have htd := td_2 hnb h5
        refine W_up 2 (by kernel_rfl) rfl rfl (c' := 20) rfl ?_
        refine Runs_p rfl (Valid.movek (A := Ptr 120 0) rfl rfl) rfl rfl ?_ -- delta.go:107 move
        refine Runs_p rfl (Valid.movek (A := Ptr 120 0) rfl rfl) rfl rfl ?_ -- delta.go:107 move
        refine Runs_nil ?_
        refine ⟨_, _, VUp.callm [(1, 120)] rfl (.inl ⟨rfl, rfl⟩) (number_ub s hs a 0 ha.2 5 (by omega) _ h5 rfl) ⟨(leq_ptr rfl rfl rfl), (leq_is rfl rfl rfl), trivial⟩ ⟨⟨_, rfl, .var ⟨(leq_is rfl rfl rfl), (leq_is rfl rfl rfl), (leq_is rfl rfl rfl), trivial⟩⟩, trivial⟩ (by kernel_rfl) (by kernel_rfl) (by kernel_rfl), by kernel_rfl, ?_⟩
        refine thenQ_p ?_
        exact ⟨hin3, hout3 _, .panicking (caught _), ⟨⟨_, rfl, .var ⟨leq_any, trivial⟩⟩, ⟨_, rfl, .var ⟨leq_any, trivial⟩⟩, ⟨_, rfl, .var ⟨leq_any, trivial⟩⟩, trivial⟩, rfl, rfl, tk_catch _, rfl, ResOk.three rfl (RVal.cell ag22 rfl rfl rfl (by rw [htd]; exact argle_sl (Reads.nil rfl))) (RVal.cell ag3 rfl rfl rfl (by rw [htd]; exact argle rfl)) (RVal.cell ag28 rfl rfl rfl (by rw [htd]; exact argle rfl))⟩
      · skip
        have htd := td_3 hnb h5 hg
        have hge := gvE s a 5 h5
        refine W_up 3 (by kernel_rfl) rfl rfl (c' := 21) rfl ?_
        refine Runs_p rfl (Valid.movek (A := Ptr 120 0) rfl rfl) rfl rfl ?_ -- delta.go:107 move
        refine Runs_p rfl (Valid.movek (A := Ptr 120 0) rfl rfl) rfl rfl ?_ -- delta.go:107 move
        refine Runs_w rfl (Valid.callm [(1, 120)] rfl (.inl ⟨rfl, rfl⟩) (number_s s (by omega) _ _ (by omega) _ (by omega) (getV s a 5).1 h5 rfl) ⟨(leq_ptr rfl rfl rfl), (leq_is rfl rfl rfl), trivial⟩ ⟨⟨_, rfl, .var ⟨(leq_is rfl rfl rfl), (leq_is rfl rfl rfl), (leq_is rfl rfl rfl), trivial⟩⟩, trivial⟩ (up_pure rfl) (hpup_cons (j := 120) rfl (cup_var (allup_cons (up_pure rfl) (allup_cons (up_pure rfl) (allup_cons (up_pure rfl) allup_nil)))) hpup_nil) (by kernel_rfl) (by kernel_rfl) (by kernel_rfl) (by kernel_rfl) (by kernel_rfl) (by kernel_rfl) (by kernel_rfl) (by kernel_rfl) (by kernel_rfl)) rfl rfl ?_ -- delta.go:107 call
        refine Runs_nil ?_
        refine ⟨_, _, VUp.callm [(1, 120)] rfl (.inl ⟨rfl, rfl⟩) (become_u s _ _ _ hg) ⟨(leq_ptr rfl rfl rfl), (leq_is rfl rfl rfl), trivial⟩ ⟨⟨_, rfl, .var ⟨(leq_is rfl rfl rfl), (leq_is rfl rfl rfl), (leq_is rfl rfl rfl), trivial⟩⟩, trivial⟩ (by kernel_rfl) (by kernel_rfl) (by kernel_rfl), by kernel_rfl, ?_⟩
        refine thenQ_p ?_
        exact ⟨hin3, hout3 _, .panicking (caught _), ⟨⟨_, rfl, .var ⟨leq_any, trivial⟩⟩, ⟨_, rfl, .var ⟨leq_any, trivial⟩⟩, ⟨_, rfl, .var ⟨leq_any, trivial⟩⟩, trivial⟩, rfl, rfl, tk_catch _, rfl, ResOk.three rfl (RVal.cell ag22 rfl rfl rfl (by rw [htd]; exact argle_sl (Reads.nil rfl))) (RVal.cell ag3 rfl rfl rfl (by rw [htd]; exact argle rfl)) (RVal.cell ag28 rfl rfl rfl (by rw [htd]; exact argle rfl))⟩
      · skip
        have htd0 := td_4 hnb h5 hg
        have hge := gvE s a 5 h5
        refine W_regionE (c := 17) (c' := 21) (by kernel_rfl) rfl ?_
        refine Runs_p rfl (Valid.movek (A := Ptr 120 0) rfl rfl) rfl rfl ?_ -- delta.go:107 move
        refine Runs_p rfl (Valid.movek (A := Ptr 120 0) rfl rfl) rfl rfl ?_ -- delta.go:107 move
        refine Runs_w rfl (Valid.callm [(1, 120)] rfl (.inl ⟨rfl, rfl⟩) (number_s s (by omega) _ _ (by omega) _ (by omega) (getV s a 5).1 h5 rfl) ⟨(leq_ptr rfl rfl rfl), (leq_is rfl rfl rfl), trivial⟩ ⟨⟨_, rfl, .var ⟨(leq_is rfl rfl rfl), (leq_is rfl rfl rfl), (leq_is rfl rfl rfl), trivial⟩⟩, trivial⟩ (up_pure rfl) (hpup_cons (j := 120) rfl (cup_var (allup_cons (up_pure rfl) (allup_cons (up_pure rfl) (allup_cons (up_pure rfl) allup_nil)))) hpup_nil) (by kernel_rfl) (by kernel_rfl) (by kernel_rfl) (by kernel_rfl) (by kernel_rfl) (by kernel_rfl) (by kernel_rfl) (by kernel_rfl) (by kernel_rfl)) rfl rfl ?_ -- delta.go:107 call
        refine Runs_w rfl (Valid.callm [(1, 120)] rfl (.inl ⟨rfl, rfl⟩) (become_s s _ _ _ hg) ⟨(leq_ptr rfl rfl rfl), (leq_is rfl rfl rfl), trivial⟩ ⟨⟨_, rfl, .var ⟨(leq_is rfl rfl rfl), (leq_is rfl rfl rfl), (leq_is rfl rfl rfl), trivial⟩⟩, trivial⟩ (up_pure rfl) (hpup_cons (j := 120) rfl (cup_var (allup_cons (up_pure rfl) (allup_cons (up_pure rfl) (allup_cons (up_pure rfl) allup_nil)))) hpup_nil) (by kernel_rfl) (by kernel_rfl) (by kernel_rfl) (by kernel_rfl) (by kernel_rfl) (by kernel_rfl) (by kernel_rfl) (by kernel_rfl) (by kernel_rfl)) rfl rfl ?_ -- delta.go:107 call
        refine Runs_nil ?_
        refine thenQ_n ?_
        refine W_seq ?_
        refine W_seq ?_
        refine W_regionE (c := 21) (c' := 23) (by kernel_rfl) rfl ?_
        refine Runs_p rfl (Valid.movek (A := Is _) rfl rfl) rfl rfl ?_ -- delta.go:108 move
        refine Runs_p rfl (Valid.movek (A := Is _) rfl rfl) rfl rfl ?_ -- delta.go:108 move
        refine Runs_nil ?_
        refine thenQ_n ?_
        refine W_block ?_
        refine W_loopx (G := Nat) (fun (k : Nat) => (k : Int) ≤ n ∧ (tsk s (getV s a 5).1 (a + 5) k).2.2.2 = 0) [(6, Ptr 1 0), (7, Ptr 2 0), (8, Ptr 3 0), (9, Ptr 120 0), (30, Is _)] (fun (k : Nat) => [(31, Is (.int .i64 (k : Int)))]) [(2, .var 3 [Is _]), (3, .var 28 [Is _])] (fun (k : Nat) => [(1, .var 22 [Ab.Own 88 1 k ((tsk s (getV s a 5).1 (a + 5) k).1.map (Value.int .i64))]), (120, .var 58 [Is (.string s), Is (.int .i64 (tsk s (getV s a 5).1 (a + 5) k).2.2.1), Is (.int .i64 (tsk s (getV s a 5).1 (a + 5) k).2.1)]), (88, .row 3 1 k ((tsk s (getV s a 5).1 (a + 5) k).1.map (Value.int .i64)))]) 23 (fun (k : Nat) => n.toNat - k) (0) [] (⟨by omega, rfl⟩) ⟨⟨(leq_is rfl rfl (by first | rfl)), trivial⟩, ⟨(leq_ptr rfl rfl rfl), (leq_ptr rfl rfl rfl), (leq_ptr rfl rfl rfl), (leq_ptr rfl rfl rfl), (leq_is rfl rfl rfl), trivial⟩, ⟨hp_var rfl ⟨(leq_own rfl rfl rfl (by first | rfl) (by first | rfl)), trivial⟩, hp_var rfl ⟨(leq_is rfl rfl (by first | rfl)), (leq_is rfl rfl (by first | rfl)), (leq_is rfl rfl (by first | rfl)), trivial⟩, hp_row rfl (by first | rfl) (by first | rfl), trivial⟩, ⟨hp_var rfl ⟨(leq_is rfl rfl rfl), trivial⟩, hp_var rfl ⟨(leq_is rfl rfl rfl), trivial⟩, trivial⟩, rfl, ⟨supg rfl, trivial⟩, ⟨supg rfl, supg rfl, supg rfl, supg rfl, supg rfl, trivial⟩, ⟨suph rfl rfl, suph rfl rfl, suph rfl rfl, trivial⟩, ⟨suph rfl rfl, suph rfl rfl, trivial⟩, rfl, rfl⟩ ?_
        intro k hI1
        obtain ⟨hi2, hi3⟩ := hI1
        refine W_seq ?_
        refine W_regionE (c := 23) (c' := 24) (by kernel_rfl) rfl ?_
        refine Runs_p rfl (Valid.lss rfl rfl rfl) rfl rfl ?_ -- delta.go:108 binOp
        refine Runs_nil ?_
        refine thenQ_n ?_
        refine W_seq ?_
        refine W_cond _ rfl (fun hb2 => ?_) (fun hb2 => ?_)
        · try simp only [decide_eq_true_eq] at hb2
          all_goals (
            refine W_skip ?_
            refine thenQ_n ?_
            refine W_seq ?_
            refine W_block ?_
            have hts := ts_in (s := s) (v := (getV s a 5).1) (a := a + 5) (by omega) hg k hi3
            by_cases hln : (lnV s (tsk s (getV s a 5).1 (a + 5) k).2.2.1 (tsk s (getV s a 5).1 (a + 5) k).2.1).2.2 = 0
            · skip
              have hst := ts_s hi3 hln
              refine W_drawE (c := 24) (c' := 30) (by kernel_rfl) rfl ?_
              refine Runs_p rfl (Valid.load _ rfl ag22 rfl rfl rfl) rfl rfl ?_ -- delta.go:109 load
              refine Runs_p rfl (Valid.movek (A := Ptr 120 0) rfl rfl) rfl rfl ?_ -- delta.go:109 move
              refine Runs_w rfl (Valid.callm [(1, 120)] rfl (.inl ⟨rfl, rfl⟩) (settle_s s (by omega) _ _ (by omega) hts.2.1 hln) ⟨(leq_ptr rfl rfl rfl), trivial⟩ ⟨⟨_, rfl, .var ⟨(leq_is rfl rfl rfl), (leq_is rfl rfl rfl), (leq_is rfl rfl rfl), trivial⟩⟩, trivial⟩ (up_pure rfl) (hpup_cons (j := 120) rfl (cup_var (allup_cons (up_pure rfl) (allup_cons (up_pure rfl) (allup_cons (up_pure rfl) allup_nil)))) hpup_nil) (by kernel_rfl) (by kernel_rfl) (by kernel_rfl) (by kernel_rfl) (by kernel_rfl) (by kernel_rfl) (by kernel_rfl) (by kernel_rfl) (by kernel_rfl)) rfl rfl ?_ -- delta.go:109 call
              refine Runs_p rfl (Valid.lit (el := 3) [_] rfl rfl (fun _ => by kernel_rfl) rfl (by decide)) rfl rfl ?_ -- delta.go:109 buildSlice
              refine Runs_w rfl (Valid.app rfl Try.underlying22 ti3 (by decide) rfl rfl (Reads.sl rfl) (by first | exact one_map (fun _ => rfl) | exact one_cons rfl one_nil | exact one_app (one_map (fun _ => rfl)) (one_cons rfl one_nil) | exact one_app (one_map (fun _ => rfl)) (one_map (fun _ => rfl)) | exact one_rep rfl | exact one_app (one_rep rfl) (one_map (fun _ => rfl)) | (intro u hu; simp at hu; rcases hu with rfl | hu <;> first | rfl | (subst hu; rfl))) (by first | (simp only [maxLen]; omega) | (simp only [maxLen, Int.toNat_natCast, toNat_add, toNat_add1, List.length_append, List.length_cons, List.length_nil, List.length_replicate]; omega)) (by first | omega | (simp only [Int.toNat_natCast, toNat_add, toNat_add1, List.length_append, List.length_cons, List.length_nil, List.length_replicate]; omega))) rfl rfl ?_ -- delta.go:109 call
              refine Runs_op rfl (Valid.store rfl sz22 rfl rfl (Nat.le_of_ble_eq_true rfl) (One.sl (Reads.own rfl))) rfl ?_ -- delta.go:109 store
              refine Runs_nil ?_
              refine ⟨_, _, rfl, rfl, by kernel_rfl, ?_⟩
              refine blockQ_n ?_
              refine thenQ_n ?_
              refine W_regionE (c := 30) (c' := 32) (by kernel_rfl) rfl ?_
              refine Runs_p rfl (Valid.add rfl rfl rfl (room64 (by first | omega | (simp only [Int.toNat_natCast, toNat_add, toNat_add1, List.length_append, List.length_cons, List.length_nil, List.length_replicate]; omega)) (by first | omega | (simp only [Int.toNat_natCast, toNat_add, toNat_add1, List.length_append, List.length_cons, List.length_nil, List.length_replicate]; omega)))) rfl rfl ?_ -- delta.go:108 binOp
              refine Runs_p rfl (Valid.movek (A := Is _) rfl rfl) rfl rfl ?_ -- delta.go:108 move
              refine Runs_nil ?_
              refine LoopQ.next (k + 1) [(88, 224)] (⟨by omega, by rw [hst]⟩) (by omega) ⟨⟨(leq_is rfl rfl (by first | rfl | (rw [hst]; done) | (rw [hst]; rfl) | (rw [hst]; simp; done))), trivial⟩, ⟨(leq_ptr rfl rfl rfl), (leq_ptr rfl rfl rfl), (leq_ptr rfl rfl rfl), (leq_ptr rfl rfl rfl), (leq_is rfl rfl rfl), trivial⟩, ⟨hp_var rfl ⟨(leq_own rfl rfl rfl (by first | rfl | (rw [hst]; done) | (rw [hst]; rfl) | (rw [hst]; simp; done)) (by first | rfl | (rw [hst]; done) | (rw [hst]; rfl) | (rw [hst]; simp; done))), trivial⟩, hp_var rfl ⟨(leq_is rfl rfl (by first | rfl | (rw [hst]; done) | (rw [hst]; rfl) | (rw [hst]; simp; done))), (leq_is rfl rfl (by first | rfl | (rw [hst]; done) | (rw [hst]; rfl) | (rw [hst]; simp; done))), (leq_is rfl rfl (by first | rfl | (rw [hst]; done) | (rw [hst]; rfl) | (rw [hst]; simp; done))), trivial⟩, hp_row rfl (by first | rfl | (rw [hst]; done) | (rw [hst]; rfl) | (rw [hst]; simp; done)) (by first | rfl | (rw [hst]; done) | (rw [hst]; rfl) | (rw [hst]; simp; done)), trivial⟩, ⟨hp_var rfl ⟨(leq_is rfl rfl rfl), trivial⟩, hp_var rfl ⟨(leq_is rfl rfl rfl), trivial⟩, trivial⟩, rfl, ⟨supg rfl, trivial⟩, ⟨supg rfl, supg rfl, supg rfl, supg rfl, supg rfl, trivial⟩, ⟨suph rfl rfl, suph rfl rfl, suph rfl rfl, trivial⟩, ⟨suph rfl rfl, suph rfl rfl, trivial⟩, rfl, rfl⟩
            · skip
              have hte := ts_err (n := n.toNat) (by omega) hi3 hln
              have htd := htd0
              rw [hte] at htd
              refine W_upD 2 (by kernel_rfl) rfl rfl (c' := 30) rfl (by kernel_rfl) ?_
              refine Runs_p rfl (Valid.load _ rfl ag22 rfl rfl rfl) rfl rfl ?_ -- delta.go:109 load
              refine Runs_p rfl (Valid.movek (A := Ptr 120 0) rfl rfl) rfl rfl ?_ -- delta.go:109 move
              refine Runs_nil ?_
              refine ⟨_, _, _, rfl, rfl, by kernel_rfl, VUp.callm [(1, 120)] rfl (.inl ⟨rfl, rfl⟩) (settle_u s (by omega) _ _ (by omega) hts.2.1 hln) ⟨(leq_ptr rfl rfl rfl), trivial⟩ ⟨⟨_, rfl, .var ⟨(leq_is rfl rfl rfl), (leq_is rfl rfl rfl), (leq_is rfl rfl rfl), trivial⟩⟩, trivial⟩ (by kernel_rfl) (by kernel_rfl) (by kernel_rfl), by kernel_rfl, ?_⟩
              refine blockQ_p ?_
              refine thenQ_p ?_
              refine loopQ_p ?_
              refine blockQ_p ?_
              refine thenQ_p ?_
              exact ⟨hin3, hout3 _, .panicking (caught _), ⟨⟨_, rfl, .var ⟨leq_any, trivial⟩⟩, ⟨_, rfl, .var ⟨leq_any, trivial⟩⟩, ⟨_, rfl, .var ⟨leq_any, trivial⟩⟩, trivial⟩, rfl, rfl, tk_catch _, rfl, ResOk.three rfl (RVal.cell ag22 rfl rfl rfl (by rw [htd]; exact argle_sl (Reads.nil rfl))) (RVal.cell ag3 rfl rfl rfl (by rw [htd]; exact argle rfl)) (RVal.cell ag28 rfl rfl rfl (by rw [htd]; exact argle rfl))⟩
            done)
        · try simp only [decide_eq_false_iff_not] at hb2
          all_goals (
            refine W_exit ?_
            refine thenQ_e ?_
            refine loopQ_e ?_
            refine blockQ_x ?_
            refine thenQ_n ?_
            refine W_seq ?_
            have hts := ts_in (s := s) (v := (getV s a 5).1) (a := a + 5) (by omega) hg k hi3
            have htd := htd0
            refine W_drawE (c := 24) (c' := 32) (by kernel_rfl) rfl ?_
            refine Runs_p rfl (Valid.load _ rfl ag22 rfl rfl rfl) rfl rfl ?_ -- delta.go:111 load
            refine Runs_p rfl (Valid.movek (A := Ptr 120 0) rfl rfl) rfl rfl ?_ -- delta.go:111 move
            refine Runs_p rfl (Valid.nilcheck rfl rfl) rfl rfl ?_ -- delta.go:111 nilCheck
            refine Runs_p rfl (Valid.fieldaddr (off' := 1) rfl rfl (fun _ _ => by kernel_rfl)) rfl rfl ?_ -- delta.go:111 fieldAddr
            refine Runs_p rfl (Valid.load _ rfl ag3 rfl rfl rfl) rfl rfl ?_ -- delta.go:111 load
            refine Runs_op rfl (Valid.store rfl sz22 rfl rfl (Nat.le_of_ble_eq_true rfl) (One.sl (Reads.own rfl))) rfl ?_ -- delta.go:111 store
            refine Runs_op rfl (Valid.store rfl sz3 rfl rfl (Nat.le_of_ble_eq_true rfl) (One.is rfl rfl rfl)) rfl ?_ -- delta.go:111 store
            refine Runs_op rfl (Valid.store rfl sz28 rfl rfl (Nat.le_of_ble_eq_true rfl) (One.is rfl rfl rfl)) rfl ?_ -- delta.go:111 store
            refine Runs_nil ?_
            refine ⟨_, _, rfl, rfl, by kernel_rfl, ?_⟩
            refine thenQ_n ?_
            refine W_ret ?_
            exact ⟨[(1, .var 22 [Sl 1 (takeD s a n).1.length ((takeD s a n).1.map (Value.int .i64))]), (2, .var 3 [Is (.int .i64 (takeD s a n).2.1)]), (3, .var 28 [Is (.int .i64 (takeD s a n).2.2)])], ⟨⟨_, rfl, .var ⟨(leq_sl (Reads.own rfl) rfl (by first | (rw [htd, hts.1]; omega) | (rw [htd, show n.toNat = k by omega, hts.1]; done) | (rw [htd, show n.toNat = k by omega]; done) | (rw [htd, show n.toNat = k by omega]; exact congrArg (Value.int .i64) hi3.symm) | (rw [htd, show n.toNat = k by omega, hi3]; done)) (by first | (rw [htd, hts.1]; omega) | (rw [htd, show n.toNat = k by omega, hts.1]; done) | (rw [htd, show n.toNat = k by omega]; done) | (rw [htd, show n.toNat = k by omega]; exact congrArg (Value.int .i64) hi3.symm) | (rw [htd, show n.toNat = k by omega, hi3]; done))), trivial⟩⟩, ⟨_, rfl, .var ⟨(leq_is rfl rfl (by first | (rw [htd, hts.1]; omega) | (rw [htd, show n.toNat = k by omega, hts.1]; done) | (rw [htd, show n.toNat = k by omega]; done) | (rw [htd, show n.toNat = k by omega]; exact congrArg (Value.int .i64) hi3.symm) | (rw [htd, show n.toNat = k by omega, hi3]; done))), trivial⟩⟩, ⟨_, rfl, .var ⟨(leq_is rfl rfl (by first | (rw [htd, hts.1]; omega) | (rw [htd, show n.toNat = k by omega, hts.1]; done) | (rw [htd, show n.toNat = k by omega]; done) | (rw [htd, show n.toNat = k by omega]; exact congrArg (Value.int .i64) hi3.symm) | (rw [htd, show n.toNat = k by omega, hi3]; done))), trivial⟩⟩, trivial⟩, rfl, tk_idle _, ResOk.three rfl (RVal.cell ag22 rfl rfl rfl (argle rfl)) (RVal.cell ag3 rfl rfl rfl (argle rfl)) (RVal.cell ag28 rfl rfl rfl (argle rfl))⟩
            done)
      done)end Dc
end Go.Proofs.Ytbfigolloaeknaa
