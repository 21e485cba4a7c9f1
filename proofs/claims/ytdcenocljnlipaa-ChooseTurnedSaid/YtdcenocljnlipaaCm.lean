/-
  WALKS of what all stages use: rows of numbers compared.
-/
import Derived.Test.YtdcenocljnlipaaRows
import Derived.Test.YtdcenocljnlipaaMgb
namespace Go.Proofs.Ytdcenocljnlipaa
open Go.RowKit
namespace Cm
open Ab
theorem ag3 (w : World) : (isAgg 3).run Try.prog w = .ok false w := by kernel_rfl
theorem sz3 (w : World) : (sizeOf 3).run Try.prog w = .ok 1 w := by kernel_rfl
theorem take_eq_snoc (l m : List Int) (k : Nat) (h1 : k < l.length) (h2 : k < m.length) (h : l.take k = m.take k) (he : l.getD k 0 = m.getD k 0) : l.take (k + 1) = m.take (k + 1) := by
  rw [take_snoc l k 0 h1, take_snoc m k 0 h2, h, he]
theorem eq_of_takes (l m : List Int) (k : Nat) (h1 : l.length = m.length) (h : l.take k = m.take k) (hk : l.length ≤ k) : l = m := by
  rwa [take_all l k hk, take_all m k (by omega)] at h
theorem ne_of_at (l m : List Int) (k : Nat) (h : l.getD k 0 ≠ m.getD k 0) : l ≠ m := fun e => h (by rw [e])

set_option maxRecDepth 100000 in
set_option maxHeartbeats 1000000 in
theorem ints_s (l m : List Int) (hl : l.length ≤ 1000000000000) (hm : m.length ≤ 1000000000000) :
    FPure Try.prog 17 [Sl 1 l.length (l.map (Value.int .i64)), Sl 1 m.length (m.map (Value.int .i64))] (Is (.bool (decide (l = m)))) := by
  refine FPure.of Try.func17 Try.ntmps17 rfl (by kernel_rfl) rfl rfl rfl ?_
  refine W_seq ?_
  refine W_regionE (c := 1) (c' := 2) (by kernel_rfl) rfl ?_
  refine Runs_p rfl (Valid.assignk (A := Is _) rfl rfl) rfl rfl ?_
  refine Runs_nil ?_
  refine thenQ_n ?_
  refine W_seq ?_
  refine W_seq ?_
  refine W_regionE (c := 2) (c' := 7) (by kernel_rfl) rfl ?_
  refine Runs_p rfl (Valid.movek (A := Sl 1 _ _) rfl rfl) rfl rfl ?_
  refine Runs_p rfl (Valid.len rfl Try.underlying22 (Reads.sl rfl)) rfl rfl ?_
  refine Runs_p rfl (Valid.movek (A := Sl 1 _ _) rfl rfl) rfl rfl ?_
  refine Runs_p rfl (Valid.len rfl Try.underlying22 (Reads.sl rfl)) rfl rfl ?_
  refine Runs_p rfl (Valid.neq rfl rfl rfl) rfl rfl ?_
  refine Runs_nil ?_
  refine thenQ_n ?_
  refine W_cond _ rfl (fun hb1 => ?_) (fun hb1 => ?_)
  · try simp only [decide_eq_true_eq, ne_eq] at hb1
    all_goals (
      refine W_seq ?_
      refine W_regionE (c := 7) (c' := 8) (by kernel_rfl) rfl ?_
      refine Runs_p rfl (Valid.assignk (A := Is _) rfl rfl) rfl rfl ?_
      refine Runs_nil ?_
      refine thenQ_n ?_
      refine W_ret ?_
      refine thenQ_r ?_
      refine finQ_r ?_
      refine ResOk.one rfl (RVal.is rfl rfl (by first | (rw [decide_eq_true (eq_of_takes l m k hk2 hk3 (by omega))]) | (rw [decide_eq_false (fun e => by subst e; omega)]) | (rw [decide_eq_false (ne_of_at l m k (by omega))])))
      done)
  · try simp only [decide_eq_false_iff_not, ne_eq] at hb1
    all_goals (
      refine W_skip ?_
      refine thenQ_n ?_
      refine W_seq ?_
      refine W_seq ?_
      refine W_regionE (c := 7) (c' := 8) (by kernel_rfl) rfl ?_
      refine Runs_p rfl (Valid.assignk (A := Is _) rfl rfl) rfl rfl ?_
      refine Runs_nil ?_
      refine thenQ_n ?_
      refine W_block ?_
      refine W_loopx (G := Nat) (fun (k : Nat) => k ≤ l.length ∧ l.length = m.length ∧ l.take k = m.take k) [(0, Sl 1 _ _), (1, Sl 1 _ _)] (fun (k : Nat) => [(5, Is (.int .i64 (k : Int)))]) [] (fun (k : Nat) => []) 8 (fun (k : Nat) => l.length - k) (0) [] (⟨by omega, by omega, rfl⟩) ⟨⟨(leq_is rfl rfl (by first | rfl | (simp; done) | omega | (simp [toNat_add, toNat_add1, Nat.add_assoc]; done) | (simp [toNat_add, toNat_add1]; omega))), trivial⟩, ⟨(leq_sl (Reads.sl rfl) rfl rfl rfl), (leq_sl (Reads.sl rfl) rfl rfl rfl), trivial⟩, trivial, trivial, rfl, ⟨supg rfl, trivial⟩, ⟨supg rfl, supg rfl, trivial⟩, trivial, trivial, rfl, rfl⟩ ?_
      intro k hI1
      obtain ⟨hk1, hk2, hk3⟩ := hI1
      refine W_seq ?_
      refine W_seq ?_
      refine W_regionE (c := 8) (c' := 12) (by kernel_rfl) rfl ?_
      refine Runs_p rfl (Valid.movek (A := Is _) rfl rfl) rfl rfl ?_
      refine Runs_p rfl (Valid.movek (A := Sl 1 _ _) rfl rfl) rfl rfl ?_
      refine Runs_p rfl (Valid.len rfl Try.underlying22 (Reads.sl rfl)) rfl rfl ?_
      refine Runs_p rfl (Valid.lss rfl rfl rfl) rfl rfl ?_
      refine Runs_nil ?_
      refine thenQ_n ?_
      refine W_cond _ rfl (fun hb2 => ?_) (fun hb2 => ?_)
      · try simp only [decide_eq_true_eq] at hb2
        all_goals (
          refine W_skip ?_
          refine thenQ_n ?_
          refine W_seq ?_
          refine W_block ?_
          refine W_seq ?_
          refine W_drawE (c := 12) (c' := 21) (by kernel_rfl) rfl ?_
          refine Runs_p rfl (Valid.movek (A := Sl 1 _ _) rfl rfl) rfl rfl ?_
          refine Runs_p rfl (Valid.movek (A := Is _) rfl rfl) rfl rfl ?_
          refine Runs_p rfl (Valid.eltaddr1 0 rfl Try.underlying22 sz3 (Reads.sl rfl) rfl (by omega) rfl) rfl rfl ?_
          refine Runs_p rfl (Valid.loadelt rfl ag3 rfl) rfl rfl ?_
          refine Runs_p rfl (Valid.movek (A := Sl 1 _ _) rfl rfl) rfl rfl ?_
          refine Runs_p rfl (Valid.movek (A := Is _) rfl rfl) rfl rfl ?_
          refine Runs_p rfl (Valid.eltaddr1 0 rfl Try.underlying22 sz3 (Reads.sl rfl) rfl (by omega) rfl) rfl rfl ?_
          refine Runs_p rfl (Valid.loadelt rfl ag3 rfl) rfl rfl ?_
          refine Runs_p rfl (Valid.neq rfl rfl rfl) rfl rfl ?_
          refine Runs_nil ?_
          refine ⟨_, _, rfl, rfl, by kernel_rfl, ?_⟩
          refine thenQ_n ?_
          refine W_cond _ rfl (fun hb3 => ?_) (fun hb3 => ?_)
          · try simp only [Int.toNat_natCast, decide_eq_true_eq, ne_eq] at hb3
            all_goals (
              refine W_seq ?_
              refine W_regionE (c := 21) (c' := 22) (by kernel_rfl) rfl ?_
              refine Runs_p rfl (Valid.assignk (A := Is _) rfl rfl) rfl rfl ?_
              refine Runs_nil ?_
              refine thenQ_n ?_
              refine W_ret ?_
              refine blockQ_r ?_
              refine thenQ_r ?_
              refine loopQ_r ?_
              refine blockQ_r ?_
              refine thenQ_r ?_
              refine finQ_r ?_
              refine ResOk.one rfl (RVal.is rfl rfl (by first | (rw [decide_eq_true (eq_of_takes l m k hk2 hk3 (by omega))]) | (rw [decide_eq_false (fun e => by subst e; omega)]) | (rw [decide_eq_false (ne_of_at l m k (by omega))])))
              done)
          · try simp only [Int.toNat_natCast, decide_eq_false_iff_not, ne_eq] at hb3
            all_goals (
              refine W_skip ?_
              refine blockQ_n ?_
              refine thenQ_n ?_
              refine W_regionE (c := 21) (c' := 24) (by kernel_rfl) rfl ?_
              refine Runs_p rfl (Valid.movek (A := Is _) rfl rfl) rfl rfl ?_
              refine Runs_p rfl (Valid.add rfl rfl rfl (room64 (by omega) (by omega))) rfl rfl ?_
              refine Runs_p rfl (Valid.assignk (A := Is _) rfl rfl) rfl rfl ?_
              refine Runs_nil ?_
              refine LoopQ.next (k + 1) [] (⟨by omega, by omega, take_eq_snoc l m k (by omega) (by omega) hk3 (by omega)⟩) (by first | omega | (dsimp only; omega)) ⟨⟨(leq_is rfl rfl (by first | rfl | (simp; done) | omega | (simp [toNat_add, toNat_add1, Nat.add_assoc]; done) | (simp [toNat_add, toNat_add1]; omega))), trivial⟩, ⟨(leq_sl (Reads.sl rfl) rfl rfl rfl), (leq_sl (Reads.sl rfl) rfl rfl rfl), trivial⟩, trivial, trivial, rfl, ⟨supg rfl, trivial⟩, ⟨supg rfl, supg rfl, trivial⟩, trivial, trivial, rfl, rfl⟩
              done)
          done)
      · try simp only [decide_eq_false_iff_not] at hb2
        all_goals (
          refine W_exit ?_
          refine thenQ_e ?_
          refine loopQ_e ?_
          refine blockQ_x ?_
          refine thenQ_n ?_
          refine W_seq ?_
          refine W_regionE (c := 12) (c' := 13) (by kernel_rfl) rfl ?_
          refine Runs_p rfl (Valid.assignk (A := Is _) rfl rfl) rfl rfl ?_
          refine Runs_nil ?_
          refine thenQ_n ?_
          refine W_ret ?_
          refine finQ_r ?_
          refine ResOk.one rfl (RVal.is rfl rfl (by first | (rw [decide_eq_true (eq_of_takes l m k hk2 hk3 (by omega))]) | (rw [decide_eq_false (fun e => by subst e; omega)]) | (rw [decide_eq_false (ne_of_at l m k (by omega))])))
          done)
      done)

theorem ksame (l : List Int) (h : l.length ≤ 1000000000000) : FPure Try.prog 17 [Sl 1 l.length (l.map (Value.int .i64)), Sl 1 l.length (l.map (Value.int .i64))] (Is (.bool true)) := by
  have h := ints_s l l h h
  rw [decide_eq_true rfl] at h
  exact h
theorem ints_t {l m : List Int} {n k : Nat} {xs ys : List Value} (hn : n = l.length) (hx : xs = l.map (Value.int .i64)) (hk : k = m.length) (hy : ys = m.map (Value.int .i64)) (hl : l.length ≤ 1000000000000) (he : l = m) : FPure Try.prog 17 [Sl 1 n xs, Sl 1 k ys] (Is (.bool true)) := by
  subst he hn hx hk hy
  exact ksame l hl
end Cm
end Go.Proofs.Ytdcenocljnlipaa
