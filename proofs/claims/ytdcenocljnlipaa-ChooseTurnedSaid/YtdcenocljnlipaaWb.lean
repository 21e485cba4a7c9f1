/-
  WALKS of stage 10: the first one is taken.
-/
import Derived.Test.YtdcenocljnlipaaRows
import Derived.Test.YtdcenocljnlipaaMgc
import Derived.Test.YtdcenocljnlipaaWa
namespace Go.Proofs.Ytdcenocljnlipaa
open Go.RowKit
namespace Wb
open Ab Wa
theorem ag79 (w : World) : (isAgg 79).run Try.prog w = .ok true w := by kernel_rfl
theorem ag80 (w : World) : (isAgg 80).run Try.prog w = .ok false w := by kernel_rfl
theorem ag81 (w : World) : (isAgg 81).run Try.prog w = .ok false w := by kernel_rfl
theorem sz79 (w : World) : (sizeOf 79).run Try.prog w = .ok 2 w := by kernel_rfl
theorem sz81 (w : World) : (sizeOf 81).run Try.prog w = .ok 1 w := by kernel_rfl
theorem zv79 (w : World) : (zeroValue 79).run Try.prog w = .ok (.agg #[(Value.int .i64 0), (Value.int .i64 0)]) w := by kernel_rfl
def gt0 (l : List Tr) (i : Nat) : Tr := l.getD i (0, 0)
/-- the best of one and of those below it, of the first t of them -/
def bs (l : List Tr) (a : Nat) : Nat → Nat
  | 0 => a
  | t + 1 => if ahd (l.getD (2 * a + 1 + t) (0, 0)) (l.getD (bs l a t) (0, 0)) = true then 2 * a + 1 + t else bs l a t
theorem bs_y {l : List Tr} {a t : Nat} (h : ahd (l.getD (2 * a + 1 + t) (0, 0)) (l.getD (bs l a t) (0, 0)) = true) : bs l a (t + 1) = 2 * a + 1 + t := by rw [bs, if_pos h]
theorem bs_n {l : List Tr} {a t : Nat} (h : ¬ ahd (l.getD (2 * a + 1 + t) (0, 0)) (l.getD (bs l a t) (0, 0)) = true) : bs l a (t + 1) = bs l a t := by rw [bs, if_neg h]
theorem bs_in (l : List Tr) (a : Nat) : ∀ t, bs l a t = a ∨ (2 * a + 1 ≤ bs l a t ∧ bs l a t < 2 * a + 1 + t)
  | 0 => .inl rfl
  | t + 1 => by
    have ih := bs_in l a t
    rw [bs]; split
    · exact .inr ⟨by omega, by omega⟩
    · rcases ih with h | h
      · exact .inl h
      · exact .inr ⟨by omega, by omega⟩
def bst (l : List Tr) (a : Nat) : Nat := bs l a (min 2 (l.length - (2 * a + 1)))
theorem bst_in (l : List Tr) (a : Nat) : bst l a = a ∨ (a < bst l a ∧ bst l a < l.length) := by
  have := bs_in l a (min 2 (l.length - (2 * a + 1)))
  unfold bst; omega
/-- what stands at a place goes down as long as one below it comes first -/
def dnL (l : List Tr) (a : Nat) : List Tr := if _h : bst l a = a then l else dnL (swp l a (bst l a)) (bst l a)
  termination_by l.length - a
  decreasing_by
    have := bst_in l a
    rw [swp_len]; omega
theorem dn_n {l : List Tr} {a : Nat} (h : bst l a = a) : dnL l a = l := by rw [dnL, dif_pos h]
theorem dn_y {l : List Tr} {a : Nat} (h : ¬ bst l a = a) : dnL l a = dnL (swp l a (bst l a)) (bst l a) := by rw [dnL, dif_neg h]
def cut0 (l : List Tr) : List Tr := (swp l 0 (l.length - 1)).take (l.length - 1)
theorem cut0_len (l : List Tr) : (cut0 l).length = l.length - 1 := by unfold cut0; rw [List.length_take, swp_len]; omega

set_option maxRecDepth 100000 in
set_option maxHeartbeats 1000000 in
theorem take_s (l : List Tr) (h0 : 0 < l.length) (hl : l.length ≤ 1000) :
    FMem Try.prog 54 [Ptr 1 0] [(1, .var 83 [Bfz 2 l.length, FnV 52 [] []]), (2, .bfe 79 2 ((l).flatMap (fun p : Int × Int => [Value.int .i64 p.1, Value.int .i64 p.2])))] (Agg [Is (.int .i64 (l.getD 0 (0, 0)).1), Is (.int .i64 (l.getD 0 (0, 0)).2)]) [(1, .var 83 [Bfz 10 (l.length - 1), FnV 52 [] []]), (10, .bfe 79 2 ((dnL (cut0 l) 0).flatMap (fun p : Int × Int => [Value.int .i64 p.1, Value.int .i64 p.2])))] := by
  refine FMem.of Try.func54 Try.ntmps54 rfl (by kernel_rfl) rfl rfl rfl ?_
  refine W_seq ?_
  refine W_regionE (c := 1) (c' := 2) (by kernel_rfl) rfl ?_
  refine Runs_w rfl (Valid.alloc [(Value.int .i64 0), (Value.int .i64 0)] rfl zv79 rfl) rfl rfl ?_
  refine Runs_nil ?_
  refine thenQ_n ?_
  refine W_seq ?_
  refine W_drawE (c := 2) (c' := 17) (by kernel_rfl) rfl ?_
  refine Runs_p rfl (Valid.movek (A := Ptr 1 0) rfl rfl) rfl rfl ?_
  refine Runs_p rfl (Valid.nilcheck rfl rfl) rfl rfl ?_
  refine Runs_p rfl (Valid.fieldaddr (off' := 0) rfl rfl (fun _ _ => by kernel_rfl)) rfl rfl ?_
  refine Runs_p rfl (Valid.load _ rfl ag81 rfl rfl rfl) rfl rfl ?_
  refine Runs_p rfl (Valid.idxE rfl Try.underlying81 sz79 rfl rfl rfl (by omega)) rfl rfl ?_
  refine Runs_p rfl (Valid.loadE (f := (fun p : Int × Int => [Value.int .i64 p.1, Value.int .i64 p.2])) (0, 0) _ rfl (fun _ => rfl) ag79 sz79 rfl rfl rfl (by omega)) rfl rfl ?_
  refine Runs_p rfl (Valid.movek (A := Ptr 1 0) rfl rfl) rfl rfl ?_
  refine Runs_p rfl (Valid.nilcheck rfl rfl) rfl rfl ?_
  refine Runs_p rfl (Valid.fieldaddr (off' := 0) rfl rfl (fun _ _ => by kernel_rfl)) rfl rfl ?_
  refine Runs_p rfl (Valid.load _ rfl ag81 rfl rfl rfl) rfl rfl ?_
  refine Runs_p rfl (Valid.lenZ rfl Try.underlying81 rfl) rfl rfl ?_
  refine Runs_p rfl (Valid.sub rfl rfl rfl (room64 (by omega) (by omega))) rfl rfl ?_
  refine Runs_w rfl (Valid.alloc [(Value.int .i64 0), (Value.int .i64 0)] rfl zv79 rfl) rfl rfl ?_
  refine Runs_op rfl (Valid.storeagg (l := [_, _]) rfl sz79 rfl rfl (Nat.le_of_ble_eq_true rfl) rfl ⟨(One.is rfl rfl rfl), (One.is rfl rfl rfl), trivial⟩) rfl ?_
  refine Runs_p rfl (Valid.assignk (A := Is _) rfl rfl) rfl rfl ?_
  refine Runs_nil ?_
  refine ⟨_, _, rfl, rfl, by kernel_rfl, ?_⟩
  refine thenQ_n ?_
  refine W_seq ?_
  have e1 : (l.length : Int) - 1 = ((l.length - 1 : Nat) : Int) := by omega
  rw [e1]
  have hsw := swp_len l 0 (l.length - 1)
  refine W_regionE (c := 17) (c' := 20) (by kernel_rfl) rfl ?_
  refine Runs_p rfl (Valid.movek (A := Ptr 1 0) rfl rfl) rfl rfl ?_
  refine Runs_p rfl (Valid.movek (A := Is _) rfl rfl) rfl rfl ?_
  refine Runs_w rfl (Valid.callm [(1, 1), (2, 2)] rfl (.inl ⟨rfl, rfl⟩) (swap_s l 0 (l.length - 1) (by omega) (by omega)) ⟨(leq_ptr rfl rfl rfl), (leq_is rfl rfl rfl), (leq_is rfl rfl rfl), trivial⟩ ⟨⟨_, rfl, .var ⟨(leq_bfz rfl rfl rfl (by first | rfl | omega)), (leq_fn rfl rfl trivial trivial), trivial⟩⟩, ⟨_, rfl, .bfe rfl⟩, trivial⟩ (up_pure rfl) (hpup_cons (j := 1) rfl (cup_var (allup_cons (up_bfz (id' := 2) rfl) (allup_cons (up_fn allup_nil allup_nil) allup_nil))) (hpup_cons (j := 2) rfl cup_bfe hpup_nil)) (by kernel_rfl) (by kernel_rfl) (by kernel_rfl) (by kernel_rfl) (by kernel_rfl) (by kernel_rfl) (by kernel_rfl) (by kernel_rfl) (by kernel_rfl)) rfl rfl ?_
  refine Runs_nil ?_
  refine thenQ_n ?_
  refine W_seq ?_
  refine W_regionE (c := 20) (c' := 30) (by kernel_rfl) rfl ?_
  refine Runs_p rfl (Valid.movek (A := Ptr 1 0) rfl rfl) rfl rfl ?_
  refine Runs_p rfl (Valid.movek (A := Ptr 1 0) rfl rfl) rfl rfl ?_
  refine Runs_p rfl (Valid.nilcheck rfl rfl) rfl rfl ?_
  refine Runs_p rfl (Valid.fieldaddr (off' := 0) rfl rfl (fun _ _ => by kernel_rfl)) rfl rfl ?_
  refine Runs_p rfl (Valid.load _ rfl ag81 rfl rfl rfl) rfl rfl ?_
  refine Runs_p rfl (Valid.movek (A := Is _) rfl rfl) rfl rfl ?_
  refine Runs_w rfl (Valid.cuttoF (f := (fun p : Int × Int => [Value.int .i64 p.1, Value.int .i64 p.2])) rfl (fun _ => rfl) Try.underlying81 sz79 rfl rfl rfl (by omega) (by omega) (by rw [List.length_set, List.length_set])) rfl rfl ?_
  refine Runs_p rfl (Valid.nilcheck rfl rfl) rfl rfl ?_
  refine Runs_p rfl (Valid.fieldaddr (off' := 0) rfl rfl (fun _ _ => by kernel_rfl)) rfl rfl ?_
  refine Runs_op rfl (Valid.store rfl sz81 rfl rfl (Nat.le_of_ble_eq_true rfl) (One.bfz rfl)) rfl ?_
  refine Runs_nil ?_
  refine thenQ_n ?_
  refine W_seq ?_
  refine W_regionE (c := 30) (c' := 31) (by kernel_rfl) rfl ?_
  refine Runs_p rfl (Valid.assignk (A := Is _) rfl rfl) rfl rfl ?_
  refine Runs_nil ?_
  refine thenQ_n ?_
  refine W_block ?_
  refine W_loopx (G := List Tr × Nat) (fun (g_ : List Tr × Nat) => match g_ with | ⟨m, a⟩ => m.length = l.length - 1 ∧ (a = 0 ∨ a < m.length) ∧ dnL m a = dnL (cut0 l) 0) [(0, Ptr 1 0), (2, Ptr 8 0), (3, Ptr 112 0), (4, Is _)] (fun (g_ : List Tr × Nat) => match g_ with | ⟨m, a⟩ => [(5, Is (.int .i64 (a : Int)))]) [(8, .var 79 [Is _, Is _]), (112, .var 79 [Is _, Is _])] (fun (g_ : List Tr × Nat) => match g_ with | ⟨m, a⟩ => [(1, .var 83 [Bfz 208 (l.length - 1), FnV 52 [] []]), (208, .bfe 79 2 ((m).flatMap (fun p : Int × Int => [Value.int .i64 p.1, Value.int .i64 p.2])))]) 31 (fun (g_ : List Tr × Nat) => match g_ with | ⟨m, a⟩ => m.length - a) (⟨cut0 l, 0⟩) [] (⟨cut0_len l, .inl rfl, rfl⟩) ⟨⟨(leq_is rfl rfl (by first | rfl | omega)), trivial⟩, ⟨(leq_ptr rfl rfl rfl), (leq_ptr rfl rfl rfl), (leq_ptr rfl rfl rfl), (leq_is rfl rfl rfl), trivial⟩, ⟨hp_var rfl ⟨(leq_bfz rfl rfl rfl (by first | rfl | omega)), (leq_fn rfl rfl trivial trivial), trivial⟩, hp_bfe rfl (by first | rfl | omega), trivial⟩, ⟨hp_var rfl ⟨(leq_is rfl rfl rfl), (leq_is rfl rfl rfl), trivial⟩, hp_var rfl ⟨(leq_is rfl rfl rfl), (leq_is rfl rfl rfl), trivial⟩, trivial⟩, rfl, ⟨supg rfl, trivial⟩, ⟨supg rfl, supg rfl, supg rfl, supg rfl, trivial⟩, ⟨suph rfl rfl, suph rfl rfl, trivial⟩, ⟨suph rfl rfl, suph rfl rfl, trivial⟩, rfl, rfl⟩ ?_
  intro ⟨m, a⟩ hI1
  obtain ⟨hi1, hi2, hi3⟩ := hI1
  have hbi := bst_in m a
  refine W_block ?_
  refine W_seq ?_
  refine W_regionE (c := 31) (c' := 33) (by kernel_rfl) rfl ?_
  refine Runs_p rfl (Valid.movek (A := Is _) rfl rfl) rfl rfl ?_
  refine Runs_p rfl (Valid.assignk (A := Is _) rfl rfl) rfl rfl ?_
  refine Runs_nil ?_
  refine thenQ_n ?_
  refine W_seq ?_
  refine W_seq ?_
  refine W_regionE (c := 33) (c' := 37) (by kernel_rfl) rfl ?_
  refine Runs_p rfl (Valid.movek (A := Is _) rfl rfl) rfl rfl ?_
  refine Runs_p rfl (Valid.mul rfl rfl rfl (room64 (by omega) (by omega))) rfl rfl ?_
  refine Runs_p rfl (Valid.add rfl rfl rfl (room64 (by omega) (by omega))) rfl rfl ?_
  refine Runs_p rfl (Valid.assignk (A := Is _) rfl rfl) rfl rfl ?_
  refine Runs_nil ?_
  refine thenQ_n ?_
  refine W_block ?_
  refine W_loopx (G := Nat) (fun (t : Nat) => t ≤ 2 ∧ (t = 0 ∨ 2 * a + t < m.length)) [(0, Ptr 1 0), (2, Ptr 8 0), (3, Ptr 112 0), (4, Is _), (5, Is _)] (fun (t : Nat) => [(7, Is (.int .i64 (2 * (a : Int) + 1 + (t : Int)))), (6, Is (.int .i64 ((bs m a t : Nat) : Int)))]) [(1, .var 83 [Bfz 208 _, FnV 52 [] []]), (8, .var 79 [Is _, Is _]), (112, .var 79 [Is _, Is _]), (208, .bfe 79 2 _)] (fun (t : Nat) => []) 37 (fun (t : Nat) => 2 - t) (0) [] (⟨by omega, by omega⟩) ⟨⟨(leq_is rfl rfl (by first | rfl | exact congrArg (Value.int .i64) (by omega))), (leq_is rfl rfl (by first | rfl | exact congrArg (Value.int .i64) (by omega))), trivial⟩, ⟨(leq_ptr rfl rfl rfl), (leq_ptr rfl rfl rfl), (leq_ptr rfl rfl rfl), (leq_is rfl rfl rfl), (leq_is rfl rfl rfl), trivial⟩, trivial, ⟨hp_var rfl ⟨(leq_bfz rfl rfl rfl (by first | rfl | omega)), (leq_fn rfl rfl trivial trivial), trivial⟩, hp_var rfl ⟨(leq_is rfl rfl rfl), (leq_is rfl rfl rfl), trivial⟩, hp_var rfl ⟨(leq_is rfl rfl rfl), (leq_is rfl rfl rfl), trivial⟩, hp_bfe rfl rfl, trivial⟩, rfl, ⟨supg rfl, supg rfl, trivial⟩, ⟨supg rfl, supg rfl, supg rfl, supg rfl, supg rfl, trivial⟩, trivial, ⟨suph rfl rfl, suph rfl rfl, suph rfl rfl, suph rfl rfl, trivial⟩, rfl, rfl⟩ ?_
  intro t hI2
  obtain ⟨ht1, ht2⟩ := hI2
  have hbs := bs_in m a t
  refine W_seq ?_
  refine W_seq ?_
  refine W_regionE (c := 37) (c' := 47) (by kernel_rfl) rfl ?_
  refine Runs_p rfl (Valid.movek (A := Is _) rfl rfl) rfl rfl ?_
  refine Runs_p rfl (Valid.movek (A := Is _) rfl rfl) rfl rfl ?_
  refine Runs_p rfl (Valid.mul rfl rfl rfl (room64 (by omega) (by omega))) rfl rfl ?_
  refine Runs_p rfl (Valid.add rfl rfl rfl (room64 (by omega) (by omega))) rfl rfl ?_
  refine Runs_p rfl (Valid.leq rfl rfl rfl) rfl rfl ?_
  refine Runs_p rfl (Valid.movek (A := Is _) rfl rfl) rfl rfl ?_
  refine Runs_cnd rfl rfl (Grd.is rfl) [] (fun hg => trivial) (fun hg => Valid.movek (A := Is _) rfl rfl) (by rfl) rfl ?_
  refine Runs_cnd rfl rfl (Grd.is rfl) [] (fun hg => trivial) (fun hg => Valid.movek (A := Is _) rfl rfl) (by rfl) rfl ?_
  refine Runs_cnd rfl rfl (Grd.is rfl) [(42, _), (43, _)] (fun hg => ⟨cnd_at rfl (by first | exact hg | exact hg.1 | exact hg.1.1 | exact hg.1.1.1), cnd_at rfl (by first | exact hg | exact hg.1 | exact hg.1.1 | exact hg.1.1.1), trivial⟩) (fun hg => Valid.lss rfl rfl rfl) (by rfl) rfl ?_
  refine Runs_p rfl (Valid.pickand rfl rfl rfl (fun h => by first | exact h | exact ⟨hg, h⟩) rfl) rfl rfl ?_
  refine Runs_nil ?_
  refine thenQ_n ?_
  refine W_cond _ rfl (fun hb1 => ?_) (fun hb1 => ?_)
  · try simp only [decide_eq_true_eq, Bool.and_eq_true] at hb1
    all_goals (
      refine W_skip ?_
      refine thenQ_n ?_
      refine W_seq ?_
      refine W_block ?_
      refine W_seq ?_
      refine W_drawE (c := 47) (c' := 66) (by kernel_rfl) rfl ?_
      refine Runs_p rfl (Valid.movek (A := Ptr 1 0) rfl rfl) rfl rfl ?_
      refine Runs_p rfl (Valid.nilcheck rfl rfl) rfl rfl ?_
      refine Runs_p rfl (Valid.fieldaddr (off' := 1) rfl rfl (fun _ _ => by kernel_rfl)) rfl rfl ?_
      refine Runs_p rfl (Valid.load _ rfl ag80 rfl rfl rfl) rfl rfl ?_
      refine Runs_p rfl (Valid.movek (A := Ptr 1 0) rfl rfl) rfl rfl ?_
      refine Runs_p rfl (Valid.nilcheck rfl rfl) rfl rfl ?_
      refine Runs_p rfl (Valid.fieldaddr (off' := 0) rfl rfl (fun _ _ => by kernel_rfl)) rfl rfl ?_
      refine Runs_p rfl (Valid.load _ rfl ag81 rfl rfl rfl) rfl rfl ?_
      refine Runs_p rfl (Valid.movek (A := Is _) rfl rfl) rfl rfl ?_
      refine Runs_p rfl (Valid.idxE rfl Try.underlying81 sz79 rfl rfl rfl (by omega)) rfl rfl ?_
      refine Runs_p rfl (Valid.loadE (f := (fun p : Int × Int => [Value.int .i64 p.1, Value.int .i64 p.2])) (0, 0) _ rfl (fun _ => rfl) ag79 sz79 rfl rfl rfl (by omega)) rfl rfl ?_
      refine Runs_p rfl (Valid.movek (A := Ptr 1 0) rfl rfl) rfl rfl ?_
      refine Runs_p rfl (Valid.nilcheck rfl rfl) rfl rfl ?_
      refine Runs_p rfl (Valid.fieldaddr (off' := 0) rfl rfl (fun _ _ => by kernel_rfl)) rfl rfl ?_
      refine Runs_p rfl (Valid.load _ rfl ag81 rfl rfl rfl) rfl rfl ?_
      refine Runs_p rfl (Valid.movek (A := Is _) rfl rfl) rfl rfl ?_
      refine Runs_p rfl (Valid.idxE rfl Try.underlying81 sz79 rfl rfl rfl (by omega)) rfl rfl ?_
      refine Runs_p rfl (Valid.loadE (f := (fun p : Int × Int => [Value.int .i64 p.1, Value.int .i64 p.2])) (0, 0) _ rfl (fun _ => rfl) ag79 sz79 rfl rfl rfl (by omega)) rfl rfl ?_
      refine Runs_p rfl (Valid.callv rfl (.inr ⟨_, _, rfl, rfl⟩) (ahd_s (m.getD (2 * a + 1 + t) (0, 0)) (m.getD (bs m a t) (0, 0))) ⟨(leq_agg rfl rfl ⟨(leq_is rfl rfl rfl), (leq_is rfl rfl rfl), trivial⟩), (leq_agg rfl rfl ⟨(leq_is rfl rfl rfl), (leq_is rfl rfl rfl), trivial⟩), trivial⟩) rfl rfl ?_
      refine Runs_nil ?_
      refine ⟨_, _, rfl, rfl, by kernel_rfl, ?_⟩
      refine thenQ_n ?_
      refine W_cond _ rfl (fun hb2 => ?_) (fun hb2 => ?_)
      · try simp only [Int.toNat_natCast, toNat_add, toNat_add1, decide_eq_true_eq, decide_eq_false_iff_not, Bool.and_eq_true, Bool.or_eq_true, Bool.and_eq_false_iff, Bool.or_eq_false_iff, Bool.not_eq_true', Bool.not_eq_false', Bool.true_eq_false, Bool.false_eq_true, not_true_eq_false, not_false_eq_true, ne_eq] at hb2
        all_goals (
          refine W_regionE (c := 66) (c' := 68) (by kernel_rfl) rfl ?_
          refine Runs_p rfl (Valid.movek (A := Is _) rfl rfl) rfl rfl ?_
          refine Runs_p rfl (Valid.assignk (A := Is _) rfl rfl) rfl rfl ?_
          refine Runs_nil ?_
          refine blockQ_n ?_
          refine thenQ_n ?_
          refine W_regionE (c := 68) (c' := 71) (by kernel_rfl) rfl ?_
          refine Runs_p rfl (Valid.movek (A := Is _) rfl rfl) rfl rfl ?_
          refine Runs_p rfl (Valid.add rfl rfl rfl (room64 (by omega) (by omega))) rfl rfl ?_
          refine Runs_p rfl (Valid.assignk (A := Is _) rfl rfl) rfl rfl ?_
          refine Runs_nil ?_
          refine LoopQ.next (t + 1) [] (⟨by omega, by omega⟩) (by omega) ⟨⟨(leq_is rfl rfl (by first | rfl | exact congrArg (Value.int .i64) (by omega) | (rw [bs_y (by assumption)]; exact congrArg (Value.int .i64) (by omega)) | (rw [bs_n (by first | assumption | (intro h; simp_all))]; done))), (leq_is rfl rfl (by first | rfl | exact congrArg (Value.int .i64) (by omega) | (rw [bs_y (by assumption)]; exact congrArg (Value.int .i64) (by omega)) | (rw [bs_n (by first | assumption | (intro h; simp_all))]; done))), trivial⟩, ⟨(leq_ptr rfl rfl rfl), (leq_ptr rfl rfl rfl), (leq_ptr rfl rfl rfl), (leq_is rfl rfl rfl), (leq_is rfl rfl rfl), trivial⟩, trivial, ⟨hp_var rfl ⟨(leq_bfz rfl rfl rfl (by first | rfl | omega)), (leq_fn rfl rfl trivial trivial), trivial⟩, hp_var rfl ⟨(leq_is rfl rfl rfl), (leq_is rfl rfl rfl), trivial⟩, hp_var rfl ⟨(leq_is rfl rfl rfl), (leq_is rfl rfl rfl), trivial⟩, hp_bfe rfl rfl, trivial⟩, rfl, ⟨supg rfl, supg rfl, trivial⟩, ⟨supg rfl, supg rfl, supg rfl, supg rfl, supg rfl, trivial⟩, trivial, ⟨suph rfl rfl, suph rfl rfl, suph rfl rfl, suph rfl rfl, trivial⟩, rfl, rfl⟩
          done)
      · try simp only [Int.toNat_natCast, toNat_add, toNat_add1, decide_eq_true_eq, decide_eq_false_iff_not, Bool.and_eq_true, Bool.or_eq_true, Bool.and_eq_false_iff, Bool.or_eq_false_iff, Bool.not_eq_true', Bool.not_eq_false', Bool.true_eq_false, Bool.false_eq_true, not_true_eq_false, not_false_eq_true, ne_eq] at hb2
        all_goals (
          refine W_skip ?_
          refine blockQ_n ?_
          refine thenQ_n ?_
          refine W_regionE (c := 66) (c' := 69) (by kernel_rfl) rfl ?_
          refine Runs_p rfl (Valid.movek (A := Is _) rfl rfl) rfl rfl ?_
          refine Runs_p rfl (Valid.add rfl rfl rfl (room64 (by omega) (by omega))) rfl rfl ?_
          refine Runs_p rfl (Valid.assignk (A := Is _) rfl rfl) rfl rfl ?_
          refine Runs_nil ?_
          refine LoopQ.next (t + 1) [] (⟨by omega, by omega⟩) (by omega) ⟨⟨(leq_is rfl rfl (by first | rfl | exact congrArg (Value.int .i64) (by omega) | (rw [bs_y (by assumption)]; exact congrArg (Value.int .i64) (by omega)) | (rw [bs_n (by first | assumption | (intro h; simp_all))]; done))), (leq_is rfl rfl (by first | rfl | exact congrArg (Value.int .i64) (by omega) | (rw [bs_y (by assumption)]; exact congrArg (Value.int .i64) (by omega)) | (rw [bs_n (by first | assumption | (intro h; simp_all))]; done))), trivial⟩, ⟨(leq_ptr rfl rfl rfl), (leq_ptr rfl rfl rfl), (leq_ptr rfl rfl rfl), (leq_is rfl rfl rfl), (leq_is rfl rfl rfl), trivial⟩, trivial, ⟨hp_var rfl ⟨(leq_bfz rfl rfl rfl (by first | rfl | omega)), (leq_fn rfl rfl trivial trivial), trivial⟩, hp_var rfl ⟨(leq_is rfl rfl rfl), (leq_is rfl rfl rfl), trivial⟩, hp_var rfl ⟨(leq_is rfl rfl rfl), (leq_is rfl rfl rfl), trivial⟩, hp_bfe rfl rfl, trivial⟩, rfl, ⟨supg rfl, supg rfl, trivial⟩, ⟨supg rfl, supg rfl, supg rfl, supg rfl, supg rfl, trivial⟩, trivial, ⟨suph rfl rfl, suph rfl rfl, suph rfl rfl, suph rfl rfl, trivial⟩, rfl, rfl⟩
          done)
      done)
  · try simp only [decide_eq_false_iff_not, Bool.and_eq_false_iff] at hb1
    all_goals (
      refine W_exit ?_
      refine thenQ_e ?_
      refine loopQ_e ?_
      refine blockQ_x ?_
      refine thenQ_n ?_
      refine W_seq ?_
      refine W_seq ?_
      have hbt : bs m a t = bst m a := by unfold bst; congr 1; omega
      rw [hbt]
      refine W_regionE (c := 47) (c' := 50) (by kernel_rfl) rfl ?_
      refine Runs_p rfl (Valid.movek (A := Is _) rfl rfl) rfl rfl ?_
      refine Runs_p rfl (Valid.movek (A := Is _) rfl rfl) rfl rfl ?_
      refine Runs_p rfl (Valid.eql rfl rfl rfl) rfl rfl ?_
      refine Runs_nil ?_
      refine thenQ_n ?_
      refine W_cond _ rfl (fun hb3 => ?_) (fun hb3 => ?_)
      · try simp only [decide_eq_true_eq] at hb3
        all_goals (
          refine W_seq ?_
          refine W_regionE (c := 50) (c' := 52) (by kernel_rfl) rfl ?_
          refine Runs_p rfl (Valid.loadagg rfl ag79 sz79 rfl rfl (Nat.le_of_ble_eq_true rfl)) rfl rfl ?_
          refine Runs_op rfl (Valid.storeagg (l := [_, _]) rfl sz79 rfl rfl (Nat.le_of_ble_eq_true rfl) rfl ⟨(One.is rfl rfl rfl), (One.is rfl rfl rfl), trivial⟩) rfl ?_
          refine Runs_nil ?_
          refine thenQ_n ?_
          refine W_ret ?_
          refine thenQ_r ?_
          refine blockQ_r ?_
          refine loopQ_r ?_
          refine blockQ_r ?_
          refine finMQ_r ?_
          exact FinM.of [(10, 208)] (ResOk.one rfl (RVal.cellagg ag79 sz79 rfl rfl (Nat.le_of_ble_eq_true rfl) (argle (by first | rfl | (simp; done) | omega | (simp [toNat_add, toNat_add1, Nat.add_assoc]; done) | (simp [toNat_add, toNat_add1]; omega))))) rfl ⟨hp_var rfl ⟨(leq_bfz rfl rfl rfl (by first | rfl | omega | (rw [← hi3, dn_n (by omega)]; done))), (leq_fn rfl rfl trivial trivial), trivial⟩, hp_bfe rfl (by first | rfl | omega | (rw [← hi3, dn_n (by omega)]; done)), trivial⟩ rfl rfl
          done)
      · try simp only [decide_eq_false_iff_not] at hb3
        all_goals (
          refine W_skip ?_
          refine thenQ_n ?_
          refine W_seq ?_
          have hbn : ¬ bst m a = a := by omega
          refine W_regionE (c := 50) (c' := 54) (by kernel_rfl) rfl ?_
          refine Runs_p rfl (Valid.movek (A := Ptr 1 0) rfl rfl) rfl rfl ?_
          refine Runs_p rfl (Valid.movek (A := Is _) rfl rfl) rfl rfl ?_
          refine Runs_p rfl (Valid.movek (A := Is _) rfl rfl) rfl rfl ?_
          refine Runs_w rfl (Valid.callm [(1, 1), (2, 208)] rfl (.inl ⟨rfl, rfl⟩) (swap_s m a (bst m a) (by omega) (by omega)) ⟨(leq_ptr rfl rfl rfl), (leq_is rfl rfl rfl), (leq_is rfl rfl rfl), trivial⟩ ⟨⟨_, rfl, .var ⟨(leq_bfz rfl rfl rfl (by first | rfl | omega)), (leq_fn rfl rfl trivial trivial), trivial⟩⟩, ⟨_, rfl, .bfe rfl⟩, trivial⟩ (up_pure rfl) (hpup_cons (j := 1) rfl (cup_var (allup_cons (up_bfz (id' := 208) rfl) (allup_cons (up_fn allup_nil allup_nil) allup_nil))) (hpup_cons (j := 208) rfl cup_bfe hpup_nil)) (by kernel_rfl) (by kernel_rfl) (by kernel_rfl) (by kernel_rfl) (by kernel_rfl) (by kernel_rfl) (by kernel_rfl) (by kernel_rfl) (by kernel_rfl)) rfl rfl ?_
          refine Runs_nil ?_
          refine thenQ_n ?_
          refine W_regionE (c := 54) (c' := 56) (by kernel_rfl) rfl ?_
          refine Runs_p rfl (Valid.movek (A := Is _) rfl rfl) rfl rfl ?_
          refine Runs_p rfl (Valid.assignk (A := Is _) rfl rfl) rfl rfl ?_
          refine Runs_nil ?_
          refine blockQ_n ?_
          refine LoopQ.next (⟨swp m a (bst m a), bst m a⟩) [] (⟨by rw [swp_len]; omega, by rw [swp_len]; omega, by rw [← hi3, dn_y hbn]⟩) (by dsimp only; rw [swp_len]; omega) ⟨⟨(leq_is rfl rfl (by first | rfl | omega | exact congrArg (Value.int .i64) (by omega))), trivial⟩, ⟨(leq_ptr rfl rfl rfl), (leq_ptr rfl rfl rfl), (leq_ptr rfl rfl rfl), (leq_is rfl rfl rfl), trivial⟩, ⟨hp_var rfl ⟨(leq_bfz rfl rfl rfl (by first | rfl | omega | exact congrArg (Value.int .i64) (by omega))), (leq_fn rfl rfl trivial trivial), trivial⟩, hp_bfe rfl (by first | rfl | omega | exact congrArg (Value.int .i64) (by omega)), trivial⟩, ⟨hp_var rfl ⟨(leq_is rfl rfl rfl), (leq_is rfl rfl rfl), trivial⟩, hp_var rfl ⟨(leq_is rfl rfl rfl), (leq_is rfl rfl rfl), trivial⟩, trivial⟩, rfl, ⟨supg rfl, trivial⟩, ⟨supg rfl, supg rfl, supg rfl, supg rfl, trivial⟩, ⟨suph rfl rfl, suph rfl rfl, trivial⟩, ⟨suph rfl rfl, suph rfl rfl, trivial⟩, rfl, rfl⟩
          done)
      done)
end Wb
end Go.Proofs.Ytdcenocljnlipaa
