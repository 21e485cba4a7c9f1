/-
  WALKS of stage 10: which comes first; two that change places.
-/
import Derived.Test.YtdcenocljnlipaaRows
import Derived.Test.YtdcenocljnlipaaMgc
namespace Go.Proofs.Ytdcenocljnlipaa
open Go.RowKit
namespace Wa
open Ab
theorem ag3 (w : World) : (isAgg 3).run Try.prog w = .ok false w := by kernel_rfl
theorem ag79 (w : World) : (isAgg 79).run Try.prog w = .ok true w := by kernel_rfl
theorem ag80 (w : World) : (isAgg 80).run Try.prog w = .ok false w := by kernel_rfl
theorem ag81 (w : World) : (isAgg 81).run Try.prog w = .ok false w := by kernel_rfl
theorem sz79 (w : World) : (sizeOf 79).run Try.prog w = .ok 2 w := by kernel_rfl
theorem sz81 (w : World) : (sizeOf 81).run Try.prog w = .ok 1 w := by kernel_rfl
theorem ti79 : TI Try.prog 79 2 16 := .mk' (z := (.agg #[(Value.int .i64 0), (Value.int .i64 0)])) (by kernel_rfl) rfl
abbrev Tr := Int × Int
def tf : Tr → List Value := fun p => [Value.int .i64 p.1, Value.int .i64 p.2]
/-- which of two comes first -/
def ahd (a b : Tr) : Bool := decide (a.1 < b.1) || (decide (a.1 = b.1) && decide (a.2 < b.2))

set_option maxRecDepth 100000 in
set_option maxHeartbeats 1000000 in
theorem ahd_s (a b : Tr) :
    FPure Try.prog 52 [Agg [Is (.int .i64 a.1), Is (.int .i64 a.2)], Agg [Is (.int .i64 b.1), Is (.int .i64 b.2)]] (Is (.bool (ahd a b))) := by
  refine FPure.of Try.func52 Try.ntmps52 rfl (by kernel_rfl) rfl rfl rfl ?_
  refine W_seq ?_
  refine W_regionE (c := 1) (c' := 4) (by kernel_rfl) rfl ?_
  refine Runs_w rfl (Valid.boxagg rfl rfl) rfl rfl ?_
  refine Runs_w rfl (Valid.boxagg rfl rfl) rfl rfl ?_
  refine Runs_p rfl (Valid.assignk (A := Is _) rfl rfl) rfl rfl ?_
  refine Runs_nil ?_
  refine thenQ_n ?_
  refine W_seq ?_
  refine W_regionE (c := 4) (c' := 24) (by kernel_rfl) rfl ?_
  refine Runs_p rfl (Valid.fieldaddr (off' := 0) rfl rfl (fun _ _ => by kernel_rfl)) rfl rfl ?_
  refine Runs_p rfl (Valid.load _ rfl ag3 rfl rfl rfl) rfl rfl ?_
  refine Runs_p rfl (Valid.fieldaddr (off' := 0) rfl rfl (fun _ _ => by kernel_rfl)) rfl rfl ?_
  refine Runs_p rfl (Valid.load _ rfl ag3 rfl rfl rfl) rfl rfl ?_
  refine Runs_p rfl (Valid.lss rfl rfl rfl) rfl rfl ?_
  refine Runs_p rfl (Valid.movek (A := Is _) rfl rfl) rfl rfl ?_
  refine Runs_cnds (t := 2) rfl rfl (Grd.is rfl) [] (fun hg => trivial) (fun hg => Valid.fieldaddr (off' := 0) rfl rfl (fun _ _ => by kernel_rfl)) (by simp [Op.operands]) rfl rfl ?_
  refine Runs_cnd rfl rfl (Grd.is rfl) [(11, _)] (fun hg => ⟨cnd_at rfl (by first | exact hg | exact hg.1 | exact hg.1.1 | exact hg.1.1.1), trivial⟩) (fun hg => Valid.load _ rfl ag3 rfl rfl rfl) (by rfl) rfl ?_
  refine Runs_cnds (t := 3) rfl rfl (Grd.is rfl) [] (fun hg => trivial) (fun hg => Valid.fieldaddr (off' := 0) rfl rfl (fun _ _ => by kernel_rfl)) (by simp [Op.operands]) rfl rfl ?_
  refine Runs_cnd rfl rfl (Grd.is rfl) [(13, _)] (fun hg => ⟨cnd_at rfl (by first | exact hg | exact hg.1 | exact hg.1.1 | exact hg.1.1.1), trivial⟩) (fun hg => Valid.load _ rfl ag3 rfl rfl rfl) (by rfl) rfl ?_
  refine Runs_cnd rfl rfl (Grd.is rfl) [(12, _), (14, _)] (fun hg => ⟨cnd_at rfl (by first | exact hg | exact hg.1 | exact hg.1.1 | exact hg.1.1.1), cnd_at rfl (by first | exact hg | exact hg.1 | exact hg.1.1 | exact hg.1.1.1), trivial⟩) (fun hg => Valid.eql rfl rfl rfl) (by rfl) rfl ?_
  refine Runs_cnd rfl rfl (Grd.is rfl) [(15, _)] (fun hg => ⟨cnd_at rfl (by first | exact hg | exact hg.1 | exact hg.1.1 | exact hg.1.1.1), trivial⟩) (fun hg => Valid.movek (A := Is _) rfl rfl) (by rfl) rfl ?_
  refine Runs_cnds (t := 2) rfl rfl (Grd.cnd rfl) [] (fun hg => trivial) (fun hg => Valid.fieldaddr (off' := 1) rfl rfl (fun _ _ => by kernel_rfl)) (by simp [Op.operands]) rfl rfl ?_
  refine Runs_cnd rfl rfl (Grd.cnd rfl) [(17, _)] (fun hg => ⟨cnd_at rfl (by first | exact hg | exact hg.1 | exact hg.1.1 | exact hg.1.1.1), trivial⟩) (fun hg => Valid.load _ rfl ag3 rfl rfl rfl) (by rfl) rfl ?_
  refine Runs_cnds (t := 3) rfl rfl (Grd.cnd rfl) [] (fun hg => trivial) (fun hg => Valid.fieldaddr (off' := 1) rfl rfl (fun _ _ => by kernel_rfl)) (by simp [Op.operands]) rfl rfl ?_
  refine Runs_cnd rfl rfl (Grd.cnd rfl) [(19, _)] (fun hg => ⟨cnd_at rfl (by first | exact hg | exact hg.1 | exact hg.1.1 | exact hg.1.1.1), trivial⟩) (fun hg => Valid.load _ rfl ag3 rfl rfl rfl) (by rfl) rfl ?_
  refine Runs_cnd rfl rfl (Grd.cnd rfl) [(18, _), (20, _)] (fun hg => ⟨cnd_at rfl (by first | exact hg | exact hg.1 | exact hg.1.1 | exact hg.1.1.1), cnd_at rfl (by first | exact hg | exact hg.1 | exact hg.1.1 | exact hg.1.1.1), trivial⟩) (fun hg => Valid.lss rfl rfl rfl) (by rfl) rfl ?_
  refine Runs_cnd rfl rfl (Grd.is rfl) [(16, _)] (fun hg => ⟨cnd_at rfl (by first | exact hg | exact hg.1 | exact hg.1.1 | exact hg.1.1.1), trivial⟩) (fun hg => Valid.pickand rfl rfl rfl (fun h => by first | exact h | exact ⟨hg, h⟩) rfl) (by rfl) rfl ?_
  refine Runs_p rfl (Valid.pickor rfl rfl rfl rfl (fun h => by first | exact h | exact ⟨hg, h⟩)) rfl rfl ?_
  refine Runs_p rfl (Valid.assignk (A := Is _) rfl rfl) rfl rfl ?_
  refine Runs_nil ?_
  refine thenQ_n ?_
  refine W_ret ?_
  refine finQ_r ?_
  refine ResOk.one rfl (RVal.is rfl rfl (by unfold ahd; first | rfl | (by_cases h : a.1 < b.1 <;> simp [h])))

set_option maxRecDepth 100000 in
set_option maxHeartbeats 1000000 in
theorem swap_s (l : List Tr) (i j : Nat) (hi : i < l.length) (hj : j < l.length) :
    FMem Try.prog 63 [Ptr 1 0, Is (.int .i64 (i : Int)), Is (.int .i64 (j : Int))] [(1, .var 83 [Bfz 2 l.length, FnV 52 [] []]), (2, .bfe 79 2 ((l).flatMap (fun p : Int × Int => [Value.int .i64 p.1, Value.int .i64 p.2])))] (Is (.tuple #[])) [(1, .var 83 [Bfz 2 l.length, FnV 52 [] []]), (2, .bfe 79 2 (((l.set i (l.getD j (0, 0))).set j (l.getD i (0, 0))).flatMap (fun p : Int × Int => [Value.int .i64 p.1, Value.int .i64 p.2])))] := by
  refine FMem.of Try.func63 Try.ntmps63 rfl (by kernel_rfl) rfl rfl rfl ?_
  refine W_drawE (c := 1) (c' := 29) (by kernel_rfl) rfl ?_
  refine Runs_p rfl (Valid.movek (A := Ptr 1 0) rfl rfl) rfl rfl ?_
  refine Runs_p rfl (Valid.nilcheck rfl rfl) rfl rfl ?_
  refine Runs_p rfl (Valid.fieldaddr (off' := 0) rfl rfl (fun _ _ => by kernel_rfl)) rfl rfl ?_
  refine Runs_p rfl (Valid.load _ rfl ag81 rfl rfl rfl) rfl rfl ?_
  refine Runs_p rfl (Valid.movek (A := Is _) rfl rfl) rfl rfl ?_
  refine Runs_p rfl (Valid.movek (A := Ptr 1 0) rfl rfl) rfl rfl ?_
  refine Runs_p rfl (Valid.nilcheck rfl rfl) rfl rfl ?_
  refine Runs_p rfl (Valid.fieldaddr (off' := 0) rfl rfl (fun _ _ => by kernel_rfl)) rfl rfl ?_
  refine Runs_p rfl (Valid.load _ rfl ag81 rfl rfl rfl) rfl rfl ?_
  refine Runs_p rfl (Valid.movek (A := Is _) rfl rfl) rfl rfl ?_
  refine Runs_p rfl (Valid.movek (A := Ptr 1 0) rfl rfl) rfl rfl ?_
  refine Runs_p rfl (Valid.nilcheck rfl rfl) rfl rfl ?_
  refine Runs_p rfl (Valid.fieldaddr (off' := 0) rfl rfl (fun _ _ => by kernel_rfl)) rfl rfl ?_
  refine Runs_p rfl (Valid.load _ rfl ag81 rfl rfl rfl) rfl rfl ?_
  refine Runs_p rfl (Valid.movek (A := Is _) rfl rfl) rfl rfl ?_
  refine Runs_p rfl (Valid.idxE rfl Try.underlying81 sz79 rfl rfl rfl (by omega)) rfl rfl ?_
  refine Runs_p rfl (Valid.loadE (f := (fun p : Int × Int => [Value.int .i64 p.1, Value.int .i64 p.2])) (0, 0) _ rfl (fun _ => rfl) ag79 sz79 rfl rfl rfl (by omega)) rfl rfl ?_
  refine Runs_p rfl (Valid.movek (A := Ptr 1 0) rfl rfl) rfl rfl ?_
  refine Runs_p rfl (Valid.nilcheck rfl rfl) rfl rfl ?_
  refine Runs_p rfl (Valid.fieldaddr (off' := 0) rfl rfl (fun _ _ => by kernel_rfl)) rfl rfl ?_
  refine Runs_p rfl (Valid.load _ rfl ag81 rfl rfl rfl) rfl rfl ?_
  refine Runs_p rfl (Valid.movek (A := Is _) rfl rfl) rfl rfl ?_
  refine Runs_p rfl (Valid.idxE rfl Try.underlying81 sz79 rfl rfl rfl (by omega)) rfl rfl ?_
  refine Runs_p rfl (Valid.loadE (f := (fun p : Int × Int => [Value.int .i64 p.1, Value.int .i64 p.2])) (0, 0) _ rfl (fun _ => rfl) ag79 sz79 rfl rfl rfl (by omega)) rfl rfl ?_
  refine Runs_p rfl (Valid.idxE rfl Try.underlying81 sz79 rfl rfl rfl (by omega)) rfl rfl ?_
  refine Runs_op rfl (Valid.storeBE (f := (fun p : Int × Int => [Value.int .i64 p.1, Value.int .i64 p.2])) _ (_, _) rfl (fun _ => rfl) sz79 rfl rfl rfl (by first | omega | (simp only [List.length_set, Int.toNat_natCast]; omega)) rfl rfl) rfl ?_
  refine Runs_p rfl (Valid.idxE rfl Try.underlying81 sz79 rfl rfl rfl (by omega)) rfl rfl ?_
  refine Runs_op rfl (Valid.storeBE (f := (fun p : Int × Int => [Value.int .i64 p.1, Value.int .i64 p.2])) _ (_, _) rfl (fun _ => rfl) sz79 rfl rfl rfl (by first | omega | (simp only [List.length_set, Int.toNat_natCast]; omega)) rfl rfl) rfl ?_
  refine Runs_nil ?_
  refine ⟨_, _, rfl, rfl, by kernel_rfl, ?_⟩
  refine finMQ_n ?_
  exact FinM.of [] (ResOk.none rfl (fun _ _ => rfl)) rfl ⟨hp_var rfl ⟨(leq_bfz rfl rfl rfl (by first | rfl | (simp; done) | omega | (simp [toNat_add, toNat_add1, Nat.add_assoc]; done) | (simp [toNat_add, toNat_add1]; omega))), (leq_fn rfl rfl trivial trivial), trivial⟩, hp_bfe rfl (by first | rfl | (simp; done) | omega | (simp [toNat_add, toNat_add1, Nat.add_assoc]; done) | (simp [toNat_add, toNat_add1]; omega)), trivial⟩ rfl rfl

theorem one_q (l : List (Int × Int)) : ∀ u ∈ qcells l, u.oneCell' = true := fun u hu => by
  obtain ⟨p, _, hp⟩ := List.mem_flatMap.1 hu
  simp at hp
  rcases hp with rfl | rfl <;> rfl
def swp (l : List Tr) (i j : Nat) : List Tr := (l.set i (l.getD j (0, 0))).set j (l.getD i (0, 0))
theorem swp_len (l : List Tr) (i j : Nat) : (swp l i j).length = l.length := by unfold swp; rw [List.length_set, List.length_set]
/-- what stands at a place goes up as long as it comes first -/
def upL (l : List Tr) (a : Nat) : List Tr := if 0 < a ∧ ahd (l.getD a (0, 0)) (l.getD ((a - 1) / 2) (0, 0)) = true then upL (swp l a ((a - 1) / 2)) ((a - 1) / 2) else l
  termination_by a
  decreasing_by omega
theorem up_y {l : List Tr} {a : Nat} (h : 0 < a) (h2 : ahd (l.getD a (0, 0)) (l.getD ((a - 1) / 2) (0, 0)) = true) : upL l a = upL (swp l a ((a - 1) / 2)) ((a - 1) / 2) := by rw [upL, if_pos ⟨h, h2⟩]
theorem up_n {l : List Tr} {a : Nat} (h : ¬ (0 < a ∧ ahd (l.getD a (0, 0)) (l.getD ((a - 1) / 2) (0, 0)) = true)) : upL l a = l := by rw [upL, if_neg h]

set_option maxRecDepth 100000 in
set_option maxHeartbeats 1000000 in
theorem put_s (l : List Tr) (x : Tr) (hl : l.length ≤ 1000) :
    FMem Try.prog 53 [Ptr 1 0, Agg [Is (.int .i64 x.1), Is (.int .i64 x.2)]] [(1, .var 83 [Bfz 2 l.length, FnV 52 [] []]), (2, .bfe 79 2 ((l).flatMap (fun p : Int × Int => [Value.int .i64 p.1, Value.int .i64 p.2])))] (Is (.tuple #[])) [(1, .var 83 [Bfz 10 (l.length + 1), FnV 52 [] []]), (10, .bfe 79 2 ((upL (l ++ [x]) l.length).flatMap (fun p : Int × Int => [Value.int .i64 p.1, Value.int .i64 p.2])))] := by
  refine FMem.of Try.func53 Try.ntmps53 rfl (by kernel_rfl) rfl rfl rfl ?_
  refine W_seq ?_
  refine W_regionE (c := 1) (c' := 2) (by kernel_rfl) rfl ?_
  refine Runs_w rfl (Valid.boxagg rfl rfl) rfl rfl ?_
  refine Runs_nil ?_
  refine thenQ_n ?_
  refine W_seq ?_
  refine W_drawE (c := 2) (c' := 13) (by kernel_rfl) rfl ?_
  refine Runs_p rfl (Valid.movek (A := Ptr 1 0) rfl rfl) rfl rfl ?_
  refine Runs_p rfl (Valid.movek (A := Ptr 1 0) rfl rfl) rfl rfl ?_
  refine Runs_p rfl (Valid.nilcheck rfl rfl) rfl rfl ?_
  refine Runs_p rfl (Valid.fieldaddr (off' := 0) rfl rfl (fun _ _ => by kernel_rfl)) rfl rfl ?_
  refine Runs_p rfl (Valid.load _ rfl ag81 rfl rfl rfl) rfl rfl ?_
  refine Runs_p rfl (Valid.loadagg rfl ag79 sz79 rfl rfl (Nat.le_of_ble_eq_true rfl)) rfl rfl ?_
  refine Runs_p rfl (Valid.litQ (el := 79) [(_, _)] rfl rfl (fun _ => by kernel_rfl) rfl (by decide)) rfl rfl ?_
  refine Runs_w rfl (Valid.appE rfl Try.underlying81 ti79 rfl rfl (Reads.sl rfl) (one_q _) (by decide) (by simp only [maxLen]; omega) (by omega)) rfl rfl ?_
  refine Runs_p rfl (Valid.nilcheck rfl rfl) rfl rfl ?_
  refine Runs_p rfl (Valid.fieldaddr (off' := 0) rfl rfl (fun _ _ => by kernel_rfl)) rfl rfl ?_
  refine Runs_op rfl (Valid.store rfl sz81 rfl rfl (Nat.le_of_ble_eq_true rfl) (One.bfz rfl)) rfl ?_
  refine Runs_nil ?_
  refine ⟨_, _, rfl, rfl, by kernel_rfl, ?_⟩
  refine thenQ_n ?_
  refine W_seq ?_
  refine W_regionE (c := 13) (c' := 20) (by kernel_rfl) rfl ?_
  refine Runs_p rfl (Valid.movek (A := Ptr 1 0) rfl rfl) rfl rfl ?_
  refine Runs_p rfl (Valid.nilcheck rfl rfl) rfl rfl ?_
  refine Runs_p rfl (Valid.fieldaddr (off' := 0) rfl rfl (fun _ _ => by kernel_rfl)) rfl rfl ?_
  refine Runs_p rfl (Valid.load _ rfl ag81 rfl rfl rfl) rfl rfl ?_
  refine Runs_p rfl (Valid.lenZ rfl Try.underlying81 rfl) rfl rfl ?_
  refine Runs_p rfl (Valid.sub rfl rfl rfl (room64 (by omega) (by omega))) rfl rfl ?_
  refine Runs_p rfl (Valid.assignk (A := Is _) rfl rfl) rfl rfl ?_
  refine Runs_nil ?_
  refine thenQ_n ?_
  refine W_block ?_
  refine W_loopx (G := List Tr × Nat) (fun (g_ : List Tr × Nat) => match g_ with | ⟨m, a⟩ => a < m.length ∧ m.length = l.length + 1 ∧ upL m a = upL (l ++ [x]) l.length) [(0, Ptr 1 0)] (fun (g_ : List Tr × Nat) => match g_ with | ⟨m, a⟩ => [(4, Is (.int .i64 (a : Int)))]) [] (fun (g_ : List Tr × Nat) => match g_ with | ⟨m, a⟩ => [(1, .var 83 [Bfz 72 (l.length + 1), FnV 52 [] []]), (72, .bfe 79 2 ((m).flatMap (fun p : Int × Int => [Value.int .i64 p.1, Value.int .i64 p.2])))]) 20 (fun (g_ : List Tr × Nat) => match g_ with | ⟨m, a⟩ => a) (⟨l ++ [x], l.length⟩) [] (⟨by simp, by simp, rfl⟩) ⟨⟨(leq_is rfl rfl (by first | rfl | exact List.flatMap_append.symm | (simp; done) | exact congrArg (Value.int .i64) (by omega) | omega)), trivial⟩, ⟨(leq_ptr rfl rfl rfl), trivial⟩, ⟨hp_var rfl ⟨(leq_bfz rfl rfl rfl (by first | rfl | exact List.flatMap_append.symm | (simp; done) | exact congrArg (Value.int .i64) (by omega) | omega)), (leq_fn rfl rfl trivial trivial), trivial⟩, hp_bfe rfl (by first | rfl | exact List.flatMap_append.symm | (simp; done) | exact congrArg (Value.int .i64) (by omega) | omega), trivial⟩, trivial, rfl, ⟨supg rfl, trivial⟩, ⟨supg rfl, trivial⟩, ⟨suph rfl rfl, suph rfl rfl, trivial⟩, trivial, rfl, rfl⟩ ?_
  intro ⟨m, a⟩ hI1
  obtain ⟨hi1, hi2, hi3⟩ := hI1
  refine W_seq ?_
  refine W_seq ?_
  refine W_regionE (c := 20) (c' := 22) (by kernel_rfl) rfl ?_
  refine Runs_p rfl (Valid.movek (A := Is _) rfl rfl) rfl rfl ?_
  refine Runs_p rfl (Valid.gtr rfl rfl rfl) rfl rfl ?_
  refine Runs_nil ?_
  refine thenQ_n ?_
  refine W_cond _ rfl (fun hb1 => ?_) (fun hb1 => ?_)
  · try simp only [decide_eq_true_eq] at hb1
    all_goals (
      refine W_skip ?_
      refine thenQ_n ?_
      refine W_block ?_
      refine W_seq ?_
      refine W_regionE (c := 22) (c' := 26) (by kernel_rfl) rfl ?_
      refine Runs_p rfl (Valid.movek (A := Is _) rfl rfl) rfl rfl ?_
      refine Runs_p rfl (Valid.sub rfl rfl rfl (room64 (by omega) (by omega))) rfl rfl ?_
      refine Runs_p rfl (Valid.quo rfl rfl rfl (by omega) (by omega) (room64 (by omega) (by omega))) rfl rfl ?_
      refine Runs_p rfl (Valid.assignk (A := Is _) rfl rfl) rfl rfl ?_
      refine Runs_nil ?_
      refine thenQ_n ?_
      refine W_seq ?_
      refine W_seq ?_
      have hup : ((a : Int) - 1) / 2 = (((a - 1) / 2 : Nat) : Int) := by omega
      rw [hup]
      have hsl := swp_len m a ((a - 1) / 2)
      refine W_drawE (c := 26) (c' := 46) (by kernel_rfl) rfl ?_
      refine Runs_p rfl (Valid.movek (A := Ptr 1 0) rfl rfl) rfl rfl ?_
      refine Runs_p rfl (Valid.nilcheck rfl rfl) rfl rfl ?_
      refine Runs_p rfl (Valid.fieldaddr (off' := 1) rfl rfl (fun _ _ => by kernel_rfl)) rfl rfl ?_
      refine Runs_p rfl (Valid.load _ rfl ag80 rfl rfl rfl) rfl rfl ?_
      refine Runs_p rfl (Valid.movek (A := Ptr 1 0) rfl rfl) rfl rfl ?_
      refine Runs_p rfl (Valid.nilcheck rfl rfl) rfl rfl ?_
      refine Runs_p rfl (Valid.fieldaddr (off' := 0) rfl rfl (fun _ _ => by kernel_rfl)) rfl rfl ?_
      refine Runs_p rfl (Valid.load _ rfl ag81 rfl rfl rfl) rfl rfl ?_
      refine Runs_p rfl (Valid.movek (A := Is _) rfl rfl) rfl rfl ?_
      refine Runs_p rfl (Valid.idxE rfl Try.underlying81 sz79 rfl rfl rfl (by omega)) rfl rfl ?_
      refine Runs_p rfl (Valid.loadE (f := (fun p : Int × Int => [Value.int .i64 p.1, Value.int .i64 p.2])) (0, 0) _ rfl (fun _ => rfl) ag79 sz79 rfl rfl rfl (by omega)) rfl rfl ?_
      refine Runs_p rfl (Valid.movek (A := Ptr 1 0) rfl rfl) rfl rfl ?_
      refine Runs_p rfl (Valid.nilcheck rfl rfl) rfl rfl ?_
      refine Runs_p rfl (Valid.fieldaddr (off' := 0) rfl rfl (fun _ _ => by kernel_rfl)) rfl rfl ?_
      refine Runs_p rfl (Valid.load _ rfl ag81 rfl rfl rfl) rfl rfl ?_
      refine Runs_p rfl (Valid.movek (A := Is _) rfl rfl) rfl rfl ?_
      refine Runs_p rfl (Valid.idxE rfl Try.underlying81 sz79 rfl rfl rfl (by omega)) rfl rfl ?_
      refine Runs_p rfl (Valid.loadE (f := (fun p : Int × Int => [Value.int .i64 p.1, Value.int .i64 p.2])) (0, 0) _ rfl (fun _ => rfl) ag79 sz79 rfl rfl rfl (by omega)) rfl rfl ?_
      refine Runs_p rfl (Valid.callv rfl (.inr ⟨_, _, rfl, rfl⟩) (ahd_s (m.getD a (0, 0)) (m.getD ((a - 1) / 2) (0, 0))) ⟨(leq_agg rfl rfl ⟨(leq_is rfl rfl rfl), (leq_is rfl rfl rfl), trivial⟩), (leq_agg rfl rfl ⟨(leq_is rfl rfl rfl), (leq_is rfl rfl rfl), trivial⟩), trivial⟩) rfl rfl ?_
      refine Runs_p rfl (Valid.not rfl rfl) rfl rfl ?_
      refine Runs_nil ?_
      refine ⟨_, _, rfl, rfl, by kernel_rfl, ?_⟩
      refine thenQ_n ?_
      refine W_cond _ rfl (fun hb2 => ?_) (fun hb2 => ?_)
      · try simp only [Bool.not_eq_true'] at hb2
        all_goals (
          refine W_ret ?_
          refine thenQ_r ?_
          refine blockQ_r ?_
          refine loopQ_r ?_
          refine blockQ_r ?_
          refine finMQ_r ?_
          exact FinM.of [(10, 72)] (ResOk.none rfl (fun _ _ => rfl)) rfl ⟨hp_var rfl ⟨(leq_bfz rfl rfl rfl (by first | rfl | omega | (rw [← hi3, up_n (by omega)]; done) | (rw [← hi3, up_n (fun h => by have := h.2; simp_all)]; done))), (leq_fn rfl rfl trivial trivial), trivial⟩, hp_bfe rfl (by first | rfl | omega | (rw [← hi3, up_n (by omega)]; done) | (rw [← hi3, up_n (fun h => by have := h.2; simp_all)]; done)), trivial⟩ rfl rfl
          done)
      · try simp only [Bool.not_eq_false'] at hb2
        all_goals (
          refine W_skip ?_
          refine thenQ_n ?_
          refine W_seq ?_
          have hah : ahd (m.getD a (0, 0)) (m.getD ((a - 1) / 2) (0, 0)) = true := by first | assumption | (simpa using hb2)
          have huy := up_y (by omega) hah
          refine W_regionE (c := 46) (c' := 50) (by kernel_rfl) rfl ?_
          refine Runs_p rfl (Valid.movek (A := Ptr 1 0) rfl rfl) rfl rfl ?_
          refine Runs_p rfl (Valid.movek (A := Is _) rfl rfl) rfl rfl ?_
          refine Runs_p rfl (Valid.movek (A := Is _) rfl rfl) rfl rfl ?_
          refine Runs_w rfl (Valid.callm [(1, 1), (2, 72)] rfl (.inl ⟨rfl, rfl⟩) (swap_s m a ((a - 1) / 2) (by omega) (by omega)) ⟨(leq_ptr rfl rfl rfl), (leq_is rfl rfl rfl), (leq_is rfl rfl rfl), trivial⟩ ⟨⟨_, rfl, .var ⟨(leq_bfz rfl rfl rfl (by first | rfl | omega)), (leq_fn rfl rfl trivial trivial), trivial⟩⟩, ⟨_, rfl, .bfe rfl⟩, trivial⟩ (up_pure rfl) (hpup_cons (j := 1) rfl (cup_var (allup_cons (up_bfz (id' := 72) rfl) (allup_cons (up_fn allup_nil allup_nil) allup_nil))) (hpup_cons (j := 72) rfl cup_bfe hpup_nil)) (by kernel_rfl) (by kernel_rfl) (by kernel_rfl) (by kernel_rfl) (by kernel_rfl) (by kernel_rfl) (by kernel_rfl) (by kernel_rfl) (by kernel_rfl)) rfl rfl ?_
          refine Runs_nil ?_
          refine thenQ_n ?_
          refine W_regionE (c := 50) (c' := 52) (by kernel_rfl) rfl ?_
          refine Runs_p rfl (Valid.movek (A := Is _) rfl rfl) rfl rfl ?_
          refine Runs_p rfl (Valid.assignk (A := Is _) rfl rfl) rfl rfl ?_
          refine Runs_nil ?_
          refine blockQ_n ?_
          refine LoopQ.next (⟨swp m a ((a - 1) / 2), (a - 1) / 2⟩) [] (⟨by rw [hsl]; omega, by rw [hsl]; omega, by rw [← hi3, huy]⟩) (by dsimp only; omega) ⟨⟨(leq_is rfl rfl (by first | rfl | omega | exact congrArg (Value.int .i64) (by omega))), trivial⟩, ⟨(leq_ptr rfl rfl rfl), trivial⟩, ⟨hp_var rfl ⟨(leq_bfz rfl rfl rfl (by first | rfl | omega | exact congrArg (Value.int .i64) (by omega))), (leq_fn rfl rfl trivial trivial), trivial⟩, hp_bfe rfl (by first | rfl | omega | exact congrArg (Value.int .i64) (by omega)), trivial⟩, trivial, rfl, ⟨supg rfl, trivial⟩, ⟨supg rfl, trivial⟩, ⟨suph rfl rfl, suph rfl rfl, trivial⟩, trivial, rfl, rfl⟩
          done)
      done)
  · try simp only [decide_eq_false_iff_not] at hb1
    all_goals (
      refine W_exit ?_
      refine thenQ_e ?_
      refine loopQ_e ?_
      refine blockQ_x ?_
      refine finMQ_n ?_
      exact FinM.of [(10, 72)] (ResOk.none rfl (fun _ _ => rfl)) rfl ⟨hp_var rfl ⟨(leq_bfz rfl rfl rfl (by first | rfl | omega | (rw [← hi3, up_n (by omega)]; done) | (rw [← hi3, up_n (fun h => by have := h.2; simp_all)]; done))), (leq_fn rfl rfl trivial trivial), trivial⟩, hp_bfe rfl (by first | rfl | omega | (rw [← hi3, up_n (by omega)]; done) | (rw [← hi3, up_n (fun h => by have := h.2; simp_all)]; done)), trivial⟩ rfl rfl
      done)
end Wa
end Go.Proofs.Ytdcenocljnlipaa
