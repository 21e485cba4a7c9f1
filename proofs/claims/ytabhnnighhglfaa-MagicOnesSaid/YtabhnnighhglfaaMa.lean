/-
  WALKS of stage 2: where a pattern stands.
-/
import Derived.Test.YtabhnnighhglfaaRows
import Derived.Test.YtabhnnighhglfaaAby
import Derived.Test.YtabhnnighhglfaaBb
namespace Go.Proofs.Ytabhnnighhglfaa
open Go.RowKit
namespace Ma
open Ab Bm Bt Bb
theorem ag22 (w : World) : (isAgg 22).run Try.prog w = .ok false w := by kernel_rfl
theorem ag3 (w : World) : (isAgg 3).run Try.prog w = .ok false w := by kernel_rfl
theorem ag9 (w : World) : (isAgg 9).run Try.prog w = .ok false w := by kernel_rfl
/-- the pattern stands there -/
def matV (s : ByteArray) (a m n : Int) : Bool := decide (1 ≤ n ∧ n ≤ 64) && (decide ((getV s a n).2 = 0) && decide ((getV s a n).1 = m % 2 ^ n.toNat))
theorem shlr {m n : Int} (_hm : 0 ≤ m ∧ m < 18446744073709551616) (h1 : 1 ≤ n) (h2 : n ≤ 64) : Int.fdiv (IntKind.u64.wrap (m * 2 ^ min (64 - n).toNat IntKind.u64.bits)) (2 ^ min (64 - n).toNat IntKind.u64.bits) = m % 2 ^ n.toNat := by
  obtain ⟨k, rfl⟩ : ∃ k : Nat, n = k := ⟨n.toNat, by omega⟩
  rw [show IntKind.u64.bits = 64 from rfl, show min (64 - (k : Int)).toNat 64 = 64 - k by omega, IntKind.wrap_u64, Int.toNat_natCast]
  have hp : (0 : Int) < 2 ^ (64 - k) := Int.pow_pos (by decide)
  have he : (18446744073709551616 : Int) = 2 ^ k * 2 ^ (64 - k) := by
    rw [← Int.pow_add, show k + (64 - k) = 64 by omega]; rfl
  rw [Int.fdiv_eq_ediv_of_nonneg _ (Int.le_of_lt hp), he, Int.mul_comm m, Int.mul_comm ((2 : Int) ^ k), Int.mul_emod_mul_of_pos _ _ hp, Int.mul_ediv_cancel_left _ (Int.ne_of_gt hp)]
def plL (s : ByteArray) (f m n : Int) (K : Nat) : List Nat := (List.range K).filter fun a => decide (f ≤ (a : Int)) && matV s a m n
theorem plL_s (s : ByteArray) (f m n : Int) (K : Nat) : plL s f m n (K + 1) = if (decide (f ≤ (K : Int)) && matV s K m n) = true then plL s f m n K ++ [K] else plL s f m n K := by
  unfold plL
  rw [List.range_succ, List.filter_append]
  by_cases e : (decide (f ≤ (K : Int)) && matV s K m n) = true
  · rw [if_pos e, List.filter_cons_of_pos (by exact e)]; rfl
  · rw [if_neg e, List.filter_cons_of_neg (by exact e)]; simp
theorem plL_y {s : ByteArray} {f m n : Int} {K : Nat} (h : (decide (f ≤ (K : Int)) && matV s K m n) = true) : plL s f m n (K + 1) = plL s f m n K ++ [K] := by rw [plL_s, if_pos h]
theorem plL_n {s : ByteArray} {f m n : Int} {K : Nat} (h : ¬ (decide (f ≤ (K : Int)) && matV s K m n) = true) : plL s f m n (K + 1) = plL s f m n K := by rw [plL_s, if_neg h]
theorem plL_pre (s : ByteArray) (f m n : Int) (K : Nat) : ∀ d, ∃ r, plL s f m n (K + d) = plL s f m n K ++ r
  | 0 => ⟨[], by rw [List.append_nil]; rfl⟩
  | d + 1 => by
    obtain ⟨r, hr⟩ := plL_pre s f m n K d
    rw [← Nat.add_assoc, plL_s]
    split
    · exact ⟨r ++ [K + d], by rw [hr, List.append_assoc]⟩
    · exact ⟨r, hr⟩
theorem plL_nil (s : ByteArray) (f m n : Int) (K : Nat) (h : (K : Int) ≤ max f 0) : plL s f m n K = [] := by
  unfold plL
  rw [List.filter_eq_nil_iff]
  intro a ha
  have := List.mem_range.1 ha
  rw [decide_eq_false (show ¬ f ≤ (a : Int) by omega)]; simp
theorem plL_lt {s : ByteArray} {f m n : Int} {K : Nat} (hK : K < 8 * s.size) (h : (decide (f ≤ (K : Int)) && matV s K m n) = true) : (plL s f m n K).length < (plL s f m n (8 * s.size)).length := by
  obtain ⟨r, hr⟩ := plL_pre s f m n (K + 1) (8 * s.size - (K + 1))
  rw [show K + 1 + (8 * s.size - (K + 1)) = 8 * s.size by omega, plL_y h] at hr
  rw [hr, List.length_append, List.length_append, List.length_singleton]; omega
theorem plL_at {s : ByteArray} {f m n : Int} {K : Nat} (hK : K < 8 * s.size) (h : (decide (f ≤ (K : Int)) && matV s K m n) = true) : (plL s f m n (8 * s.size)).getD (plL s f m n K).length 0 = K := by
  obtain ⟨r, hr⟩ := plL_pre s f m n (K + 1) (8 * s.size - (K + 1))
  rw [show K + 1 + (8 * s.size - (K + 1)) = 8 * s.size by omega, plL_y h] at hr
  rw [hr, List.append_assoc, List.getD_eq_getElem?_getD, List.getElem?_append_right (Nat.le_refl _), Nat.sub_self]; rfl

set_option maxRecDepth 100000 in
set_option maxHeartbeats 1000000 in
theorem mat_s (s : ByteArray) (a : Int) (m : Int) (hm : 0 ≤ m ∧ m < 18446744073709551616) (n : Int) (hn : -9223372036854775808 ≤ n ∧ n ≤ 9223372036854775807) (hs : s.size ≤ 1000000000000) (ha : -9223372036854775808 ≤ a ∧ a ≤ 9223372036854775807) :
    FPure Try.prog 14 [Is (.string s), Is (.int .i64 a), Is (.int .u64 m), Is (.int .i64 n)] (Is (.bool (matV s a m n))) := by
  refine FPure.of Try.func14 Try.ntmps14 rfl (by kernel_rfl) rfl rfl rfl ?_
  refine W_seq ?_
  refine W_regionE (c := 1) (c' := 2) (by kernel_rfl) rfl ?_
  refine Runs_p rfl (Valid.assignk (A := Is _) rfl rfl) rfl rfl ?_ -- magic.go:12 assign
  refine Runs_nil ?_
  refine thenQ_n ?_
  refine W_seq ?_
  refine W_seq ?_
  refine W_regionE (c := 2) (c' := 8) (by kernel_rfl) rfl ?_
  refine Runs_p rfl (Valid.movek (A := Is _) rfl rfl) rfl rfl ?_ -- magic.go:13 move
  refine Runs_p rfl (Valid.lss rfl rfl rfl) rfl rfl ?_ -- magic.go:13 binOp
  refine Runs_p rfl (Valid.movek (A := Is _) rfl rfl) rfl rfl ?_ -- magic.go:13 move
  refine Runs_cnd rfl rfl (Grd.is rfl) [] (fun hg => trivial) (fun hg => Valid.movek (A := Is _) rfl rfl) (by rfl) rfl ?_
  refine Runs_cnd rfl rfl (Grd.is rfl) [(14, _)] (fun hg => ⟨cnd_at rfl (by first | exact hg | exact hg.1 | exact hg.1.1 | exact hg.1.1.1), trivial⟩) (fun hg => Valid.gtr rfl rfl rfl) (by rfl) rfl ?_
  refine Runs_p rfl (Valid.pickor rfl rfl rfl rfl (fun h => by first | exact h | exact ⟨hg, h⟩)) rfl rfl ?_ -- magic.go:13 pick
  refine Runs_nil ?_
  refine thenQ_n ?_
  refine W_cond _ rfl (fun hb1 => ?_) (fun hb1 => ?_)
  · try simp only [decide_eq_true_eq, Bool.or_eq_true] at hb1
    all_goals (
      refine W_seq ?_
      refine W_regionE (c := 8) (c' := 9) (by kernel_rfl) rfl ?_
      refine Runs_p rfl (Valid.assignk (A := Is _) rfl rfl) rfl rfl ?_ -- magic.go:14 assign
      refine Runs_nil ?_
      refine thenQ_n ?_
      refine W_ret ?_
      refine thenQ_r ?_
      refine finQ_r ?_
      refine ResOk.one rfl (RVal.is rfl rfl (by first | (unfold matV; rw [decide_eq_false (show ¬ (1 ≤ n ∧ n ≤ 64) by omega)]; rfl) | (unfold matV; rw [decide_eq_true (show 1 ≤ n ∧ n ≤ 64 by omega), shlr hm (by omega) (by omega)]; simp)))
      done)
  · try simp only [decide_eq_false_iff_not, Bool.or_eq_false_iff] at hb1
    all_goals (
      refine W_skip ?_
      refine thenQ_n ?_
      refine W_seq ?_
      refine W_regionE (c := 8) (c' := 17) (by kernel_rfl) rfl ?_
      refine Runs_p rfl (Valid.movek (A := Is _) rfl rfl) rfl rfl ?_ -- magic.go:16 move
      refine Runs_p rfl (Valid.movek (A := Is _) rfl rfl) rfl rfl ?_ -- magic.go:16 move
      refine Runs_p rfl (Valid.movek (A := Is _) rfl rfl) rfl rfl ?_ -- magic.go:16 move
      refine Runs_p rfl (Valid.call rfl (get_f _ _ _ (by omega) (by omega)) ⟨argle rfl, argle rfl, argle rfl, trivial⟩) rfl rfl ?_ -- magic.go:16 call
      refine Runs_p rfl (Valid.movek (A := Tup [Is _, Is _]) rfl rfl) rfl rfl ?_ -- magic.go:16 move
      refine Runs_p rfl (Valid.extract _ rfl rfl rfl) rfl rfl ?_ -- magic.go:16 extract
      refine Runs_p rfl (Valid.extract _ rfl rfl rfl) rfl rfl ?_ -- magic.go:16 extract
      refine Runs_p rfl (Valid.assignk (A := Is _) rfl rfl) rfl rfl ?_ -- magic.go:16 assign
      refine Runs_p rfl (Valid.assignk (A := Is _) rfl rfl) rfl rfl ?_ -- magic.go:16 assign
      refine Runs_nil ?_
      refine thenQ_n ?_
      refine W_seq ?_
      refine W_regionE (c := 17) (c' := 31) (by kernel_rfl) rfl ?_
      refine Runs_p rfl (Valid.movek (A := Is _) rfl rfl) rfl rfl ?_ -- magic.go:17 move
      refine Runs_p rfl (Valid.eql rfl rfl rfl) rfl rfl ?_ -- magic.go:17 binOp
      refine Runs_p rfl (Valid.movek (A := Is _) rfl rfl) rfl rfl ?_ -- magic.go:17 move
      refine Runs_cnd rfl rfl (Grd.is rfl) [] (fun hg => trivial) (fun hg => Valid.movek (A := Is _) rfl rfl) (by rfl) rfl ?_
      refine Runs_cnd rfl rfl (Grd.is rfl) [] (fun hg => trivial) (fun hg => Valid.movek (A := Is _) rfl rfl) (by rfl) rfl ?_
      refine Runs_cnd rfl rfl (Grd.is rfl) [] (fun hg => trivial) (fun hg => Valid.movek (A := Is _) rfl rfl) (by rfl) rfl ?_
      refine Runs_cnd rfl rfl (Grd.is rfl) [(29, _)] (fun hg => ⟨cnd_at rfl (by first | exact hg | exact hg.1 | exact hg.1.1 | exact hg.1.1.1), trivial⟩) (fun hg => Valid.sub rfl rfl rfl (room64 (by (try simp only [decide_eq_true_eq] at hg); first | omega | (simp only [Int.toNat_natCast, toNat_add, toNat_add1, List.length_append, List.length_cons, List.length_nil, List.length_replicate]; omega)) (by (try simp only [decide_eq_true_eq] at hg); first | omega | (simp only [Int.toNat_natCast, toNat_add, toNat_add1, List.length_append, List.length_cons, List.length_nil, List.length_replicate]; omega)))) (by rfl) rfl ?_
      refine Runs_cnd rfl rfl (Grd.is rfl) [(28, _), (30, _)] (fun hg => ⟨cnd_at rfl (by first | exact hg | exact hg.1 | exact hg.1.1 | exact hg.1.1.1), cnd_at rfl (by first | exact hg | exact hg.1 | exact hg.1.1 | exact hg.1.1.1), trivial⟩) (fun hg => Valid.shlw rfl rfl rfl (by (try simp only [decide_eq_true_eq] at hg); first | omega | (simp only [Int.toNat_natCast, toNat_add, toNat_add1, List.length_append, List.length_cons, List.length_nil, List.length_replicate]; omega))) (by rfl) rfl ?_
      refine Runs_cnd rfl rfl (Grd.is rfl) [] (fun hg => trivial) (fun hg => Valid.movek (A := Is _) rfl rfl) (by rfl) rfl ?_
      refine Runs_cnd rfl rfl (Grd.is rfl) [(32, _)] (fun hg => ⟨cnd_at rfl (by first | exact hg | exact hg.1 | exact hg.1.1 | exact hg.1.1.1), trivial⟩) (fun hg => Valid.sub rfl rfl rfl (room64 (by (try simp only [decide_eq_true_eq] at hg); first | omega | (simp only [Int.toNat_natCast, toNat_add, toNat_add1, List.length_append, List.length_cons, List.length_nil, List.length_replicate]; omega)) (by (try simp only [decide_eq_true_eq] at hg); first | omega | (simp only [Int.toNat_natCast, toNat_add, toNat_add1, List.length_append, List.length_cons, List.length_nil, List.length_replicate]; omega)))) (by rfl) rfl ?_
      refine Runs_cnd rfl rfl (Grd.is rfl) [(31, _), (33, _)] (fun hg => ⟨cnd_at rfl (by first | exact hg | exact hg.1 | exact hg.1.1 | exact hg.1.1.1), cnd_at rfl (by first | exact hg | exact hg.1 | exact hg.1.1 | exact hg.1.1.1), trivial⟩) (fun hg => Valid.shrw rfl rfl rfl (by (try simp only [decide_eq_true_eq] at hg); first | omega | (simp only [Int.toNat_natCast, toNat_add, toNat_add1, List.length_append, List.length_cons, List.length_nil, List.length_replicate]; omega))) (by rfl) rfl ?_
      refine Runs_cnd rfl rfl (Grd.is rfl) [(27, _), (34, _)] (fun hg => ⟨cnd_at rfl (by first | exact hg | exact hg.1 | exact hg.1.1 | exact hg.1.1.1), cnd_at rfl (by first | exact hg | exact hg.1 | exact hg.1.1 | exact hg.1.1.1), trivial⟩) (fun hg => Valid.eql rfl rfl rfl) (by rfl) rfl ?_
      refine Runs_p rfl (Valid.pickand rfl rfl rfl (fun h => by first | exact h | exact ⟨hg, h⟩) rfl) rfl rfl ?_ -- magic.go:17 pick
      refine Runs_p rfl (Valid.assignk (A := Is _) rfl rfl) rfl rfl ?_ -- magic.go:17 assign
      refine Runs_nil ?_
      refine thenQ_n ?_
      refine W_ret ?_
      refine finQ_r ?_
      refine ResOk.one rfl (RVal.is rfl rfl (by first | (unfold matV; rw [decide_eq_false (show ¬ (1 ≤ n ∧ n ≤ 64) by omega)]; rfl) | (unfold matV; rw [decide_eq_true (show 1 ≤ n ∧ n ≤ 64 by omega), shlr hm (by omega) (by omega)]; simp)))
      done)

theorem plL_end {s : ByteArray} {f m n : Int} {i : Nat} (h : i ≤ s.size ∨ 8 * (i : Int) ≤ max f 0) (hi : ¬ i < s.size) : plL s f m n (8 * i) = plL s f m n (8 * s.size) := by
  by_cases e : i = s.size
  · rw [e]
  · rw [plL_nil _ _ _ _ (8 * i) (by omega), plL_nil _ _ _ _ (8 * s.size) (by omega)]

set_option maxRecDepth 100000 in
set_option maxHeartbeats 1000000 in
theorem pla_it (s : ByteArray) (f : Int) (hf : -9223372036854775808 ≤ f ∧ f ≤ 9223372036854775807) (m : Int) (hm : 0 ≤ m ∧ m < 18446744073709551616) (n : Int) (hn : -9223372036854775808 ≤ n ∧ n ≤ 9223372036854775807) (hs : s.size ≤ 1000000000000) :
    FIter Try.prog 36 [Elt [.int .i64 f], Elt [.string s], Elt [.int .u64 m], Elt [.int .i64 n]] ((plL s f m n (8 * s.size)).length) (fun q => [Is (.int .i64 (((plL s f m n (8 * s.size)).getD q 0 : Nat) : Int))]) := by
  refine FIter.of Try.func36 Try.ntmps36 rfl (by kernel_rfl) rfl rfl (fun _ => rfl) (fun l_ go_ => ?_)
  refine W_scope0 ?_
  refine W_seq ?_
  refine W_label ?_
  refine thenQ_n ?_
  refine W_seq ?_
  refine W_regionE (c := 1) (c' := 5) (by kernel_rfl) rfl ?_
  refine Runs_p rfl (Valid.loadelt rfl ag3 rfl) rfl rfl ?_ -- magic.go:42 load
  refine Runs_p rfl (Valid.max rfl rfl rfl) rfl rfl ?_ -- magic.go:42 call
  refine Runs_p rfl (Valid.quo rfl rfl rfl (by first | omega | (simp only [Int.toNat_natCast, toNat_add, toNat_add1, List.length_append, List.length_cons, List.length_nil, List.length_replicate]; omega)) (by first | omega | (simp only [Int.toNat_natCast, toNat_add, toNat_add1, List.length_append, List.length_cons, List.length_nil, List.length_replicate]; omega)) (room64 (by first | omega | (simp only [Int.toNat_natCast, toNat_add, toNat_add1, List.length_append, List.length_cons, List.length_nil, List.length_replicate]; omega)) (by first | omega | (simp only [Int.toNat_natCast, toNat_add, toNat_add1, List.length_append, List.length_cons, List.length_nil, List.length_replicate]; omega)))) rfl rfl ?_ -- magic.go:42 binOp
  refine Runs_p rfl (Valid.assignk (A := Is _) rfl rfl) rfl rfl ?_ -- magic.go:42 assign
  refine Runs_nil ?_
  refine thenQ_n ?_
  refine W_block ?_
  refine W_loopx (G := Nat) (fun (i : Nat) => (i ≤ s.size ∨ 8 * (i : Int) ≤ max f 0) ∧ ∀ j, j < (plL s f m n (8 * i)).length → go_ j = true) [(0, Is _), (1, Elt _), (2, Elt _), (3, Elt _), (4, Elt _)] (fun (i : Nat) => [(6, Is (.int .i64 (i : Int)))]) [] (fun (i : Nat) => [(0, .idx ⟨l_, (plL s f m n (8 * s.size)).length, fun q => [Is (.int .i64 (((plL s f m n (8 * s.size)).getD q 0 : Nat) : Int))], go_⟩ ((plL s f m n (8 * i)).length))]) 5 (fun (i : Nat) => s.size - i) ((max f 0 / 8).toNat) [] (⟨by omega, by intro j hj; rw [plL_nil _ _ _ _ _ (by omega)] at hj; cases hj⟩) ⟨⟨(leq_is rfl rfl (by first | rfl | exact congrArg (Value.int .i64) (by omega) | (rw [plL_nil _ _ _ _ _ (by omega)]; rfl))), trivial⟩, ⟨(leq_is rfl rfl rfl), (leq_elt rfl rfl rfl), (leq_elt rfl rfl rfl), (leq_elt rfl rfl rfl), (leq_elt rfl rfl rfl), trivial⟩, ⟨hp_idx rfl (by first | rfl | exact congrArg (Value.int .i64) (by omega) | (rw [plL_nil _ _ _ _ _ (by omega)]; rfl)), trivial⟩, trivial, rfl, ⟨supg rfl, trivial⟩, ⟨supg rfl, supg rfl, supg rfl, supg rfl, supg rfl, trivial⟩, ⟨suph rfl rfl, trivial⟩, trivial, rfl, rfl⟩ ?_
  intro i hI1
  refine W_seq ?_
  refine W_seq ?_
  refine W_regionE (c := 5) (c' := 9) (by kernel_rfl) rfl ?_
  refine Runs_p rfl (Valid.movek (A := Is _) rfl rfl) rfl rfl ?_ -- magic.go:42 move
  refine Runs_p rfl (Valid.loadelt rfl ag9 rfl) rfl rfl ?_ -- magic.go:42 load
  refine Runs_p rfl (Valid.slen rfl Try.underlying9 rfl) rfl rfl ?_ -- magic.go:42 call
  refine Runs_p rfl (Valid.lss rfl rfl rfl) rfl rfl ?_ -- magic.go:42 binOp
  refine Runs_nil ?_
  refine thenQ_n ?_
  refine W_cond _ rfl (fun hb1 => ?_) (fun hb1 => ?_)
  · try simp only [decide_eq_true_eq] at hb1
    all_goals (
      refine W_skip ?_
      refine thenQ_n ?_
      refine W_seq ?_
      refine W_block ?_
      refine W_seq ?_
      refine W_regionE (c := 9) (c' := 10) (by kernel_rfl) rfl ?_
      refine Runs_p rfl (Valid.movek (A := Is _) rfl rfl) rfl rfl ?_ -- magic.go:43 move
      refine Runs_nil ?_
      refine thenQ_n ?_
      refine W_block ?_
      refine W_loopx (G := Nat) (fun (k : Nat) => k ≤ 8 ∧ ∀ j, j < (plL s f m n (8 * i + k)).length → go_ j = true) [(0, Is _), (1, Elt _), (2, Elt _), (3, Elt _), (4, Elt _), (6, Is _)] (fun (k : Nat) => [(18, Is (.int .i64 (k : Int)))]) [] (fun (k : Nat) => [(0, .idx ⟨l_, (plL s f m n (8 * s.size)).length, fun q => [Is (.int .i64 (((plL s f m n (8 * s.size)).getD q 0 : Nat) : Int))], go_⟩ ((plL s f m n (8 * i + k)).length))]) 10 (fun (k : Nat) => 8 - k) (0) [] (⟨by omega, hI1.2⟩) ⟨⟨(leq_is rfl rfl (by first | rfl)), trivial⟩, ⟨(leq_is rfl rfl rfl), (leq_elt rfl rfl rfl), (leq_elt rfl rfl rfl), (leq_elt rfl rfl rfl), (leq_elt rfl rfl rfl), (leq_is rfl rfl rfl), trivial⟩, ⟨hp_idx rfl (by first | rfl), trivial⟩, trivial, rfl, ⟨supg rfl, trivial⟩, ⟨supg rfl, supg rfl, supg rfl, supg rfl, supg rfl, supg rfl, trivial⟩, ⟨suph rfl rfl, trivial⟩, trivial, rfl, rfl⟩ ?_
      intro k hI2
      refine W_seq ?_
      refine W_regionE (c := 10) (c' := 11) (by kernel_rfl) rfl ?_
      refine Runs_p rfl (Valid.lss rfl rfl rfl) rfl rfl ?_ -- magic.go:43 binOp
      refine Runs_nil ?_
      refine thenQ_n ?_
      refine W_seq ?_
      refine W_cond _ rfl (fun hb2 => ?_) (fun hb2 => ?_)
      · try simp only [decide_eq_true_eq] at hb2
        all_goals (
          refine W_skip ?_
          refine thenQ_n ?_
          refine W_seq ?_
          refine W_block ?_
          refine W_seq ?_
          refine W_regionE (c := 11) (c' := 13) (by kernel_rfl) rfl ?_
          refine Runs_p rfl (Valid.movek (A := Is _) rfl rfl) rfl rfl ?_ -- magic.go:43 move
          refine Runs_p rfl (Valid.assignk (A := Is _) rfl rfl) rfl rfl ?_ -- magic.go:43 assign
          refine Runs_nil ?_
          refine thenQ_n ?_
          refine W_seq ?_
          refine W_regionE (c := 13) (c' := 18) (by kernel_rfl) rfl ?_
          refine Runs_p rfl (Valid.movek (A := Is _) rfl rfl) rfl rfl ?_ -- magic.go:44 move
          refine Runs_p rfl (Valid.mul rfl rfl rfl (room64 (by first | omega | (simp only [Int.toNat_natCast, toNat_add, toNat_add1, List.length_append, List.length_cons, List.length_nil, List.length_replicate]; omega)) (by first | omega | (simp only [Int.toNat_natCast, toNat_add, toNat_add1, List.length_append, List.length_cons, List.length_nil, List.length_replicate]; omega)))) rfl rfl ?_ -- magic.go:44 binOp
          refine Runs_p rfl (Valid.movek (A := Is _) rfl rfl) rfl rfl ?_ -- magic.go:44 move
          refine Runs_p rfl (Valid.add rfl rfl rfl (room64 (by first | omega | (simp only [Int.toNat_natCast, toNat_add, toNat_add1, List.length_append, List.length_cons, List.length_nil, List.length_replicate]; omega)) (by first | omega | (simp only [Int.toNat_natCast, toNat_add, toNat_add1, List.length_append, List.length_cons, List.length_nil, List.length_replicate]; omega)))) rfl rfl ?_ -- magic.go:44 binOp
          refine Runs_p rfl (Valid.assignk (A := Is _) rfl rfl) rfl rfl ?_ -- magic.go:44 assign
          refine Runs_nil ?_
          refine thenQ_n ?_
          refine W_seq ?_
          by_cases hs : (decide (f ≤ ((8 * i + k : Nat) : Int)) && matV s ((8 * i + k : Nat) : Int) m n) = true
          · skip
            have hat : ((8 * i + k : Nat) : Int) = 8 * (i : Int) + (k : Int) := by omega
            have hs0 := hs
            rw [hat] at hs
            have hlt := plL_lt (by omega) hs0
            have hpa := plL_at (by omega) hs0
            refine W_regionE (c := 18) (c' := 34) (by kernel_rfl) rfl ?_
            refine Runs_p rfl (Valid.movek (A := Is _) rfl rfl) rfl rfl ?_ -- magic.go:45 move
            refine Runs_p rfl (Valid.loadelt rfl ag3 rfl) rfl rfl ?_ -- magic.go:45 load
            refine Runs_p rfl (Valid.geq rfl rfl rfl) rfl rfl ?_ -- magic.go:45 binOp
            refine Runs_p rfl (Valid.movek (A := Is _) rfl rfl) rfl rfl ?_ -- magic.go:45 move
            refine Runs_yesp rfl rfl (Grd.is rfl) (by first | exact hs | (simp only [Bool.and_eq_true] at hs; first | exact hs.1 | exact hs.2)) (Valid.loadelt rfl ag9 rfl) rfl rfl ?_ -- magic.go:45 load
            refine Runs_yesp rfl rfl (Grd.is rfl) (by first | exact hs | (simp only [Bool.and_eq_true] at hs; first | exact hs.1 | exact hs.2)) (Valid.movek (A := Is _) rfl rfl) rfl rfl ?_ -- magic.go:45 move
            refine Runs_yesp rfl rfl (Grd.is rfl) (by first | exact hs | (simp only [Bool.and_eq_true] at hs; first | exact hs.1 | exact hs.2)) (Valid.loadelt rfl ag22 rfl) rfl rfl ?_ -- magic.go:45 load
            refine Runs_yesp rfl rfl (Grd.is rfl) (by first | exact hs | (simp only [Bool.and_eq_true] at hs; first | exact hs.1 | exact hs.2)) (Valid.loadelt rfl ag3 rfl) rfl rfl ?_ -- magic.go:45 load
            refine Runs_yesp rfl rfl (Grd.is rfl) (by first | exact hs | (simp only [Bool.and_eq_true] at hs; first | exact hs.1 | exact hs.2)) (Valid.call rfl (mat_s _ _ _ hm _ hn (by omega) (by omega)) ⟨argle rfl, argle rfl, argle rfl, argle rfl, trivial⟩) rfl rfl ?_ -- magic.go:45 call
            refine Runs_p rfl (Valid.pickY (A := Is _) rfl rfl (by first | exact hs | (simp only [Bool.and_eq_true] at hs; first | exact hs.1 | exact hs.2)) rfl) rfl rfl ?_ -- magic.go:45 pick
            refine Runs_p rfl (Valid.movek (A := Is _) rfl rfl) rfl rfl ?_ -- magic.go:45 move
            refine Runs_yesp rfl rfl (Grd.is rfl) (by first | exact hs | (simp only [Bool.and_eq_true] at hs; first | exact hs.1 | exact hs.2)) (Valid.movek (A := Is _) rfl rfl) rfl rfl ?_ -- magic.go:45 move
            refine Runs_yesp rfl rfl (Grd.is rfl) (by first | exact hs | (simp only [Bool.and_eq_true] at hs; first | exact hs.1 | exact hs.2)) (Valid.movek (A := Is _) rfl rfl) rfl rfl ?_ -- magic.go:45 move
            refine Runs_yesy rfl rfl (Grd.is rfl) (by first | exact hs | (simp only [Bool.and_eq_true] at hs; first | exact hs.1 | exact hs.2)) (VOp.yieldx rfl rfl rfl (hlt) (hI2.2) ⟨argle (congrArg (fun z : Int => Is (Value.int .i64 z)) (hat.symm.trans (congrArg (Nat.cast : Nat → Int) hpa.symm))), trivial⟩ rfl) rfl rfl ?_ -- magic.go:45 call
            refine Runs_yesp rfl rfl (Grd.is rfl) (by first | exact hs | (simp only [Bool.and_eq_true] at hs; first | exact hs.1 | exact hs.2)) (Valid.not rfl rfl) rfl rfl ?_ -- magic.go:45 unOp
            refine Runs_p rfl (Valid.pickY (A := Is _) rfl rfl (by first | exact hs | (simp only [Bool.and_eq_true] at hs; first | exact hs.1 | exact hs.2)) rfl) rfl rfl ?_ -- magic.go:45 pick
            refine Runs_nil ?_
            refine thenQ_n ?_
            refine W_cond _ rfl (fun hb3 => ?_) (fun hb3 => ?_)
            · try simp only [Bool.not_eq_true'] at hb3
              all_goals (
                refine W_exit ?_
                refine blockQ_e rfl ?_
                refine thenQ_e ?_
                refine loopQ_e ?_
                refine blockQ_e rfl ?_
                refine blockQ_e rfl ?_
                refine thenQ_e ?_
                refine loopQ_e ?_
                refine blockQ_x ?_
                refine jumpsQ_n ?_
                exact finIQ_n (ResOk.none rfl (fun _ _ => rfl)) rfl (by first | exact (stop_at hlt hI2.2 (by simpa using hb3)).symm | (rw [plL_end hI1.1 (by omega)]; exact (stop_all (by rw [← plL_end hI1.1 (by omega)]; exact hI1.2)).symm))
                done)
            · try simp only [Bool.not_eq_false'] at hb3
              all_goals (
                refine W_skip ?_
                refine blockQ_n ?_
                refine thenQ_n ?_
                refine W_regionE (c := 34) (c' := 36) (by kernel_rfl) rfl ?_
                refine Runs_p rfl (Valid.add rfl rfl rfl (room64 (by first | omega | (simp only [Int.toNat_natCast, toNat_add, toNat_add1, List.length_append, List.length_cons, List.length_nil, List.length_replicate]; omega)) (by first | omega | (simp only [Int.toNat_natCast, toNat_add, toNat_add1, List.length_append, List.length_cons, List.length_nil, List.length_replicate]; omega)))) rfl rfl ?_ -- magic.go:43 binOp
                refine Runs_p rfl (Valid.movek (A := Is _) rfl rfl) rfl rfl ?_ -- magic.go:43 move
                refine Runs_nil ?_
                refine LoopQ.next (k + 1) [] (⟨by omega, by first | (intro j hj; rw [← Nat.add_assoc, plL_n hs0] at hj; exact hI2.2 j hj) | (intro j hj; rw [← Nat.add_assoc, plL_y hs0, List.length_append, List.length_singleton] at hj; by_cases e : j = (plL s f m n (8 * i + k)).length; (· subst e; simpa using hb3); (· exact hI2.2 j (by omega)))⟩) (by omega) ⟨⟨(leq_is rfl rfl (by first | rfl | exact congrArg (Value.int .i64) (by omega) | (rw [← Nat.add_assoc, plL_n hs0]) | (rw [← Nat.add_assoc, plL_y hs0]; simp))), trivial⟩, ⟨(leq_is rfl rfl rfl), (leq_elt rfl rfl rfl), (leq_elt rfl rfl rfl), (leq_elt rfl rfl rfl), (leq_elt rfl rfl rfl), (leq_is rfl rfl rfl), trivial⟩, ⟨hp_idx rfl (by first | rfl | exact congrArg (Value.int .i64) (by omega) | (rw [← Nat.add_assoc, plL_n hs0]) | (rw [← Nat.add_assoc, plL_y hs0]; simp)), trivial⟩, trivial, rfl, ⟨supg rfl, trivial⟩, ⟨supg rfl, supg rfl, supg rfl, supg rfl, supg rfl, supg rfl, trivial⟩, ⟨suph rfl rfl, trivial⟩, trivial, rfl, rfl⟩
                done)
          · skip
            have hat : ((8 * i + k : Nat) : Int) = 8 * (i : Int) + (k : Int) := by omega
            have hs0 := hs
            rw [hat] at hs
            refine W_regionE (c := 18) (c' := 34) (by kernel_rfl) rfl ?_
            refine Runs_p rfl (Valid.movek (A := Is _) rfl rfl) rfl rfl ?_ -- magic.go:45 move
            refine Runs_p rfl (Valid.loadelt rfl ag3 rfl) rfl rfl ?_ -- magic.go:45 load
            refine Runs_p rfl (Valid.geq rfl rfl rfl) rfl rfl ?_ -- magic.go:45 binOp
            refine Runs_p rfl (Valid.movek (A := Is _) rfl rfl) rfl rfl ?_ -- magic.go:45 move
            refine Runs_cnd rfl rfl (Grd.is rfl) [] (fun hg => trivial) (fun hg => Valid.loadelt rfl ag9 rfl) (by rfl) rfl ?_
            refine Runs_cnd rfl rfl (Grd.is rfl) [] (fun hg => trivial) (fun hg => Valid.movek (A := Is _) rfl rfl) (by rfl) rfl ?_
            refine Runs_cnd rfl rfl (Grd.is rfl) [] (fun hg => trivial) (fun hg => Valid.loadelt rfl ag22 rfl) (by rfl) rfl ?_
            refine Runs_cnd rfl rfl (Grd.is rfl) [] (fun hg => trivial) (fun hg => Valid.loadelt rfl ag3 rfl) (by rfl) rfl ?_
            refine Runs_cnd rfl rfl (Grd.is rfl) [(29, _), (30, _), (31, _), (32, _)] (fun hg => ⟨cnd_at rfl (by first | exact hg | exact hg.1 | exact hg.1.1 | exact hg.1.1.1), cnd_at rfl (by first | exact hg | exact hg.1 | exact hg.1.1 | exact hg.1.1.1), cnd_at rfl (by first | exact hg | exact hg.1 | exact hg.1.1 | exact hg.1.1.1), cnd_at rfl (by first | exact hg | exact hg.1 | exact hg.1.1 | exact hg.1.1.1), trivial⟩) (fun hg => Valid.call rfl (mat_s _ _ _ hm _ hn (by (try simp only [decide_eq_true_eq] at hg); omega) (by (try simp only [decide_eq_true_eq] at hg); omega)) ⟨argle rfl, argle rfl, argle rfl, argle rfl, trivial⟩) (by rfl) rfl ?_
            refine Runs_p rfl (Valid.pickand rfl rfl rfl (fun h => by first | exact h | exact ⟨hg, h⟩) rfl) rfl rfl ?_ -- magic.go:45 pick
            refine Runs_p rfl (Valid.movek (A := Is _) rfl rfl) rfl rfl ?_ -- magic.go:45 move
            refine Runs_no rfl rfl (Grd.is rfl) (by exact hs) rfl ?_ -- magic.go:45 not
            refine Runs_no rfl rfl (Grd.is rfl) (by exact hs) rfl ?_ -- magic.go:45 not
            refine Runs_no rfl rfl (Grd.is rfl) (by exact hs) rfl ?_ -- magic.go:45 not
            refine Runs_no rfl rfl (Grd.is rfl) (by exact hs) rfl ?_ -- magic.go:45 not
            refine Runs_p rfl (Valid.pickN (A := Is (.bool false)) rfl rfl (by simpa using hs) rfl) rfl rfl ?_ -- magic.go:45 pick
            refine Runs_nil ?_
            refine thenQ_n ?_
            refine W_cond _ rfl (fun hb4 => ?_) (fun hb4 => ?_)
            · try simp only [Bool.false_eq_true] at hb4
              all_goals (
                exfalso
                simp at hb4
                
                done)
            · try simp only [] at hb4
              all_goals (
                refine W_skip ?_
                refine blockQ_n ?_
                refine thenQ_n ?_
                refine W_regionE (c := 34) (c' := 36) (by kernel_rfl) rfl ?_
                refine Runs_p rfl (Valid.add rfl rfl rfl (room64 (by first | omega | (simp only [Int.toNat_natCast, toNat_add, toNat_add1, List.length_append, List.length_cons, List.length_nil, List.length_replicate]; omega)) (by first | omega | (simp only [Int.toNat_natCast, toNat_add, toNat_add1, List.length_append, List.length_cons, List.length_nil, List.length_replicate]; omega)))) rfl rfl ?_ -- magic.go:43 binOp
                refine Runs_p rfl (Valid.movek (A := Is _) rfl rfl) rfl rfl ?_ -- magic.go:43 move
                refine Runs_nil ?_
                refine LoopQ.next (k + 1) [] (⟨by omega, by first | (intro j hj; rw [← Nat.add_assoc, plL_n hs0] at hj; exact hI2.2 j hj) | (intro j hj; rw [← Nat.add_assoc, plL_y hs0, List.length_append, List.length_singleton] at hj; by_cases e : j = (plL s f m n (8 * i + k)).length; (· subst e; simpa using hb3); (· exact hI2.2 j (by omega)))⟩) (by omega) ⟨⟨(leq_is rfl rfl (by first | rfl | exact congrArg (Value.int .i64) (by omega) | (rw [← Nat.add_assoc, plL_n hs0]) | (rw [← Nat.add_assoc, plL_y hs0]; simp))), trivial⟩, ⟨(leq_is rfl rfl rfl), (leq_elt rfl rfl rfl), (leq_elt rfl rfl rfl), (leq_elt rfl rfl rfl), (leq_elt rfl rfl rfl), (leq_is rfl rfl rfl), trivial⟩, ⟨hp_idx rfl (by first | rfl | exact congrArg (Value.int .i64) (by omega) | (rw [← Nat.add_assoc, plL_n hs0]) | (rw [← Nat.add_assoc, plL_y hs0]; simp)), trivial⟩, trivial, rfl, ⟨supg rfl, trivial⟩, ⟨supg rfl, supg rfl, supg rfl, supg rfl, supg rfl, supg rfl, trivial⟩, ⟨suph rfl rfl, trivial⟩, trivial, rfl, rfl⟩
                done)
          done)
      · try simp only [decide_eq_false_iff_not] at hb2
        all_goals (
          refine W_exit ?_
          refine thenQ_e ?_
          refine loopQ_e ?_
          refine blockQ_x ?_
          refine blockQ_n ?_
          refine thenQ_n ?_
          refine W_regionE (c := 11) (c' := 14) (by kernel_rfl) rfl ?_
          refine Runs_p rfl (Valid.movek (A := Is _) rfl rfl) rfl rfl ?_ -- magic.go:42 move
          refine Runs_p rfl (Valid.add rfl rfl rfl (room64 (by first | omega | (simp only [Int.toNat_natCast, toNat_add, toNat_add1, List.length_append, List.length_cons, List.length_nil, List.length_replicate]; omega)) (by first | omega | (simp only [Int.toNat_natCast, toNat_add, toNat_add1, List.length_append, List.length_cons, List.length_nil, List.length_replicate]; omega)))) rfl rfl ?_ -- magic.go:42 binOp
          refine Runs_p rfl (Valid.assignk (A := Is _) rfl rfl) rfl rfl ?_ -- magic.go:42 assign
          refine Runs_nil ?_
          refine LoopQ.next (i + 1) [] (⟨by omega, by intro j hj; rw [show 8 * (i + 1) = 8 * i + k by omega] at hj; exact hI2.2 j hj⟩) (by omega) ⟨⟨(leq_is rfl rfl (by first | rfl | exact congrArg (Value.int .i64) (by omega) | (rw [show 8 * (i + 1) = 8 * i + k by omega]))), trivial⟩, ⟨(leq_is rfl rfl rfl), (leq_elt rfl rfl rfl), (leq_elt rfl rfl rfl), (leq_elt rfl rfl rfl), (leq_elt rfl rfl rfl), trivial⟩, ⟨hp_idx rfl (by first | rfl | exact congrArg (Value.int .i64) (by omega) | (rw [show 8 * (i + 1) = 8 * i + k by omega])), trivial⟩, trivial, rfl, ⟨supg rfl, trivial⟩, ⟨supg rfl, supg rfl, supg rfl, supg rfl, supg rfl, trivial⟩, ⟨suph rfl rfl, trivial⟩, trivial, rfl, rfl⟩
          done)
      done)
  · try simp only [decide_eq_false_iff_not] at hb1
    all_goals (
      refine W_exit ?_
      refine thenQ_e ?_
      refine loopQ_e ?_
      refine blockQ_x ?_
      refine jumpsQ_n ?_
      exact finIQ_n (ResOk.none rfl (fun _ _ => rfl)) rfl (by first | exact (stop_at hlt hI2.2 (by simpa using hb3)).symm | (rw [plL_end hI1.1 (by omega)]; exact (stop_all (by rw [← plL_end hI1.1 (by omega)]; exact hI1.2)).symm))
      done)
end Ma
end Go.Proofs.Ytabhnnighhglfaa
