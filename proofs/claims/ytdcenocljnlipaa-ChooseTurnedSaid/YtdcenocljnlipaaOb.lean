/-
  WALKS of stage 8: how many words have each length.
-/
import Derived.Test.YtdcenocljnlipaaRows
import Derived.Test.YtdcenocljnlipaaOa
namespace Go.Proofs.Ytdcenocljnlipaa
open Go.RowKit
namespace Ob
open Ab Oa
theorem ag3 (w : World) : (isAgg 3).run Try.prog w = .ok false w := by kernel_rfl
theorem ag51 (w : World) : (isAgg 51).run Try.prog w = .ok false w := by kernel_rfl
theorem ag53 (w : World) : (isAgg 53).run Try.prog w = .ok true w := by kernel_rfl
theorem sz3 (w : World) : (sizeOf 3).run Try.prog w = .ok 1 w := by kernel_rfl
theorem sz51 (w : World) : (sizeOf 51).run Try.prog w = .ok 1 w := by kernel_rfl
theorem sz53 (w : World) : (sizeOf 53).run Try.prog w = .ok 21 w := by kernel_rfl
theorem zv53 (w : World) : (zeroValue 53).run Try.prog w = .ok (.agg #[(Value.int .u64 0), (Value.int .u64 0), (Value.int .u64 0), (Value.int .u64 0), (Value.int .u64 0), (Value.int .u64 0), (Value.int .u64 0), (Value.int .u64 0), (Value.int .u64 0), (Value.int .u64 0), (Value.int .u64 0), (Value.int .u64 0), (Value.int .u64 0), (Value.int .u64 0), (Value.int .u64 0), (Value.int .u64 0), (Value.int .u64 0), (Value.int .u64 0), (Value.int .u64 0), (Value.int .u64 0), (Value.int .u64 0)]) w := by kernel_rfl
def good (x : Int) : Prop := 1 ≤ x ∧ x ≤ 20
instance (x : Int) : Decidable (good x) := by unfold good; infer_instance
/-- how many of the first i are so long, for each length -/
def tA (l : List Int) (i : Nat) : List Int := (List.range 21).map fun v : Nat => (((l.take i).countP fun x => decide (x = (v : Int)) : Nat) : Int)
theorem tA_len (l : List Int) (i : Nat) : (tA l i).length = 21 := by simp [tA]
theorem tA_0 (l : List Int) : tA l 0 = List.replicate 21 0 := rfl
theorem tA_get (l : List Int) (i v : Nat) (h : v < 21) : (tA l i).getD v 0 = (((l.take i).countP fun x => decide (x = (v : Int)) : Nat) : Int) := by
  rw [tA, List.getD_eq_getElem?_getD, List.getElem?_map, List.getElem?_range h]; rfl
theorem tA_s {l : List Int} {i : Nat} (hi : i < l.length) (hl : l.length ≤ 258) (hg : good (l.getD i 0)) : (tA l i).set (l.getD i 0).toNat (IntKind.u64.wrap ((tA l i).getD (l.getD i 0).toNat 0 + 1)) = tA l (i + 1) := by
  unfold good at hg
  have hlt : (l.getD i 0).toNat < 21 := by omega
  have hc := List.countP_le_length (p := fun x => decide (x = (((l.getD i 0).toNat : Nat) : Int))) (l := l.take i)
  rw [List.length_take] at hc
  rw [tA_get l i _ hlt, IntKind.wrap_u64, Int.emod_eq_of_lt (by omega) (by omega)]
  apply List.ext_getElem?
  intro v
  rw [List.getElem?_set]
  by_cases hv : v < 21
  · have e1 : (tA l (i + 1))[v]? = some ((((l.take (i + 1)).countP fun x => decide (x = (v : Int)) : Nat) : Int)) := by rw [tA, List.getElem?_map, List.getElem?_range hv]; rfl
    have e2 : (tA l i)[v]? = some ((((l.take i).countP fun x => decide (x = (v : Int)) : Nat) : Int)) := by rw [tA, List.getElem?_map, List.getElem?_range hv]; rfl
    have e3 : l.take (i + 1) = l.take i ++ [l.getD i 0] := by rw [List.take_succ_eq_append_getElem hi, List.getD_eq_getElem?_getD, List.getElem?_eq_getElem hi]; rfl
    rw [e1, e2, e3, List.countP_append, tA_len]
    by_cases e : (l.getD i 0).toNat = v
    · subst e
      rw [if_pos rfl, if_pos hlt]
      have : (l.getD i 0) = (((l.getD i 0).toNat : Nat) : Int) := by omega
      rw [List.countP_cons, List.countP_nil, if_pos (decide_eq_true this)]
      exact congrArg some (by omega)
    · rw [if_neg e]
      have : ¬ (l.getD i 0 = (v : Int)) := by omega
      rw [List.countP_cons, List.countP_nil, if_neg (fun h => this (of_decide_eq_true h))]
      rfl
  · rw [if_neg (by omega), List.getElem?_eq_none (by rw [tA_len]; omega), List.getElem?_eq_none (by rw [tA_len]; omega)]

def cntV (l : List Int) : List Int × Bool := if l.length < 2 ∨ 258 < l.length then (List.replicate 21 0, false) else if ∀ x ∈ l, good x then (tA l l.length, true) else (tA l (l.takeWhile fun x => decide (good x)).length, false)
theorem tw_len {l : List Int} {i : Nat} (hi : i < l.length) (h : ∀ j, j < i → good (l.getD j 0)) (hb : ¬ good (l.getD i 0)) : (l.takeWhile fun x => decide (good x)).length = i := by
  induction l generalizing i with
  | nil => simp at hi
  | cons x l ih =>
    cases i with
    | zero =>
      have hx : ¬ good x := hb
      rw [List.takeWhile_cons, if_neg (by simpa using hx)]; rfl
    | succ i =>
      have hx : good x := h 0 (by omega)
      rw [List.takeWhile_cons, if_pos (by simpa using hx), List.length_cons, ih (by simpa using hi) (fun j hj => by simpa using h (j + 1) (by omega)) (by simpa using hb)]
theorem cnt_bad {l : List Int} {i : Nat} (hl : ¬ (l.length < 2 ∨ 258 < l.length)) (hi : i < l.length) (h : ∀ j, j < i → good (l.getD j 0)) (hb : ¬ good (l.getD i 0)) : cntV l = (tA l i, false) := by
  have : ¬ ∀ x ∈ l, good x := fun h2 => hb (h2 _ (by rw [List.getD_eq_getElem?_getD, List.getElem?_eq_getElem hi]; exact List.getElem_mem hi))
  rw [cntV, if_neg hl, if_neg this, tw_len hi h hb]
theorem cnt_ok {l : List Int} {i : Nat} (hl : ¬ (l.length < 2 ∨ 258 < l.length)) (hi : i = l.length) (h : ∀ j, j < i → good (l.getD j 0)) : cntV l = (tA l i, true) := by
  subst hi
  have : ∀ x ∈ l, good x := fun x hx => by
    obtain ⟨j, hj, rfl⟩ := List.mem_iff_getElem.1 hx
    have := h j hj
    rwa [List.getD_eq_getElem?_getD, List.getElem?_eq_getElem hj] at this
  rw [cntV, if_neg hl, if_pos this]
theorem cnt_len {l : List Int} (h : l.length < 2 ∨ 258 < l.length) : cntV l = (List.replicate 21 0, false) := by rw [cntV, if_pos h]

set_option maxRecDepth 100000 in
set_option maxHeartbeats 1000000 in
theorem count_s (l : List Int) (_hin : In64 l) (hl : l.length ≤ 9223372036854775807) :
    FPure Try.prog 44 [Sl 1 l.length (l.map (Value.int .i64))] (Tup [Is (arrV (Value.int .u64) (cntV l).1), Is (.bool (cntV l).2)]) := by
  refine FPure.of Try.func44 Try.ntmps44 rfl (by kernel_rfl) rfl rfl rfl ?_
  refine W_seq ?_
  refine W_regionE (c := 1) (c' := 3) (by kernel_rfl) rfl ?_
  refine Runs_w rfl (Valid.allocarr (f := Value.int .u64) (zg := 0) (n := 21) rfl zv53 (by kernel_rfl)) rfl rfl ?_
  refine Runs_p rfl (Valid.assignk (A := Is _) rfl rfl) rfl rfl ?_
  refine Runs_nil ?_
  refine thenQ_n ?_
  refine W_seq ?_
  refine W_seq ?_
  refine W_regionE (c := 3) (c' := 11) (by kernel_rfl) rfl ?_
  refine Runs_p rfl (Valid.movek (A := Sl 1 _ _) rfl rfl) rfl rfl ?_
  refine Runs_p rfl (Valid.len rfl Try.underlying22 (Reads.sl rfl)) rfl rfl ?_
  refine Runs_p rfl (Valid.lss rfl rfl rfl) rfl rfl ?_
  refine Runs_p rfl (Valid.movek (A := Is _) rfl rfl) rfl rfl ?_
  refine Runs_cnd rfl rfl (Grd.is rfl) [] (fun hg => trivial) (fun hg => Valid.movek (A := Sl 1 _ _) rfl rfl) (by rfl) rfl ?_
  refine Runs_cnd rfl rfl (Grd.is rfl) [(10, _)] (fun hg => ⟨cnd_at rfl (by first | exact hg | exact hg.1 | exact hg.1.1 | exact hg.1.1.1), trivial⟩) (fun hg => Valid.len rfl Try.underlying22 (Reads.sl rfl)) (by rfl) rfl ?_
  refine Runs_cnd rfl rfl (Grd.is rfl) [(11, _)] (fun hg => ⟨cnd_at rfl (by first | exact hg | exact hg.1 | exact hg.1.1 | exact hg.1.1.1), trivial⟩) (fun hg => Valid.gtr rfl rfl rfl) (by rfl) rfl ?_
  refine Runs_p rfl (Valid.pickor rfl rfl rfl rfl (fun h => by first | exact h | exact ⟨hg, h⟩)) rfl rfl ?_
  refine Runs_nil ?_
  refine thenQ_n ?_
  refine W_cond _ rfl (fun hb1 => ?_) (fun hb1 => ?_)
  · try simp only [decide_eq_true_eq, Bool.or_eq_true] at hb1
    all_goals (
      refine W_seq ?_
      refine W_regionE (c := 11) (c' := 14) (by kernel_rfl) rfl ?_
      refine Runs_p rfl (Valid.loadall rfl ag53 sz53 rfl rfl (by first | rfl | assumption | omega | (simp; done))) rfl rfl ?_
      refine Runs_op rfl (Valid.storeall rfl sz53 rfl rfl (by first | rfl | assumption | omega | (simp; done)) rfl (by first | rfl | assumption | omega | (simp; done)) (fun _ => rfl)) rfl ?_
      refine Runs_p rfl (Valid.assignk (A := Is _) rfl rfl) rfl rfl ?_
      refine Runs_nil ?_
      refine thenQ_n ?_
      refine W_ret ?_
      refine thenQ_r ?_
      refine finQ_r ?_
      refine ResOk.two rfl (RVal.cellarr ag53 sz53 rfl rfl (by first | rfl | assumption | omega) (by first | (rw [cnt_len (by omega)]; done) | (rw [cnt_bad (by omega) (by omega) hI1.2 (fun h => by unfold good at h; omega)]; done) | (rw [cnt_ok (by omega) (by omega) hI1.2]; done))) (RVal.is rfl rfl (by first | (rw [cnt_len (by omega)]; done) | (rw [cnt_bad (by omega) (by omega) hI1.2 (fun h => by unfold good at h; omega)]; done) | (rw [cnt_ok (by omega) (by omega) hI1.2]; done)))
      done)
  · try simp only [decide_eq_false_iff_not, Bool.or_eq_false_iff] at hb1
    all_goals (
      refine W_skip ?_
      refine thenQ_n ?_
      refine W_seq ?_
      refine W_seq ?_
      refine W_regionE (c := 11) (c' := 14) (by kernel_rfl) rfl ?_
      refine Runs_p rfl (Valid.movek (A := Sl 1 _ _) rfl rfl) rfl rfl ?_
      refine Runs_p rfl (Valid.len rfl Try.underlying22 (Reads.sl rfl)) rfl rfl ?_
      refine Runs_p rfl (Valid.movek (A := Is _) rfl rfl) rfl rfl ?_
      refine Runs_nil ?_
      refine thenQ_n ?_
      refine W_block ?_
      refine W_loopx (G := Nat) (fun (i : Nat) => i ≤ l.length ∧ ∀ j, j < i → good (l.getD j 0)) [(2, Ptr 8 0), (15, Sl 1 _ _), (16, Is _)] (fun (i : Nat) => [(17, Is (.int .i64 (i : Int)))]) [] (fun (i : Nat) => [(8, .var 53 (Arr (Value.int .u64) (tA l i)))]) 14 (fun (i : Nat) => l.length - i) (0) [] (⟨Nat.zero_le _, fun j hj => absurd hj (Nat.not_lt_zero _)⟩) ⟨⟨(leq_is rfl rfl (by first | rfl)), trivial⟩, ⟨(leq_ptr rfl rfl rfl), (leq_sl (Reads.sl rfl) rfl rfl rfl), (leq_is rfl rfl rfl), trivial⟩, ⟨hp_arr rfl (by first | rfl), trivial⟩, trivial, rfl, ⟨supg rfl, trivial⟩, ⟨supg rfl, supg rfl, supg rfl, trivial⟩, ⟨suph_arr rfl, trivial⟩, trivial, rfl, rfl⟩ ?_
      intro i hI1
      have htl := tA_len l i
      refine W_seq ?_
      refine W_regionE (c := 14) (c' := 15) (by kernel_rfl) rfl ?_
      refine Runs_p rfl (Valid.lss rfl rfl rfl) rfl rfl ?_
      refine Runs_nil ?_
      refine thenQ_n ?_
      refine W_seq ?_
      refine W_cond _ rfl (fun hb2 => ?_) (fun hb2 => ?_)
      · try simp only [decide_eq_true_eq] at hb2
        all_goals (
          refine W_skip ?_
          refine thenQ_n ?_
          refine W_seq ?_
          refine W_block ?_
          refine W_seq ?_
          refine W_regionE (c := 15) (c' := 18) (by kernel_rfl) rfl ?_
          refine Runs_p rfl (Valid.eltaddr1 0 rfl Try.underlying22 sz3 (Reads.sl rfl) rfl (by omega) rfl) rfl rfl ?_
          refine Runs_p rfl (Valid.loadelt rfl ag3 rfl) rfl rfl ?_
          refine Runs_p rfl (Valid.assignk (A := Is _) rfl rfl) rfl rfl ?_
          refine Runs_nil ?_
          refine thenQ_n ?_
          refine W_seq ?_
          refine W_seq ?_
          refine W_regionE (c := 18) (c' := 24) (by kernel_rfl) rfl ?_
          refine Runs_p rfl (Valid.movek (A := Is _) rfl rfl) rfl rfl ?_
          refine Runs_p rfl (Valid.lss rfl rfl rfl) rfl rfl ?_
          refine Runs_p rfl (Valid.movek (A := Is _) rfl rfl) rfl rfl ?_
          refine Runs_cnd rfl rfl (Grd.is rfl) [] (fun hg => trivial) (fun hg => Valid.movek (A := Is _) rfl rfl) (by rfl) rfl ?_
          refine Runs_cnd rfl rfl (Grd.is rfl) [(24, _)] (fun hg => ⟨cnd_at rfl (by first | exact hg | exact hg.1 | exact hg.1.1 | exact hg.1.1.1), trivial⟩) (fun hg => Valid.gtr rfl rfl rfl) (by rfl) rfl ?_
          refine Runs_p rfl (Valid.pickor rfl rfl rfl rfl (fun h => by first | exact h | exact ⟨hg, h⟩)) rfl rfl ?_
          refine Runs_nil ?_
          refine thenQ_n ?_
          refine W_cond _ rfl (fun hb3 => ?_) (fun hb3 => ?_)
          · try simp only [Int.toNat_natCast, decide_eq_true_eq, Bool.or_eq_true] at hb3
            all_goals (
              refine W_seq ?_
              refine W_regionE (c := 24) (c' := 27) (by kernel_rfl) rfl ?_
              refine Runs_p rfl (Valid.loadall rfl ag53 sz53 rfl rfl (by first | rfl | assumption | omega | (simp; done))) rfl rfl ?_
              refine Runs_op rfl (Valid.storeall rfl sz53 rfl rfl (by first | rfl | assumption | omega | (simp; done)) rfl (by first | rfl | assumption | omega | (simp; done)) (fun _ => rfl)) rfl ?_
              refine Runs_p rfl (Valid.assignk (A := Is _) rfl rfl) rfl rfl ?_
              refine Runs_nil ?_
              refine thenQ_n ?_
              refine W_ret ?_
              refine thenQ_r ?_
              refine blockQ_r ?_
              refine thenQ_r ?_
              refine loopQ_r ?_
              refine blockQ_r ?_
              refine thenQ_r ?_
              refine finQ_r ?_
              refine ResOk.two rfl (RVal.cellarr ag53 sz53 rfl rfl (by first | rfl | assumption | omega) (by first | (rw [cnt_len (by omega)]; done) | (rw [cnt_bad (by omega) (by omega) hI1.2 (fun h => by unfold good at h; omega)]; done) | (rw [cnt_ok (by omega) (by omega) hI1.2]; done))) (RVal.is rfl rfl (by first | (rw [cnt_len (by omega)]; done) | (rw [cnt_bad (by omega) (by omega) hI1.2 (fun h => by unfold good at h; omega)]; done) | (rw [cnt_ok (by omega) (by omega) hI1.2]; done)))
              done)
          · try simp only [Int.toNat_natCast, decide_eq_false_iff_not, Bool.or_eq_false_iff] at hb3
            all_goals (
              refine W_skip ?_
              refine thenQ_n ?_
              have hgd : good (l.getD i 0) := ⟨by omega, by omega⟩
              have hgd2 : 1 ≤ l.getD i 0 ∧ l.getD i 0 ≤ 20 := hgd
              refine W_regionE (c := 24) (c' := 30) (by kernel_rfl) rfl ?_
              refine Runs_p rfl (Valid.movek (A := Is _) rfl rfl) rfl rfl ?_
              refine Runs_p rfl (Valid.idxarr1 rfl Try.underlying53 sz51 rfl rfl (by first | omega | (simp only [Int.toNat_natCast]; omega))) rfl rfl ?_
              refine Runs_p rfl (Valid.loadarr 0 rfl ag51 rfl rfl (by first | omega | (simp only [Int.toNat_natCast]; omega))) rfl rfl ?_
              refine Runs_p rfl (Valid.addw rfl rfl rfl) rfl rfl ?_
              refine Runs_p rfl (Valid.idxarr1 rfl Try.underlying53 sz51 rfl rfl (by first | omega | (simp only [Int.toNat_natCast]; omega))) rfl rfl ?_
              refine Runs_op rfl (Valid.storearr _ rfl sz51 rfl rfl (by first | omega | (simp only [Int.toNat_natCast]; omega)) rfl (One.is rfl rfl rfl)) rfl ?_
              refine Runs_nil ?_
              refine blockQ_n ?_
              refine thenQ_n ?_
              refine W_regionE (c := 30) (c' := 32) (by kernel_rfl) rfl ?_
              refine Runs_p rfl (Valid.add rfl rfl rfl (room64 (by omega) (by omega))) rfl rfl ?_
              refine Runs_p rfl (Valid.movek (A := Is _) rfl rfl) rfl rfl ?_
              refine Runs_nil ?_
              refine LoopQ.next (i + 1) [] (⟨by omega, fun j hj => by by_cases e : j = i; (· subst e; exact hgd); (· exact hI1.2 j (by omega))⟩) (by first | omega | (dsimp only; omega)) ⟨⟨(leq_is rfl rfl (by first | rfl | exact tA_s (by omega) (by omega) hgd)), trivial⟩, ⟨(leq_ptr rfl rfl rfl), (leq_sl (Reads.sl rfl) rfl rfl rfl), (leq_is rfl rfl rfl), trivial⟩, ⟨hp_arr rfl (by first | rfl | exact tA_s (by omega) (by omega) hgd), trivial⟩, trivial, rfl, ⟨supg rfl, trivial⟩, ⟨supg rfl, supg rfl, supg rfl, trivial⟩, ⟨suph_arr rfl, trivial⟩, trivial, rfl, rfl⟩
              done)
          done)
      · try simp only [decide_eq_false_iff_not] at hb2
        all_goals (
          refine W_exit ?_
          refine thenQ_e ?_
          refine loopQ_e ?_
          refine blockQ_x ?_
          refine thenQ_n ?_
          refine W_seq ?_
          refine W_regionE (c := 15) (c' := 18) (by kernel_rfl) rfl ?_
          refine Runs_p rfl (Valid.loadall rfl ag53 sz53 rfl rfl (by first | rfl | assumption | omega | (simp; done))) rfl rfl ?_
          refine Runs_op rfl (Valid.storeall rfl sz53 rfl rfl (by first | rfl | assumption | omega | (simp; done)) rfl (by first | rfl | assumption | omega | (simp; done)) (fun _ => rfl)) rfl ?_
          refine Runs_p rfl (Valid.assignk (A := Is _) rfl rfl) rfl rfl ?_
          refine Runs_nil ?_
          refine thenQ_n ?_
          refine W_ret ?_
          refine finQ_r ?_
          refine ResOk.two rfl (RVal.cellarr ag53 sz53 rfl rfl (by first | rfl | assumption | omega) (by first | (rw [cnt_len (by omega)]; done) | (rw [cnt_bad (by omega) (by omega) hI1.2 (fun h => by unfold good at h; omega)]; done) | (rw [cnt_ok (by omega) (by omega) hI1.2]; done))) (RVal.is rfl rfl (by first | (rw [cnt_len (by omega)]; done) | (rw [cnt_bad (by omega) (by omega) hI1.2 (fun h => by unfold good at h; omega)]; done) | (rw [cnt_ok (by omega) (by omega) hI1.2]; done)))
          done)
      done)
end Ob
end Go.Proofs.Ytdcenocljnlipaa
