/-
  WALKS of stage 11: groups, their bits.
-/
import Derived.Test.YtdcenocljnlipaaRows
import Derived.Test.YtdcenocljnlipaaMgc
import Derived.Test.YtdcenocljnlipaaWd
import Derived.Test.YtdcenocljnlipaaWg
import Derived.Test.YtdcenocljnlipaaOa
import Derived.Test.YtdcenocljnlipaaOb
import Derived.Test.YtdcenocljnlipaaOc
import Derived.Test.YtdcenocljnlipaaOd
import Derived.Test.YtdcenocljnlipaaOf
import Derived.Test.YtdcenocljnlipaaOi
namespace Go.Proofs.Ytdcenocljnlipaa
open Go.RowKit
namespace Ka
open Ab Wd Wg Oa Ob Oc Od Of Oi
theorem ag22 (w : World) : (isAgg 22).run Try.prog w = .ok false w := by kernel_rfl
theorem ag3 (w : World) : (isAgg 3).run Try.prog w = .ok false w := by kernel_rfl
theorem sz3 (w : World) : (sizeOf 3).run Try.prog w = .ok 1 w := by kernel_rfl
theorem ti3 : TI Try.prog 3 1 8 := .mk' (z := (Value.int .i64 0)) (by kernel_rfl) rfl
/-- the group of a number -/
def gp (m : List Int) (k : Nat) : List Int := (m.drop (10 * k)).take 10
def ng (m : List Int) : Nat := (m.length + 9) / 10
def gpA (m : List Int) (k : Nat) : List (List Int) := (List.range k).map (gp m)
def gps (m : List Int) : List (List Int) := gpA m (ng m)
abbrev Fl : List Int → AV := fun l => Sl 1 l.length (l.map (Value.int .i64))
theorem gpA_len (m : List Int) (k : Nat) : (gpA m k).length = k := by unfold gpA; rw [List.length_map, List.length_range]
theorem gpA_s (m : List Int) (k : Nat) : gpA m (k + 1) = gpA m k ++ [gp m k] := by unfold gpA; rw [List.range_succ, List.map_append]; rfl
theorem gp_len (m : List Int) (k : Nat) : (gp m k).length = min 10 (m.length - 10 * k) := by unfold gp; rw [List.length_take, List.length_drop]
theorem gp_1 {m : List Int} {k : Nat} (h : k < ng m) : 1 ≤ (gp m k).length ∧ (gp m k).length ≤ 10 := by
  unfold ng at h
  rw [gp_len]; omega
theorem gp_mem {m : List Int} {k : Nat} {x : Int} (h : x ∈ gp m k) : x ∈ m := List.mem_of_mem_drop (List.mem_of_mem_take h)
theorem gp_in {m : List Int} (h : In64 m) (k : Nat) : In64 (gp m k) := fun x hx => h x (gp_mem hx)
theorem gsl {m : List Int} {k : Nat} (h : (k : Int) * 10 < m.length) : Sl 1 ((min (((k : Int) + 1) * 10) (m.length : Int)).toNat - ((k : Int) * 10).toNat) (((m.drop ((k : Int) * 10).toNat).take ((min (((k : Int) + 1) * 10) (m.length : Int)).toNat - ((k : Int) * 10).toNat)).map (Value.int .i64)) = Sl 1 (gp m k).length ((gp m k).map (Value.int .i64)) := by
  have e1 : ((k : Int) * 10).toNat = 10 * k := by omega
  have e2 : (min (((k : Int) + 1) * 10) (m.length : Int)).toNat - 10 * k = min 10 (m.length - 10 * k) := by omega
  rw [e1, e2]
  have e3 : (m.drop (10 * k)).take (min 10 (m.length - 10 * k)) = gp m k := by
    unfold gp
    by_cases c : 10 ≤ m.length - 10 * k
    · rw [Nat.min_eq_left c]
    · rw [Nat.min_eq_right (by omega), List.take_of_length_le (by rw [List.length_drop]; omega), List.take_of_length_le (by rw [List.length_drop]; omega)]
  rw [e3, gp_len]

set_option maxRecDepth 100000 in
set_option maxHeartbeats 1000000 in
theorem gr_it (m : List Int) (hl : m.length ≤ 100000000000) :
    FIter Try.prog 40 [EltV (Sl 1 m.length (m.map (Value.int .i64)))] (ng m) (fun q => [Is (.int .i64 (q : Int)), Sl 1 (gp m q).length ((gp m q).map (Value.int .i64))]) := by
  refine FIter.of Try.func40 Try.ntmps40 rfl (by kernel_rfl) rfl rfl (fun _ => rfl) (fun l_ go_ => ?_)
  refine W_seq ?_
  refine W_regionE (c := 1) (c' := 2) (by kernel_rfl) rfl ?_
  refine Runs_p rfl (Valid.assignk (A := Is _) rfl rfl) rfl rfl ?_
  refine Runs_nil ?_
  refine thenQ_n ?_
  refine W_block ?_
  refine W_loopx (G := Nat) (fun (k : Nat) => k ≤ ng m ∧ ∀ j, j < k → go_ j = true) [(0, Is _), (1, EltV (Sl 1 _ _))] (fun (k : Nat) => [(3, Is (.int .i64 (k : Int)))]) [] (fun (k : Nat) => [(0, .idx ⟨l_, ng m, fun q => [Is (.int .i64 (q : Int)), Sl 1 (gp m q).length ((gp m q).map (Value.int .i64))], go_⟩ (k))]) 2 (fun (k : Nat) => ng m - k) (0) [] (⟨Nat.zero_le _, fun j hj => by omega⟩) ⟨⟨(leq_is rfl rfl (by first | rfl)), trivial⟩, ⟨(leq_is rfl rfl rfl), (leq_eltv rfl rfl rfl rfl), trivial⟩, ⟨hp_idx rfl (by first | rfl), trivial⟩, trivial, rfl, ⟨supg rfl, trivial⟩, ⟨supg rfl, supg rfl, trivial⟩, ⟨suph rfl rfl, trivial⟩, trivial, rfl, rfl⟩ ?_
  intro k hI1
  obtain ⟨hk1, hk2⟩ := hI1
  have hng : ng m = (m.length + 9) / 10 := rfl
  refine W_seq ?_
  refine W_seq ?_
  refine W_regionE (c := 2) (c' := 7) (by kernel_rfl) rfl ?_
  refine Runs_p rfl (Valid.movek (A := Is _) rfl rfl) rfl rfl ?_
  refine Runs_p rfl (Valid.mul rfl rfl rfl (room64 (by omega) (by omega))) rfl rfl ?_
  refine Runs_p rfl (Valid.loadeltV rfl ag22 rfl) rfl rfl ?_
  refine Runs_p rfl (Valid.len rfl Try.underlying22 (Reads.sl rfl)) rfl rfl ?_
  refine Runs_p rfl (Valid.lss rfl rfl rfl) rfl rfl ?_
  refine Runs_nil ?_
  refine thenQ_n ?_
  refine W_cond _ rfl (fun hb1 => ?_) (fun hb1 => ?_)
  · try simp only [decide_eq_true_eq] at hb1
    all_goals (
      refine W_skip ?_
      refine thenQ_n ?_
      refine W_seq ?_
      refine W_block ?_
      refine W_seq ?_
      refine W_regionE (c := 7) (c' := 21) (by kernel_rfl) rfl ?_
      refine Runs_p rfl (Valid.movek (A := Is _) rfl rfl) rfl rfl ?_
      refine Runs_p rfl (Valid.movek (A := Is _) rfl rfl) rfl rfl ?_
      refine Runs_p rfl (Valid.loadeltV rfl ag22 rfl) rfl rfl ?_
      refine Runs_p rfl (Valid.movek (A := Is _) rfl rfl) rfl rfl ?_
      refine Runs_p rfl (Valid.mul rfl rfl rfl (room64 (by omega) (by omega))) rfl rfl ?_
      refine Runs_p rfl (Valid.movek (A := Is _) rfl rfl) rfl rfl ?_
      refine Runs_p rfl (Valid.add rfl rfl rfl (room64 (by omega) (by omega))) rfl rfl ?_
      refine Runs_p rfl (Valid.mul rfl rfl rfl (room64 (by omega) (by omega))) rfl rfl ?_
      refine Runs_p rfl (Valid.loadeltV rfl ag22 rfl) rfl rfl ?_
      refine Runs_p rfl (Valid.len rfl Try.underlying22 (Reads.sl rfl)) rfl rfl ?_
      refine Runs_p rfl (Valid.min rfl rfl rfl) rfl rfl ?_
      refine Runs_p rfl (Valid.slice1 rfl Try.underlying22 sz3 (Reads.sl rfl) rfl rfl (by refine ⟨?_, ?_, ?_⟩ <;> omega)) rfl rfl ?_
      refine Runs_y rfl (VOp.yieldx rfl rfl rfl (by omega) (hk2) ⟨argle (by first | rfl | exact gsl (by omega)), argle (by first | rfl | exact gsl (by omega)), trivial⟩ rfl) rfl rfl ?_
      refine Runs_p rfl (Valid.not rfl rfl) rfl rfl ?_
      refine Runs_nil ?_
      refine thenQ_n ?_
      refine W_cond _ rfl (fun hb2 => ?_) (fun hb2 => ?_)
      · try simp only [Bool.not_eq_true'] at hb2
        all_goals (
          refine W_ret ?_
          refine blockQ_r ?_
          refine thenQ_r ?_
          refine loopQ_r ?_
          refine blockQ_r ?_
          exact finIQ_r (ResOk.none rfl (fun _ _ => rfl)) rfl (by first | exact (stop_at (n := ng m) (by omega) hk2 (by assumption)).symm | (obtain rfl : k = ng m := (by omega); exact (stop_all hk2).symm))
          done)
      · try simp only [Bool.not_eq_false'] at hb2
        all_goals (
          refine W_skip ?_
          refine blockQ_n ?_
          refine thenQ_n ?_
          refine W_regionE (c := 21) (c' := 24) (by kernel_rfl) rfl ?_
          refine Runs_p rfl (Valid.movek (A := Is _) rfl rfl) rfl rfl ?_
          refine Runs_p rfl (Valid.add rfl rfl rfl (room64 (by omega) (by omega))) rfl rfl ?_
          refine Runs_p rfl (Valid.assignk (A := Is _) rfl rfl) rfl rfl ?_
          refine Runs_nil ?_
          refine LoopQ.next (k + 1) [] (⟨by omega, fun j hj => by by_cases e : j = k; (· subst e; assumption); (· exact hk2 j (by omega))⟩) (by omega) ⟨⟨(leq_is rfl rfl (by first | rfl)), trivial⟩, ⟨(leq_is rfl rfl rfl), (leq_eltv rfl rfl rfl rfl), trivial⟩, ⟨hp_idx rfl (by first | rfl), trivial⟩, trivial, rfl, ⟨supg rfl, trivial⟩, ⟨supg rfl, supg rfl, trivial⟩, ⟨suph rfl rfl, trivial⟩, trivial, rfl, rfl⟩
          done)
      done)
  · try simp only [decide_eq_false_iff_not] at hb1
    all_goals (
      refine W_exit ?_
      refine thenQ_e ?_
      refine loopQ_e ?_
      refine blockQ_x ?_
      exact finIQ_n (ResOk.none rfl (fun _ _ => rfl)) rfl (by first | exact (stop_at (n := ng m) (by omega) hk2 (by assumption)).symm | (obtain rfl : k = ng m := (by omega); exact (stop_all hk2).symm))
      done)

set_option maxRecDepth 100000 in
set_option maxHeartbeats 1000000 in
theorem groups_s (m : List Int) :
    FPure Try.prog 26 [Sl 1 m.length (m.map (Value.int .i64))] (FnV 40 [] [FzV (Sl 1 m.length (m.map (Value.int .i64)))]) := by
  refine FPure.of Try.func26 Try.ntmps26 rfl (by kernel_rfl) rfl rfl rfl ?_
  refine W_seq ?_
  refine W_regionE (c := 1) (c' := 3) (by kernel_rfl) rfl ?_
  refine Runs_w rfl (Valid.box rfl (One.sl (Reads.sl rfl))) rfl rfl ?_
  refine Runs_p rfl (Valid.assignk (A := Is _) rfl rfl) rfl rfl ?_
  refine Runs_nil ?_
  refine thenQ_n ?_
  refine W_seq ?_
  refine W_regionE (c := 3) (c' := 5) (by kernel_rfl) rfl ?_
  refine Runs_p rfl (Valid.makefunc rfl) rfl rfl ?_
  refine Runs_p rfl (Valid.assignk (A := FnV 40 [] [Ptr 8 0]) rfl rfl) rfl rfl ?_
  refine Runs_nil ?_
  refine thenQ_n ?_
  refine W.ent ?_ (Ent.freezeG 2 8 (A := Sl 1 m.length (m.map (Value.int .i64))) (caps' := [FzV (Sl 1 m.length (m.map (Value.int .i64)))]) rfl rfl rfl ⟨.inr ⟨rfl, rfl⟩, trivial⟩)
  refine W_ret ?_
  refine finQ_r ?_
  refine ResOk.one rfl (RVal.tmp (fun _ _ _ h => h))

set_option maxRecDepth 100000 in
set_option maxHeartbeats 1000000 in
theorem clone_s (l : List Int) (h1 : 1 ≤ l.length) (hl : l.length ≤ 1000000000000) :
    FPure Try.prog 27 [Sl 1 l.length (l.map (Value.int .i64))] (Sl 1 l.length (l.map (Value.int .i64))) := by
  refine FPure.of Try.func27 Try.ntmps27 rfl (by kernel_rfl) rfl rfl rfl ?_
  refine W_seq ?_
  refine W_regionE (c := 1) (c' := 2) (by kernel_rfl) rfl ?_
  refine Runs_p rfl (Valid.assignk (A := Is (.slice none 0 0)) rfl rfl) rfl rfl ?_
  refine Runs_nil ?_
  refine thenQ_n ?_
  refine W_seq ?_
  refine W_seq ?_
  refine W_regionE (c := 2) (c' := 4) (by kernel_rfl) rfl ?_
  refine Runs_p rfl (Valid.movek (A := Sl 1 _ _) rfl rfl) rfl rfl ?_
  refine Runs_p rfl (Valid.notnil rfl (Reads.sl rfl) rfl (by omega) (fun _ _ _ _ => by kernel_rfl)) rfl rfl ?_
  refine Runs_nil ?_
  refine thenQ_n ?_
  refine W_cond _ rfl (fun hb1 => ?_) (fun hb1 => ?_)
  · try simp only [Bool.false_eq_true] at hb1
    all_goals (
      exfalso
      first | omega | (simp at hb1; done) | cases hb1
      
      done)
  · try simp only [] at hb1
    all_goals (
      refine W_skip ?_
      refine thenQ_n ?_
      refine W_seq ?_
      refine W_regionE (c := 4) (c' := 8) (by kernel_rfl) rfl ?_
      refine Runs_w rfl (Valid.litown (el := 3) [] rfl rfl (fun _ => by kernel_rfl) rfl (by decide)) rfl rfl ?_
      refine Runs_p rfl (Valid.movek (A := Sl 1 _ _) rfl rfl) rfl rfl ?_
      refine Runs_w rfl (Valid.app rfl Try.underlying22 ti3 (by decide) rfl rfl (Reads.sl rfl) (by first | exact one_map (fun _ => rfl) | exact one_cons rfl one_nil | exact one_app (one_map (fun _ => rfl)) (one_cons rfl one_nil) | exact one_app (one_map (fun _ => rfl)) (one_map (fun _ => rfl)) | exact one_rep rfl | exact one_app (one_rep rfl) (one_map (fun _ => rfl)) | (intro u hu; simp at hu; rcases hu with rfl | hu <;> first | rfl | (subst hu; rfl))) (by simp only [maxLen]; omega) (by omega)) rfl rfl ?_
      refine Runs_p rfl (Valid.assignk (A := Ab.Own 48 1 _ _) rfl rfl) rfl rfl ?_
      refine Runs_nil ?_
      refine thenQ_n ?_
      refine W_ret ?_
      refine finQ_r ?_
      refine ResOk.one rfl (RVal.sl (Reads.own rfl) rfl (by first | rfl | (simp; done) | omega | (simp [toNat_add, toNat_add1, Nat.add_assoc]; done) | (simp [toNat_add, toNat_add1]; omega)) (by first | rfl | (simp; done) | omega | (simp [toNat_add, toNat_add1, Nat.add_assoc]; done) | (simp [toNat_add, toNat_add1]; omega)))
      done)

theorem all_y {l : List Int} {n : Int} {k : Nat} (hk : k = l.length) (h : ∀ j, j < k → 0 ≤ l.getD j 0 ∧ l.getD j 0 < n) : ∀ x ∈ l, 0 ≤ x ∧ x < n := fun x hx => by
  obtain ⟨j, hj, rfl⟩ := List.mem_iff_getElem.1 hx
  have := h j (by omega)
  rwa [List.getD_eq_getElem?_getD, List.getElem?_eq_getElem hj] at this

set_option maxRecDepth 100000 in
set_option maxHeartbeats 1000000 in
theorem among_s (l : List Int) (n : Int) (hl : l.length ≤ 1000000000000) :
    FPure Try.prog 28 [Sl 1 l.length (l.map (Value.int .i64)), Is (.int .i64 n)] (Is (.bool (decide (∀ x ∈ l, 0 ≤ x ∧ x < n)))) := by
  refine FPure.of Try.func28 Try.ntmps28 rfl (by kernel_rfl) rfl rfl rfl ?_
  refine W_seq ?_
  refine W_regionE (c := 1) (c' := 2) (by kernel_rfl) rfl ?_
  refine Runs_p rfl (Valid.assignk (A := Is _) rfl rfl) rfl rfl ?_
  refine Runs_nil ?_
  refine thenQ_n ?_
  refine W_seq ?_
  refine W_seq ?_
  refine W_regionE (c := 2) (c' := 5) (by kernel_rfl) rfl ?_
  refine Runs_p rfl (Valid.movek (A := Sl 1 _ _) rfl rfl) rfl rfl ?_
  refine Runs_p rfl (Valid.len rfl Try.underlying22 (Reads.sl rfl)) rfl rfl ?_
  refine Runs_p rfl (Valid.movek (A := Is _) rfl rfl) rfl rfl ?_
  refine Runs_nil ?_
  refine thenQ_n ?_
  refine W_block ?_
  refine W_loopx (G := Nat) (fun (k : Nat) => k ≤ l.length ∧ ∀ j, j < k → 0 ≤ l.getD j 0 ∧ l.getD j 0 < n) [(1, Is _), (7, Sl 1 _ _), (8, Is _)] (fun (k : Nat) => [(9, Is (.int .i64 (k : Int)))]) [] (fun (k : Nat) => []) 5 (fun (k : Nat) => l.length - k) (0) [] (⟨by omega, fun j hj => by omega⟩) ⟨⟨(leq_is rfl rfl (by first | rfl | (simp; done) | omega | (simp [toNat_add, toNat_add1, Nat.add_assoc]; done) | (simp [toNat_add, toNat_add1]; omega))), trivial⟩, ⟨(leq_is rfl rfl rfl), (leq_sl (Reads.sl rfl) rfl rfl rfl), (leq_is rfl rfl rfl), trivial⟩, trivial, trivial, rfl, ⟨supg rfl, trivial⟩, ⟨supg rfl, supg rfl, supg rfl, trivial⟩, trivial, trivial, rfl, rfl⟩ ?_
  intro k hI1
  obtain ⟨hk1, hk2⟩ := hI1
  refine W_seq ?_
  refine W_regionE (c := 5) (c' := 6) (by kernel_rfl) rfl ?_
  refine Runs_p rfl (Valid.lss rfl rfl rfl) rfl rfl ?_
  refine Runs_nil ?_
  refine thenQ_n ?_
  refine W_seq ?_
  refine W_cond _ rfl (fun hb1 => ?_) (fun hb1 => ?_)
  · try simp only [decide_eq_true_eq] at hb1
    all_goals (
      refine W_skip ?_
      refine thenQ_n ?_
      refine W_seq ?_
      refine W_block ?_
      refine W_seq ?_
      refine W_regionE (c := 6) (c' := 9) (by kernel_rfl) rfl ?_
      refine Runs_p rfl (Valid.eltaddr1 0 rfl Try.underlying22 sz3 (Reads.sl rfl) rfl (by omega) rfl) rfl rfl ?_
      refine Runs_p rfl (Valid.loadelt rfl ag3 rfl) rfl rfl ?_
      refine Runs_p rfl (Valid.assignk (A := Is _) rfl rfl) rfl rfl ?_
      refine Runs_nil ?_
      refine thenQ_n ?_
      refine W_seq ?_
      refine W_regionE (c := 9) (c' := 16) (by kernel_rfl) rfl ?_
      refine Runs_p rfl (Valid.movek (A := Is _) rfl rfl) rfl rfl ?_
      refine Runs_p rfl (Valid.lss rfl rfl rfl) rfl rfl ?_
      refine Runs_p rfl (Valid.movek (A := Is _) rfl rfl) rfl rfl ?_
      refine Runs_cnd rfl rfl (Grd.is rfl) [] (fun hg => trivial) (fun hg => Valid.movek (A := Is _) rfl rfl) (by rfl) rfl ?_
      refine Runs_cnd rfl rfl (Grd.is rfl) [] (fun hg => trivial) (fun hg => Valid.movek (A := Is _) rfl rfl) (by rfl) rfl ?_
      refine Runs_cnd rfl rfl (Grd.is rfl) [(16, _), (17, _)] (fun hg => ⟨cnd_at rfl (by first | exact hg | exact hg.1 | exact hg.1.1 | exact hg.1.1.1), cnd_at rfl (by first | exact hg | exact hg.1 | exact hg.1.1 | exact hg.1.1.1), trivial⟩) (fun hg => Valid.geq rfl rfl rfl) (by rfl) rfl ?_
      refine Runs_p rfl (Valid.pickor rfl rfl rfl rfl (fun h => by first | exact h | exact ⟨hg, h⟩)) rfl rfl ?_
      refine Runs_nil ?_
      refine thenQ_n ?_
      refine W_cond _ rfl (fun hb2 => ?_) (fun hb2 => ?_)
      · try simp only [Int.toNat_natCast, decide_eq_true_eq, Bool.or_eq_true] at hb2
        all_goals (
          refine W_seq ?_
          refine W_regionE (c := 16) (c' := 17) (by kernel_rfl) rfl ?_
          refine Runs_p rfl (Valid.assignk (A := Is _) rfl rfl) rfl rfl ?_
          refine Runs_nil ?_
          refine thenQ_n ?_
          refine W_ret ?_
          refine blockQ_r ?_
          refine thenQ_r ?_
          refine loopQ_r ?_
          refine blockQ_r ?_
          refine thenQ_r ?_
          refine finQ_r ?_
          refine ResOk.one rfl (RVal.is rfl rfl (by first | (rw [decide_eq_true (all_y (k := k) (by omega) hk2)]; done) | (rw [decide_eq_false (fun h => by have h1 := h _ (gmem (k := k) (by omega)); have hjj : l.getD (k : Int).toNat 0 = l.getD k 0 := rfl; omega)]; done)))
          done)
      · try simp only [Int.toNat_natCast, decide_eq_false_iff_not, Bool.or_eq_false_iff] at hb2
        all_goals (
          refine W_skip ?_
          refine blockQ_n ?_
          refine thenQ_n ?_
          refine W_regionE (c := 16) (c' := 18) (by kernel_rfl) rfl ?_
          refine Runs_p rfl (Valid.add rfl rfl rfl (room64 (by omega) (by omega))) rfl rfl ?_
          refine Runs_p rfl (Valid.movek (A := Is _) rfl rfl) rfl rfl ?_
          refine Runs_nil ?_
          refine LoopQ.next (k + 1) [] (⟨by omega, fun j hj => by by_cases e : j = k; (· subst e; have hjj : l.getD (j : Int).toNat 0 = l.getD j 0 := rfl; omega); (· exact hk2 j (by omega))⟩) (by omega) ⟨⟨(leq_is rfl rfl (by first | rfl | (simp; done) | omega | (simp [toNat_add, toNat_add1, Nat.add_assoc]; done) | (simp [toNat_add, toNat_add1]; omega))), trivial⟩, ⟨(leq_is rfl rfl rfl), (leq_sl (Reads.sl rfl) rfl rfl rfl), (leq_is rfl rfl rfl), trivial⟩, trivial, trivial, rfl, ⟨supg rfl, trivial⟩, ⟨supg rfl, supg rfl, supg rfl, trivial⟩, trivial, trivial, rfl, rfl⟩
          done)
      done)
  · try simp only [decide_eq_false_iff_not] at hb1
    all_goals (
      refine W_exit ?_
      refine thenQ_e ?_
      refine loopQ_e ?_
      refine blockQ_x ?_
      refine thenQ_n ?_
      refine W_seq ?_
      refine W_regionE (c := 6) (c' := 7) (by kernel_rfl) rfl ?_
      refine Runs_p rfl (Valid.assignk (A := Is _) rfl rfl) rfl rfl ?_
      refine Runs_nil ?_
      refine thenQ_n ?_
      refine W_ret ?_
      refine finQ_r ?_
      refine ResOk.one rfl (RVal.is rfl rfl (by first | (rw [decide_eq_true (all_y (k := k) (by omega) hk2)]; done) | (rw [decide_eq_false (fun h => by have h1 := h _ (gmem (k := k) (by omega)); have hjj : l.getD (k : Int).toNat 0 = l.getD k 0 := rfl; omega)]; done)))
      done)

/-- how many bits the first k have -/
def btS (l g : List Int) : Nat → Int
  | 0 => 0
  | k + 1 => btS l g k + l.getD (g.getD k 0).toNat 0
def btV (l g : List Int) : Int × Int := if (sndV l).2 = 0 then (if ∀ x ∈ g, 0 ≤ x ∧ x < l.length then (btS l g g.length, 0) else (0, 5)) else (0, (sndV l).2)
theorem snd_good {l : List Int} (h : (sndV l).2 = 0) : l.length ≤ 258 ∧ 2 ≤ l.length ∧ ∀ x ∈ l, 1 ≤ x ∧ x ≤ 20 := by
  have h1 : (cntV l).2 = true := by
    cases hc : (cntV l).2 with
    | true => rfl
    | false => rw [sndV, if_pos hc] at h; simp at h
  have := cntV_bd h1
  exact ⟨this.2.1, this.2.2.1, this.2.2.2⟩
theorem l_at {l : List Int} (h : ∀ x ∈ l, 1 ≤ x ∧ x ≤ 20) (i : Nat) : 0 ≤ l.getD i 0 ∧ l.getD i 0 ≤ 20 := by
  by_cases c : i < l.length
  · have := h _ (gmem c); omega
  · rw [List.getD_eq_getElem?_getD, List.getElem?_eq_none (by omega)]; simp
theorem btS_bd {l g : List Int} (h : ∀ x ∈ l, 1 ≤ x ∧ x ≤ 20) : ∀ k, 0 ≤ btS l g k ∧ btS l g k ≤ 20 * k
  | 0 => by simp [btS]
  | k + 1 => by
    have := btS_bd (g := g) h k
    have := l_at h (g.getD k 0).toNat
    rw [btS]; omega
theorem bt_y {l g : List Int} {k : Nat} (h : (sndV l).2 = 0) (h2 : ∀ x ∈ g, 0 ≤ x ∧ x < l.length) (hk : k = g.length) : btV l g = (btS l g k, 0) := by rw [btV, if_pos h, if_pos h2, hk]
theorem bt_n {l g : List Int} (h : (sndV l).2 = 0) (h2 : ¬ ∀ x ∈ g, 0 ≤ x ∧ x < l.length) : btV l g = (0, 5) := by rw [btV, if_pos h, if_neg h2]
theorem bt_e {l g : List Int} (h : ¬ (sndV l).2 = 0) : btV l g = (0, (sndV l).2) := by rw [btV, if_neg h]

set_option maxRecDepth 100000 in
set_option maxHeartbeats 1000000 in
theorem bits_s (l g : List Int) (hi : In64 l) (hl : l.length ≤ 100000000000) (hg : g.length ≤ 100000000000) :
    FPure Try.prog 18 [Sl 1 l.length (l.map (Value.int .i64)), Sl 1 g.length (g.map (Value.int .i64))] (Tup [Is (.int .i64 (btV l g).1), Is (.int .i64 (btV l g).2)]) := by
  refine FPure.of Try.func18 Try.ntmps18 rfl (by kernel_rfl) rfl rfl rfl ?_
  refine W_seq ?_
  refine W_regionE (c := 1) (c' := 3) (by kernel_rfl) rfl ?_
  refine Runs_p rfl (Valid.assignk (A := Is _) rfl rfl) rfl rfl ?_
  refine Runs_p rfl (Valid.assignk (A := Is _) rfl rfl) rfl rfl ?_
  refine Runs_nil ?_
  refine thenQ_n ?_
  refine W_seq ?_
  refine W_seq ?_
  refine W_regionE (c := 3) (c' := 6) (by kernel_rfl) rfl ?_
  refine Runs_p rfl (Valid.movek (A := Sl 1 _ _) rfl rfl) rfl rfl ?_
  refine Runs_p rfl (Valid.call rfl (check_s _ (by assumption) (by omega)) ⟨argle_sl (Reads.sl rfl), trivial⟩) rfl rfl ?_
  refine Runs_p rfl (Valid.assignk (A := Is _) rfl rfl) rfl rfl ?_
  refine Runs_nil ?_
  refine thenQ_n ?_
  refine W_seq ?_
  refine W_regionE (c := 6) (c' := 8) (by kernel_rfl) rfl ?_
  refine Runs_p rfl (Valid.movek (A := Is _) rfl rfl) rfl rfl ?_
  refine Runs_p rfl (Valid.neq rfl rfl rfl) rfl rfl ?_
  refine Runs_nil ?_
  refine thenQ_n ?_
  refine W_cond _ rfl (fun hb1 => ?_) (fun hb1 => ?_)
  · try simp only [decide_eq_true_eq, ne_eq] at hb1
    all_goals (
      refine W_seq ?_
      refine W_regionE (c := 8) (c' := 11) (by kernel_rfl) rfl ?_
      refine Runs_p rfl (Valid.movek (A := Is _) rfl rfl) rfl rfl ?_
      refine Runs_p rfl (Valid.assignk (A := Is _) rfl rfl) rfl rfl ?_
      refine Runs_p rfl (Valid.assignk (A := Is _) rfl rfl) rfl rfl ?_
      refine Runs_nil ?_
      refine thenQ_n ?_
      refine W_ret ?_
      refine thenQ_r ?_
      refine finQ_r ?_
      refine ResOk.two rfl (RVal.is rfl rfl (by first | (rw [bt_y (k := k) hok hga (by omega)]; done) | (rw [bt_y (k := k) hok hga (by omega)]; rfl) | (rw [bt_e (by assumption)]; done) | (rw [bt_e (by assumption)]; rfl) | (rw [bt_n (by first | assumption | omega) (by simp_all)]; done) | (rw [bt_n (by first | assumption | omega) (by simp_all)]; rfl))) (RVal.is rfl rfl (by first | (rw [bt_y (k := k) hok hga (by omega)]; done) | (rw [bt_y (k := k) hok hga (by omega)]; rfl) | (rw [bt_e (by assumption)]; done) | (rw [bt_e (by assumption)]; rfl) | (rw [bt_n (by first | assumption | omega) (by simp_all)]; done) | (rw [bt_n (by first | assumption | omega) (by simp_all)]; rfl)))
      done)
  · try simp only [decide_eq_false_iff_not, ne_eq] at hb1
    all_goals (
      refine W_skip ?_
      refine thenQ_n ?_
      refine W_seq ?_
      refine W_seq ?_
      refine W_regionE (c := 8) (c' := 13) (by kernel_rfl) rfl ?_
      refine Runs_p rfl (Valid.movek (A := Sl 1 _ _) rfl rfl) rfl rfl ?_
      refine Runs_p rfl (Valid.movek (A := Sl 1 _ _) rfl rfl) rfl rfl ?_
      refine Runs_p rfl (Valid.len rfl Try.underlying22 (Reads.sl rfl)) rfl rfl ?_
      refine Runs_p rfl (Valid.call rfl (among_s _ _ (by omega)) ⟨argle_sl (Reads.sl rfl), argle rfl, trivial⟩) rfl rfl ?_
      refine Runs_p rfl (Valid.not rfl rfl) rfl rfl ?_
      refine Runs_nil ?_
      refine thenQ_n ?_
      refine W_cond _ rfl (fun hb2 => ?_) (fun hb2 => ?_)
      · try simp only [decide_eq_false_iff_not, Bool.not_eq_true'] at hb2
        all_goals (
          refine W_seq ?_
          refine W_regionE (c := 13) (c' := 15) (by kernel_rfl) rfl ?_
          refine Runs_p rfl (Valid.assignk (A := Is _) rfl rfl) rfl rfl ?_
          refine Runs_p rfl (Valid.assignk (A := Is _) rfl rfl) rfl rfl ?_
          refine Runs_nil ?_
          refine thenQ_n ?_
          refine W_ret ?_
          refine thenQ_r ?_
          refine finQ_r ?_
          refine ResOk.two rfl (RVal.is rfl rfl (by first | (rw [bt_y (k := k) hok hga (by omega)]; done) | (rw [bt_y (k := k) hok hga (by omega)]; rfl) | (rw [bt_e (by assumption)]; done) | (rw [bt_e (by assumption)]; rfl) | (rw [bt_n (by first | assumption | omega) (by simp_all)]; done) | (rw [bt_n (by first | assumption | omega) (by simp_all)]; rfl))) (RVal.is rfl rfl (by first | (rw [bt_y (k := k) hok hga (by omega)]; done) | (rw [bt_y (k := k) hok hga (by omega)]; rfl) | (rw [bt_e (by assumption)]; done) | (rw [bt_e (by assumption)]; rfl) | (rw [bt_n (by first | assumption | omega) (by simp_all)]; done) | (rw [bt_n (by first | assumption | omega) (by simp_all)]; rfl)))
          done)
      · try simp only [decide_eq_true_eq, Bool.not_eq_false'] at hb2
        all_goals (
          refine W_skip ?_
          refine thenQ_n ?_
          refine W_seq ?_
          have hok : (sndV l).2 = 0 := by first | assumption | omega
          obtain ⟨hl1, hl2, hl3⟩ := snd_good hok
          have hga : ∀ x ∈ g, 0 ≤ x ∧ x < (l.length : Int) := by simp_all
          refine W_regionE (c := 13) (c' := 14) (by kernel_rfl) rfl ?_
          refine Runs_p rfl (Valid.assignk (A := Is _) rfl rfl) rfl rfl ?_
          refine Runs_nil ?_
          refine thenQ_n ?_
          refine W_seq ?_
          refine W_seq ?_
          refine W_regionE (c := 14) (c' := 17) (by kernel_rfl) rfl ?_
          refine Runs_p rfl (Valid.movek (A := Sl 1 _ _) rfl rfl) rfl rfl ?_
          refine Runs_p rfl (Valid.len rfl Try.underlying22 (Reads.sl rfl)) rfl rfl ?_
          refine Runs_p rfl (Valid.movek (A := Is _) rfl rfl) rfl rfl ?_
          refine Runs_nil ?_
          refine thenQ_n ?_
          refine W_block ?_
          refine W_loopx (G := Nat) (fun (k : Nat) => k ≤ g.length) [(0, Sl 1 _ _), (20, Sl 1 _ _), (21, Is _)] (fun (k : Nat) => [(22, Is (.int .i64 (k : Int))), (7, Is (.int .i64 (btS l g k)))]) [] (fun (k : Nat) => []) 17 (fun (k : Nat) => g.length - k) (0) [] (by first | trivial | omega | (simp; omega)) ⟨⟨(leq_is rfl rfl (by first | rfl)), (leq_is rfl rfl (by first | rfl)), trivial⟩, ⟨(leq_sl (Reads.sl rfl) rfl rfl rfl), (leq_sl (Reads.sl rfl) rfl rfl rfl), (leq_is rfl rfl rfl), trivial⟩, trivial, trivial, rfl, ⟨supg rfl, supg rfl, trivial⟩, ⟨supg rfl, supg rfl, supg rfl, trivial⟩, trivial, trivial, rfl, rfl⟩ ?_
          intro k hI1
          refine W_seq ?_
          refine W_regionE (c := 17) (c' := 18) (by kernel_rfl) rfl ?_
          refine Runs_p rfl (Valid.lss rfl rfl rfl) rfl rfl ?_
          refine Runs_nil ?_
          refine thenQ_n ?_
          refine W_seq ?_
          refine W_cond _ rfl (fun hb3 => ?_) (fun hb3 => ?_)
          · try simp only [decide_eq_true_eq] at hb3
            all_goals (
              refine W_skip ?_
              refine thenQ_n ?_
              refine W_seq ?_
              refine W_block ?_
              refine W_seq ?_
              refine W_regionE (c := 18) (c' := 21) (by kernel_rfl) rfl ?_
              refine Runs_p rfl (Valid.eltaddr1 0 rfl Try.underlying22 sz3 (Reads.sl rfl) rfl (by omega) rfl) rfl rfl ?_
              refine Runs_p rfl (Valid.loadelt rfl ag3 rfl) rfl rfl ?_
              refine Runs_p rfl (Valid.assignk (A := Is _) rfl rfl) rfl rfl ?_
              refine Runs_nil ?_
              refine thenQ_n ?_
              have hgk := hga _ (gmem (l := g) (k := k) (by omega))
              have hlk := l_at hl3 (g.getD k 0).toNat
              have hbk := btS_bd (g := g) hl3 k
              have hgj : g.getD (k : Int).toNat 0 = g.getD k 0 := rfl
              refine W_regionE (c := 21) (c' := 28) (by kernel_rfl) rfl ?_
              refine Runs_p rfl (Valid.movek (A := Is _) rfl rfl) rfl rfl ?_
              refine Runs_p rfl (Valid.movek (A := Sl 1 _ _) rfl rfl) rfl rfl ?_
              refine Runs_p rfl (Valid.movek (A := Is _) rfl rfl) rfl rfl ?_
              refine Runs_p rfl (Valid.eltaddr1 0 rfl Try.underlying22 sz3 (Reads.sl rfl) rfl (by omega) rfl) rfl rfl ?_
              refine Runs_p rfl (Valid.loadelt rfl ag3 rfl) rfl rfl ?_
              refine Runs_p rfl (Valid.add rfl rfl rfl (room64 (by first | omega | (simp only [Int.toNat_natCast]; omega)) (by first | omega | (simp only [Int.toNat_natCast]; omega)))) rfl rfl ?_
              refine Runs_p rfl (Valid.assignk (A := Is _) rfl rfl) rfl rfl ?_
              refine Runs_nil ?_
              refine blockQ_n ?_
              refine thenQ_n ?_
              refine W_regionE (c := 28) (c' := 30) (by kernel_rfl) rfl ?_
              refine Runs_p rfl (Valid.add rfl rfl rfl (room64 (by omega) (by omega))) rfl rfl ?_
              refine Runs_p rfl (Valid.movek (A := Is _) rfl rfl) rfl rfl ?_
              refine Runs_nil ?_
              refine LoopQ.next (k + 1) [] (by omega) (by omega) ⟨⟨(leq_is rfl rfl (by first | rfl)), (leq_is rfl rfl (by first | rfl)), trivial⟩, ⟨(leq_sl (Reads.sl rfl) rfl rfl rfl), (leq_sl (Reads.sl rfl) rfl rfl rfl), (leq_is rfl rfl rfl), trivial⟩, trivial, trivial, rfl, ⟨supg rfl, supg rfl, trivial⟩, ⟨supg rfl, supg rfl, supg rfl, trivial⟩, trivial, trivial, rfl, rfl⟩
              done)
          · try simp only [decide_eq_false_iff_not] at hb3
            all_goals (
              refine W_exit ?_
              refine thenQ_e ?_
              refine loopQ_e ?_
              refine blockQ_x ?_
              refine thenQ_n ?_
              refine W_seq ?_
              refine W_regionE (c := 18) (c' := 21) (by kernel_rfl) rfl ?_
              refine Runs_p rfl (Valid.movek (A := Is _) rfl rfl) rfl rfl ?_
              refine Runs_p rfl (Valid.assignk (A := Is _) rfl rfl) rfl rfl ?_
              refine Runs_p rfl (Valid.assignk (A := Is _) rfl rfl) rfl rfl ?_
              refine Runs_nil ?_
              refine thenQ_n ?_
              refine W_ret ?_
              refine finQ_r ?_
              refine ResOk.two rfl (RVal.is rfl rfl (by first | (rw [bt_y (k := k) hok hga (by omega)]; done) | (rw [bt_y (k := k) hok hga (by omega)]; rfl) | (rw [bt_e (by assumption)]; done) | (rw [bt_e (by assumption)]; rfl) | (rw [bt_n (by first | assumption | omega) (by simp_all)]; done) | (rw [bt_n (by first | assumption | omega) (by simp_all)]; rfl))) (RVal.is rfl rfl (by first | (rw [bt_y (k := k) hok hga (by omega)]; done) | (rw [bt_y (k := k) hok hga (by omega)]; rfl) | (rw [bt_e (by assumption)]; done) | (rw [bt_e (by assumption)]; rfl) | (rw [bt_n (by first | assumption | omega) (by simp_all)]; done) | (rw [bt_n (by first | assumption | omega) (by simp_all)]; rfl)))
              done)
          done)
      done)
end Ka
end Go.Proofs.Ytdcenocljnlipaa
