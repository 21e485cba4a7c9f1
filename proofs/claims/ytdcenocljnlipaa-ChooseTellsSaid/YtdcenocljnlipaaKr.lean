/-
  WALKS of stage 11: the reference.
-/
import Derived.Test.YtdcenocljnlipaaRows
import Derived.Test.YtdcenocljnlipaaMgc
import Derived.Test.YtdcenocljnlipaaWa
import Derived.Test.YtdcenocljnlipaaWb
import Derived.Test.YtdcenocljnlipaaWm
import Derived.Test.YtdcenocljnlipaaWc
import Derived.Test.YtdcenocljnlipaaWd
import Derived.Test.YtdcenocljnlipaaWe
import Derived.Test.YtdcenocljnlipaaWf
import Derived.Test.YtdcenocljnlipaaWg
import Derived.Test.YtdcenocljnlipaaWk
import Derived.Test.YtdcenocljnlipaaOa
import Derived.Test.YtdcenocljnlipaaOb
import Derived.Test.YtdcenocljnlipaaOc
import Derived.Test.YtdcenocljnlipaaOd
import Derived.Test.YtdcenocljnlipaaOf
import Derived.Test.YtdcenocljnlipaaOi
import Derived.Test.YtdcenocljnlipaaWh
import Derived.Test.YtdcenocljnlipaaCm
import Derived.Test.YtdcenocljnlipaaKa
import Derived.Test.YtdcenocljnlipaaKb
import Derived.Test.YtdcenocljnlipaaWu
import Derived.Test.YtdcenocljnlipaaKl
import Derived.Test.YtdcenocljnlipaaKc
namespace Go.Proofs.Ytdcenocljnlipaa
open Go.RowKit
namespace Kr
open Ab Wa Wb Wm Wc Wd We Wf Wg Wk Oa Ob Oc Od Of Oi Wh Cm Ka Kb Wu Kl Kc
theorem ag22 (w : World) : (isAgg 22).run Try.prog w = .ok false w := by kernel_rfl
theorem ag3 (w : World) : (isAgg 3).run Try.prog w = .ok false w := by kernel_rfl
theorem sz22 (w : World) : (sizeOf 22).run Try.prog w = .ok 1 w := by kernel_rfl
theorem sz3 (w : World) : (sizeOf 3).run Try.prog w = .ok 1 w := by kernel_rfl
theorem ti22 : TI Try.prog 22 1 24 := .mk' (z := (Value.slice none 0 0)) (by kernel_rfl) rfl
theorem ti3 : TI Try.prog 3 1 8 := .mk' (z := (Value.int .i64 0)) (by kernel_rfl) rfl
theorem tzv3 : (Try.prog.info? 3).map (fun i => (i.zero, i.size, i.bytes)) = some (some ((Value.int .i64) 0), 1, 8) := by kernel_rfl
set_option maxRecDepth 100000 in
set_option maxHeartbeats 1000000 in
theorem rgrps_s (m : List Int) (hl : m.length ≤ 1000000000) :
    FPure Try.prog 14 [Sl 1 m.length (m.map (Value.int .i64))] (SlA 1 (gps m).length ((gps m).map Fl)) := by
  refine FPure.of Try.func14 Try.ntmps14 rfl (by kernel_rfl) rfl rfl rfl ?_
  refine W_seq ?_
  refine W_regionE (c := 1) (c' := 2) (by kernel_rfl) rfl ?_
  refine Runs_p rfl (Valid.assignk (A := Is (.slice none 0 0)) rfl rfl) rfl rfl ?_
  refine Runs_nil ?_
  refine thenQ_n ?_
  refine W_seq ?_
  refine W_regionE (c := 2) (c' := 3) (by kernel_rfl) rfl ?_
  refine Runs_p rfl (Valid.assignk (A := Is (.slice none 0 0)) rfl rfl) rfl rfl ?_
  refine Runs_nil ?_
  refine thenQ_n ?_
  refine W_seq ?_
  refine W_seq ?_
  refine W_regionE (c := 3) (c' := 4) (by kernel_rfl) rfl ?_
  refine Runs_p rfl (Valid.assignk (A := Is _) rfl rfl) rfl rfl ?_
  refine Runs_nil ?_
  refine thenQ_n ?_
  refine W_block ?_
  refine W.ent ?_ (Ent.ownnil 3 22 1 rfl)
  refine W.ent ?_ (Ent.toA 3 32 rfl rfl)
  refine W_loopx (G := Nat) (fun (k : Nat) => k ≤ ng m) [(0, Sl 1 _ _)] (fun (k : Nat) => [(4, Is (.int .i64 (10 * (k : Int)))), (3, OwnA 32 1 k ((gpA m k).map Fl))]) [] (fun (k : Nat) => [(32, .rowA 22 1 k ((gpA m k).map Fl))]) 5 (fun (k : Nat) => ng m - k) (0) [] (by first | trivial | omega | (simp; omega)) ⟨⟨(leq_is rfl rfl (by first | rfl)), (leq_owna rfl rfl rfl (by first | rfl) (by first | rfl)), trivial⟩, ⟨(leq_sl (Reads.sl rfl) rfl rfl rfl), trivial⟩, ⟨hp_rowA rfl (by first | rfl) (by first | rfl), trivial⟩, trivial, rfl, ⟨supg rfl, supg rfl, trivial⟩, ⟨supg rfl, trivial⟩, ⟨suph rfl rfl, trivial⟩, trivial, rfl, rfl⟩ ?_
  intro k hI1
  have hng : ng m = (m.length + 9) / 10 := rfl
  refine W_seq ?_
  refine W_seq ?_
  refine W_regionE (c := 5) (c' := 9) (by kernel_rfl) rfl ?_
  refine Runs_p rfl (Valid.movek (A := Is _) rfl rfl) rfl rfl ?_
  refine Runs_p rfl (Valid.movek (A := Sl 1 _ _) rfl rfl) rfl rfl ?_
  refine Runs_p rfl (Valid.len rfl Try.underlying22 (Reads.sl rfl)) rfl rfl ?_
  refine Runs_p rfl (Valid.lss rfl rfl rfl) rfl rfl ?_
  refine Runs_nil ?_
  refine thenQ_n ?_
  refine W_cond _ rfl (fun hb1 => ?_) (fun hb1 => ?_)
  · try simp only [decide_eq_true_eq] at hb1
    all_goals (
      refine W_skip ?_
      refine thenQ_n ?_
      refine W_seq ?_
      refine W_block ?_
      refine W_regionE (c := 9) (c' := 21) (by kernel_rfl) rfl ?_
      refine Runs_p rfl (Valid.movek (A := OwnA 32 1 _ _) rfl rfl) rfl rfl ?_
      refine Runs_p rfl (Valid.movek (A := Sl 1 _ _) rfl rfl) rfl rfl ?_
      refine Runs_p rfl (Valid.movek (A := Is _) rfl rfl) rfl rfl ?_
      refine Runs_p rfl (Valid.movek (A := Is _) rfl rfl) rfl rfl ?_
      refine Runs_p rfl (Valid.add rfl rfl rfl (room64 (by omega) (by omega))) rfl rfl ?_
      refine Runs_p rfl (Valid.movek (A := Sl 1 _ _) rfl rfl) rfl rfl ?_
      refine Runs_p rfl (Valid.len rfl Try.underlying22 (Reads.sl rfl)) rfl rfl ?_
      refine Runs_p rfl (Valid.min rfl rfl rfl) rfl rfl ?_
      refine Runs_p rfl (Valid.slice1 rfl Try.underlying22 sz3 (Reads.sl rfl) rfl rfl (by refine ⟨?_, ?_, ?_⟩ <;> omega)) rfl rfl ?_
      refine Runs_p rfl (Valid.litA1 (el := 22) rfl (Reads.sl rfl) (fun _ _ _ _ => by kernel_rfl)) rfl rfl ?_
      refine Runs_w rfl (Valid.appA rfl (by intro h; cases h) Try.underlying27 ti22 (by decide) rfl rfl (by decide) (ReadsA.sla rfl) (by first | exact oneA_flat (fun _ => (oneA_cons (One.sl (e := 1) (.sl rfl)) oneA_nil)) _ | exact oneA_map (fun _ => One.sl (e := 1) (.sl rfl)) _ | exact (oneA_cons (One.sl (e := 1) (.sl rfl)) oneA_nil)) (by simp only [maxLen]; omega) (by omega)) rfl rfl ?_
      refine Runs_p rfl (Valid.assignk (A := OwnA 152 1 _ _) rfl rfl) rfl rfl ?_
      refine Runs_nil ?_
      refine blockQ_n ?_
      refine thenQ_n ?_
      refine W_regionE (c := 21) (c' := 24) (by kernel_rfl) rfl ?_
      refine Runs_p rfl (Valid.movek (A := Is _) rfl rfl) rfl rfl ?_
      refine Runs_p rfl (Valid.add rfl rfl rfl (room64 (by omega) (by omega))) rfl rfl ?_
      refine Runs_p rfl (Valid.assignk (A := Is _) rfl rfl) rfl rfl ?_
      refine Runs_nil ?_
      refine LoopQ.next (k + 1) [(32, 152)] (by omega) (by omega) ⟨⟨(leq_is rfl rfl (by first | rfl | exact rg_s (by omega) | exact congrArg (Value.int .i64) (by omega))), (leq_owna rfl rfl rfl (by first | rfl | exact rg_s (by omega) | exact congrArg (Value.int .i64) (by omega)) (by first | rfl | exact rg_s (by omega) | exact congrArg (Value.int .i64) (by omega))), trivial⟩, ⟨(leq_sl (Reads.sl rfl) rfl rfl rfl), trivial⟩, ⟨hp_rowA rfl (by first | rfl | exact rg_s (by omega) | exact congrArg (Value.int .i64) (by omega)) (by first | rfl | exact rg_s (by omega) | exact congrArg (Value.int .i64) (by omega)), trivial⟩, trivial, rfl, ⟨supg rfl, supg rfl, trivial⟩, ⟨supg rfl, trivial⟩, ⟨suph rfl rfl, trivial⟩, trivial, rfl, rfl⟩
      done)
  · try simp only [decide_eq_false_iff_not] at hb1
    all_goals (
      refine W_exit ?_
      refine thenQ_e ?_
      refine loopQ_e ?_
      refine blockQ_x ?_
      refine thenQ_n ?_
      refine W_seq ?_
      refine W_regionE (c := 9) (c' := 11) (by kernel_rfl) rfl ?_
      refine Runs_p rfl (Valid.movek (A := OwnA 32 1 _ _) rfl rfl) rfl rfl ?_
      refine Runs_p rfl (Valid.assignk (A := OwnA 32 1 _ _) rfl rfl) rfl rfl ?_
      refine Runs_nil ?_
      refine thenQ_n ?_
      refine W_ret ?_
      refine finQ_r ?_
      refine ResOk.one rfl (RVal.tmp (argle_sla' (ReadsA.owna rfl) (by first | rfl | (rw [gps, show ng m = k by omega]; done) | (rw [gps, gpA_len]; omega)) (by first | rfl | (rw [gps, show ng m = k by omega]; done) | (rw [gps, gpA_len]; omega))))
      done)

set_option maxRecDepth 100000 in
set_option maxHeartbeats 1000000 in
theorem rnone_s (l : List Int) (n : Int) (hl : l.length ≤ 1000000000000) :
    FPure Try.prog 30 [Sl 1 l.length (l.map (Value.int .i64)), Is (.int .i64 n)] (Is (.bool (!(decide (∀ x ∈ l, 0 ≤ x ∧ x < n))))) := by
  refine FPure.of Try.func30 Try.ntmps30 rfl (by kernel_rfl) rfl rfl rfl ?_
  refine W_seq ?_
  refine W_regionE (c := 1) (c' := 2) (by kernel_rfl) rfl ?_
  refine Runs_p rfl (Valid.assignk (A := Is _) rfl rfl) rfl rfl ?_
  refine Runs_nil ?_
  refine thenQ_n ?_
  refine W_seq ?_
  refine W_seq ?_
  refine W_regionE (c := 2) (c' := 3) (by kernel_rfl) rfl ?_
  refine Runs_p rfl (Valid.assignk (A := Is _) rfl rfl) rfl rfl ?_
  refine Runs_nil ?_
  refine thenQ_n ?_
  refine W_block ?_
  refine W_loopx (G := Nat) (fun (k : Nat) => k ≤ l.length ∧ ∀ j, j < k → 0 ≤ l.getD j 0 ∧ l.getD j 0 < n) [(0, Sl 1 _ _), (1, Is _)] (fun (k : Nat) => [(5, Is (.int .i64 (k : Int)))]) [] (fun (k : Nat) => []) 3 (fun (k : Nat) => l.length - k) (0) [] (⟨by omega, fun j hj => by omega⟩) ⟨⟨(leq_is rfl rfl (by first | rfl | (simp; done) | omega | (simp [toNat_add, toNat_add1, Nat.add_assoc]; done) | (simp [toNat_add, toNat_add1]; omega))), trivial⟩, ⟨(leq_sl (Reads.sl rfl) rfl rfl rfl), (leq_is rfl rfl rfl), trivial⟩, trivial, trivial, rfl, ⟨supg rfl, trivial⟩, ⟨supg rfl, supg rfl, trivial⟩, trivial, trivial, rfl, rfl⟩ ?_
  intro k hI1
  obtain ⟨hk1, hk2⟩ := hI1
  refine W_seq ?_
  refine W_seq ?_
  refine W_regionE (c := 3) (c' := 7) (by kernel_rfl) rfl ?_
  refine Runs_p rfl (Valid.movek (A := Is _) rfl rfl) rfl rfl ?_
  refine Runs_p rfl (Valid.movek (A := Sl 1 _ _) rfl rfl) rfl rfl ?_
  refine Runs_p rfl (Valid.len rfl Try.underlying22 (Reads.sl rfl)) rfl rfl ?_
  refine Runs_p rfl (Valid.lss rfl rfl rfl) rfl rfl ?_
  refine Runs_nil ?_
  refine thenQ_n ?_
  refine W_cond _ rfl (fun hb1 => ?_) (fun hb1 => ?_)
  · try simp only [decide_eq_true_eq] at hb1
    all_goals (
      refine W_skip ?_
      refine thenQ_n ?_
      refine W_seq ?_
      refine W_block ?_
      refine W_seq ?_
      refine W_regionE (c := 7) (c' := 20) (by kernel_rfl) rfl ?_
      refine Runs_p rfl (Valid.movek (A := Sl 1 _ _) rfl rfl) rfl rfl ?_
      refine Runs_p rfl (Valid.movek (A := Is _) rfl rfl) rfl rfl ?_
      refine Runs_p rfl (Valid.eltaddr1 0 rfl Try.underlying22 sz3 (Reads.sl rfl) rfl (by omega) rfl) rfl rfl ?_
      refine Runs_p rfl (Valid.loadelt rfl ag3 rfl) rfl rfl ?_
      refine Runs_p rfl (Valid.lss rfl rfl rfl) rfl rfl ?_
      refine Runs_p rfl (Valid.movek (A := Is _) rfl rfl) rfl rfl ?_
      refine Runs_cnd rfl rfl (Grd.is rfl) [] (fun hg => trivial) (fun hg => Valid.movek (A := Sl 1 _ _) rfl rfl) (by rfl) rfl ?_
      refine Runs_cnd rfl rfl (Grd.is rfl) [] (fun hg => trivial) (fun hg => Valid.movek (A := Is _) rfl rfl) (by rfl) rfl ?_
      refine Runs_cnd rfl rfl (Grd.is rfl) [(18, _), (19, _)] (fun hg => ⟨cnd_at rfl (by first | exact hg | exact hg.1 | exact hg.1.1 | exact hg.1.1.1), cnd_at rfl (by first | exact hg | exact hg.1 | exact hg.1.1 | exact hg.1.1.1), trivial⟩) (fun hg => Valid.eltaddr1 0 rfl Try.underlying22 sz3 (Reads.sl rfl) rfl (by (try simp only [Int.toNat_natCast, decide_eq_false_iff_not] at hg); first | omega | (simp only [Int.toNat_natCast, toNat_add, toNat_add1, List.length_append, List.length_cons, List.length_nil, List.length_replicate]; omega)) rfl) (by rfl) rfl ?_
      refine Runs_cnd rfl rfl (Grd.is rfl) [(20, _)] (fun hg => ⟨cnd_at rfl (by first | exact hg | exact hg.1 | exact hg.1.1 | exact hg.1.1.1), trivial⟩) (fun hg => Valid.loadelt rfl ag3 rfl) (by rfl) rfl ?_
      refine Runs_cnd rfl rfl (Grd.is rfl) [] (fun hg => trivial) (fun hg => Valid.movek (A := Is _) rfl rfl) (by rfl) rfl ?_
      refine Runs_cnd rfl rfl (Grd.is rfl) [(21, _), (22, _)] (fun hg => ⟨cnd_at rfl (by first | exact hg | exact hg.1 | exact hg.1.1 | exact hg.1.1.1), cnd_at rfl (by first | exact hg | exact hg.1 | exact hg.1.1 | exact hg.1.1.1), trivial⟩) (fun hg => Valid.geq rfl rfl rfl) (by rfl) rfl ?_
      refine Runs_p rfl (Valid.pickor rfl rfl rfl rfl (fun h => by first | exact h | exact ⟨hg, h⟩)) rfl rfl ?_
      refine Runs_nil ?_
      refine thenQ_n ?_
      refine W_cond _ rfl (fun hb2 => ?_) (fun hb2 => ?_)
      · try simp only [Int.toNat_natCast, decide_eq_true_eq, Bool.or_eq_true] at hb2
        all_goals (
          refine W_seq ?_
          refine W_regionE (c := 20) (c' := 21) (by kernel_rfl) rfl ?_
          refine Runs_p rfl (Valid.assignk (A := Is _) rfl rfl) rfl rfl ?_
          refine Runs_nil ?_
          refine thenQ_n ?_
          refine W_ret ?_
          refine blockQ_r ?_
          refine thenQ_r ?_
          refine loopQ_r ?_
          refine blockQ_r ?_
          refine thenQ_r ?_
          refine finQ_r ?_
          refine ResOk.one rfl (RVal.is rfl rfl (by first | (rw [decide_eq_true (all_y (k := k) (by omega) hk2)]; rfl) | (rw [decide_eq_false (fun h => by have h1 := h _ (gmem (k := k) (by omega)); have hjj : l.getD (k : Int).toNat 0 = l.getD k 0 := rfl; omega)]; rfl)))
          done)
      · try simp only [Int.toNat_natCast, decide_eq_false_iff_not, Bool.or_eq_false_iff] at hb2
        all_goals (
          refine W_skip ?_
          refine blockQ_n ?_
          refine thenQ_n ?_
          refine W_regionE (c := 20) (c' := 23) (by kernel_rfl) rfl ?_
          refine Runs_p rfl (Valid.movek (A := Is _) rfl rfl) rfl rfl ?_
          refine Runs_p rfl (Valid.add rfl rfl rfl (room64 (by omega) (by omega))) rfl rfl ?_
          refine Runs_p rfl (Valid.assignk (A := Is _) rfl rfl) rfl rfl ?_
          refine Runs_nil ?_
          refine LoopQ.next (k + 1) [] (⟨by omega, fun j hj => by by_cases e : j = k; (· subst e; have hjj : l.getD (j : Int).toNat 0 = l.getD j 0 := rfl; omega); (· exact hk2 j (by omega))⟩) (by omega) ⟨⟨(leq_is rfl rfl (by first | rfl | (simp; done) | omega | (simp [toNat_add, toNat_add1, Nat.add_assoc]; done) | (simp [toNat_add, toNat_add1]; omega))), trivial⟩, ⟨(leq_sl (Reads.sl rfl) rfl rfl rfl), (leq_is rfl rfl rfl), trivial⟩, trivial, trivial, rfl, ⟨supg rfl, trivial⟩, ⟨supg rfl, supg rfl, trivial⟩, trivial, trivial, rfl, rfl⟩
          done)
      done)
  · try simp only [decide_eq_false_iff_not] at hb1
    all_goals (
      refine W_exit ?_
      refine thenQ_e ?_
      refine loopQ_e ?_
      refine blockQ_x ?_
      refine thenQ_n ?_
      refine W_seq ?_
      refine W_regionE (c := 7) (c' := 8) (by kernel_rfl) rfl ?_
      refine Runs_p rfl (Valid.assignk (A := Is _) rfl rfl) rfl rfl ?_
      refine Runs_nil ?_
      refine thenQ_n ?_
      refine W_ret ?_
      refine finQ_r ?_
      refine ResOk.one rfl (RVal.is rfl rfl (by first | (rw [decide_eq_true (all_y (k := k) (by omega) hk2)]; rfl) | (rw [decide_eq_false (fun h => by have h1 := h _ (gmem (k := k) (by omega)); have hjj : l.getD (k : Int).toNat 0 = l.getD k 0 := rfl; omega)]; rfl)))
      done)

set_option maxRecDepth 100000 in
set_option maxHeartbeats 1000000 in
theorem rbits_s (l g : List Int) (hi : In64 l) (hl : l.length ≤ 100000000000) (hg : g.length ≤ 100000000000) :
    FPure Try.prog 19 [Sl 1 l.length (l.map (Value.int .i64)), Sl 1 g.length (g.map (Value.int .i64))] (Tup [Is (.int .i64 (btV l g).1), Is (.int .i64 (btV l g).2)]) := by
  refine FPure.of Try.func19 Try.ntmps19 rfl (by kernel_rfl) rfl rfl rfl ?_
  refine W_seq ?_
  refine W_regionE (c := 1) (c' := 3) (by kernel_rfl) rfl ?_
  refine Runs_p rfl (Valid.assignk (A := Is _) rfl rfl) rfl rfl ?_
  refine Runs_p rfl (Valid.assignk (A := Is _) rfl rfl) rfl rfl ?_
  refine Runs_nil ?_
  refine thenQ_n ?_
  refine W_seq ?_
  refine W_regionE (c := 3) (c' := 6) (by kernel_rfl) rfl ?_
  refine Runs_p rfl (Valid.movek (A := Sl 1 _ _) rfl rfl) rfl rfl ?_
  refine Runs_p rfl (Valid.call rfl (rcheck_s _ (by assumption) (by omega)) ⟨argle_sl (Reads.sl rfl), trivial⟩) rfl rfl ?_
  refine Runs_p rfl (Valid.assignk (A := Is _) rfl rfl) rfl rfl ?_
  refine Runs_nil ?_
  refine thenQ_n ?_
  refine W_seq ?_
  refine W_seq ?_
  refine W_regionE (c := 6) (c' := 8) (by kernel_rfl) rfl ?_
  refine Runs_p rfl (Valid.movek (A := Is _) rfl rfl) rfl rfl ?_
  refine Runs_p rfl (Valid.neq rfl rfl rfl) rfl rfl ?_
  refine Runs_nil ?_
  refine thenQ_n ?_
  refine W_cond _ rfl (fun hb1 => ?_) (fun hb1 => ?_)
  · try simp only [decide_eq_true_eq, ne_eq] at hb1
    all_goals (
      refine W_seq ?_
      refine W_regionE (c := 8) (c' := 11) (by kernel_rfl) rfl ?_
      refine Runs_p rfl (Valid.movek (A := Is _) rfl rfl) rfl rfl ?_
      refine Runs_p rfl (Valid.assignk (A := Is _) rfl rfl) rfl rfl ?_
      refine Runs_p rfl (Valid.assignk (A := Is _) rfl rfl) rfl rfl ?_
      refine Runs_nil ?_
      refine thenQ_n ?_
      refine W_ret ?_
      refine thenQ_r ?_
      refine finQ_r ?_
      refine ResOk.two rfl (RVal.is rfl rfl (by first | (rw [bt_y (k := k) hok hga (by omega)]; done) | (rw [bt_y (k := k) hok hga (by omega)]; rfl) | (rw [bt_e (by assumption)]; done) | (rw [bt_e (by assumption)]; rfl) | (rw [bt_n (by first | assumption | omega) (by simp_all)]; done) | (rw [bt_n (by first | assumption | omega) (by simp_all)]; rfl))) (RVal.is rfl rfl (by first | (rw [bt_y (k := k) hok hga (by omega)]; done) | (rw [bt_y (k := k) hok hga (by omega)]; rfl) | (rw [bt_e (by assumption)]; done) | (rw [bt_e (by assumption)]; rfl) | (rw [bt_n (by first | assumption | omega) (by simp_all)]; done) | (rw [bt_n (by first | assumption | omega) (by simp_all)]; rfl)))
      done)
  · try simp only [decide_eq_false_iff_not, ne_eq] at hb1
    all_goals (
      refine W_skip ?_
      refine thenQ_n ?_
      refine W_seq ?_
      refine W_seq ?_
      refine W_regionE (c := 8) (c' := 12) (by kernel_rfl) rfl ?_
      refine Runs_p rfl (Valid.movek (A := Sl 1 _ _) rfl rfl) rfl rfl ?_
      refine Runs_p rfl (Valid.movek (A := Sl 1 _ _) rfl rfl) rfl rfl ?_
      refine Runs_p rfl (Valid.len rfl Try.underlying22 (Reads.sl rfl)) rfl rfl ?_
      refine Runs_p rfl (Valid.call rfl (rnone_s _ _ (by omega)) ⟨argle_sl (Reads.sl rfl), argle rfl, trivial⟩) rfl rfl ?_
      refine Runs_nil ?_
      refine thenQ_n ?_
      refine W_cond _ rfl (fun hb2 => ?_) (fun hb2 => ?_)
      · try simp only [decide_eq_false_iff_not, Bool.not_eq_true'] at hb2
        all_goals (
          refine W_seq ?_
          refine W_regionE (c := 12) (c' := 14) (by kernel_rfl) rfl ?_
          refine Runs_p rfl (Valid.assignk (A := Is _) rfl rfl) rfl rfl ?_
          refine Runs_p rfl (Valid.assignk (A := Is _) rfl rfl) rfl rfl ?_
          refine Runs_nil ?_
          refine thenQ_n ?_
          refine W_ret ?_
          refine thenQ_r ?_
          refine finQ_r ?_
          refine ResOk.two rfl (RVal.is rfl rfl (by first | (rw [bt_y (k := k) hok hga (by omega)]; done) | (rw [bt_y (k := k) hok hga (by omega)]; rfl) | (rw [bt_e (by assumption)]; done) | (rw [bt_e (by assumption)]; rfl) | (rw [bt_n (by first | assumption | omega) (by simp_all)]; done) | (rw [bt_n (by first | assumption | omega) (by simp_all)]; rfl))) (RVal.is rfl rfl (by first | (rw [bt_y (k := k) hok hga (by omega)]; done) | (rw [bt_y (k := k) hok hga (by omega)]; rfl) | (rw [bt_e (by assumption)]; done) | (rw [bt_e (by assumption)]; rfl) | (rw [bt_n (by first | assumption | omega) (by simp_all)]; done) | (rw [bt_n (by first | assumption | omega) (by simp_all)]; rfl)))
          done)
      · try simp only [decide_eq_true_eq, Bool.not_eq_false'] at hb2
        all_goals (
          refine W_skip ?_
          refine thenQ_n ?_
          refine W_seq ?_
          have hok : (sndV l).2 = 0 := by first | assumption | omega
          obtain ⟨hl1, hl2, hl3⟩ := snd_good hok
          have hga : ∀ x ∈ g, 0 ≤ x ∧ x < (l.length : Int) := by simp_all
          refine W_regionE (c := 12) (c' := 13) (by kernel_rfl) rfl ?_
          refine Runs_p rfl (Valid.assignk (A := Is _) rfl rfl) rfl rfl ?_
          refine Runs_nil ?_
          refine thenQ_n ?_
          refine W_seq ?_
          refine W_seq ?_
          refine W_regionE (c := 13) (c' := 14) (by kernel_rfl) rfl ?_
          refine Runs_p rfl (Valid.assignk (A := Is _) rfl rfl) rfl rfl ?_
          refine Runs_nil ?_
          refine thenQ_n ?_
          refine W_block ?_
          refine W_loopx (G := Nat) (fun (k : Nat) => k ≤ g.length) [(0, Sl 1 _ _), (1, Sl 1 _ _)] (fun (k : Nat) => [(8, Is (.int .i64 (k : Int))), (7, Is (.int .i64 (btS l g k)))]) [] (fun (k : Nat) => []) 14 (fun (k : Nat) => g.length - k) (0) [] (by first | trivial | omega | (simp; omega)) ⟨⟨(leq_is rfl rfl (by first | rfl)), (leq_is rfl rfl (by first | rfl)), trivial⟩, ⟨(leq_sl (Reads.sl rfl) rfl rfl rfl), (leq_sl (Reads.sl rfl) rfl rfl rfl), trivial⟩, trivial, trivial, rfl, ⟨supg rfl, supg rfl, trivial⟩, ⟨supg rfl, supg rfl, trivial⟩, trivial, trivial, rfl, rfl⟩ ?_
          intro k hI1
          refine W_seq ?_
          refine W_seq ?_
          refine W_regionE (c := 14) (c' := 18) (by kernel_rfl) rfl ?_
          refine Runs_p rfl (Valid.movek (A := Is _) rfl rfl) rfl rfl ?_
          refine Runs_p rfl (Valid.movek (A := Sl 1 _ _) rfl rfl) rfl rfl ?_
          refine Runs_p rfl (Valid.len rfl Try.underlying22 (Reads.sl rfl)) rfl rfl ?_
          refine Runs_p rfl (Valid.lss rfl rfl rfl) rfl rfl ?_
          refine Runs_nil ?_
          refine thenQ_n ?_
          refine W_cond _ rfl (fun hb3 => ?_) (fun hb3 => ?_)
          · try simp only [decide_eq_true_eq] at hb3
            all_goals (
              refine W_skip ?_
              refine thenQ_n ?_
              refine W_seq ?_
              refine W_block ?_
              have hgk := hga _ (gmem (l := g) (k := k) (by omega))
              have hlk := l_at hl3 (g.getD k 0).toNat
              have hbk := btS_bd (g := g) hl3 k
              have hgj : g.getD (k : Int).toNat 0 = g.getD k 0 := rfl
              refine W_regionE (c := 18) (c' := 28) (by kernel_rfl) rfl ?_
              refine Runs_p rfl (Valid.movek (A := Is _) rfl rfl) rfl rfl ?_
              refine Runs_p rfl (Valid.movek (A := Sl 1 _ _) rfl rfl) rfl rfl ?_
              refine Runs_p rfl (Valid.movek (A := Sl 1 _ _) rfl rfl) rfl rfl ?_
              refine Runs_p rfl (Valid.movek (A := Is _) rfl rfl) rfl rfl ?_
              refine Runs_p rfl (Valid.eltaddr1 0 rfl Try.underlying22 sz3 (Reads.sl rfl) rfl (by omega) rfl) rfl rfl ?_
              refine Runs_p rfl (Valid.loadelt rfl ag3 rfl) rfl rfl ?_
              refine Runs_p rfl (Valid.eltaddr1 0 rfl Try.underlying22 sz3 (Reads.sl rfl) rfl (by omega) rfl) rfl rfl ?_
              refine Runs_p rfl (Valid.loadelt rfl ag3 rfl) rfl rfl ?_
              refine Runs_p rfl (Valid.add rfl rfl rfl (room64 (by first | omega | (simp only [Int.toNat_natCast]; omega)) (by first | omega | (simp only [Int.toNat_natCast]; omega)))) rfl rfl ?_
              refine Runs_p rfl (Valid.assignk (A := Is _) rfl rfl) rfl rfl ?_
              refine Runs_nil ?_
              refine blockQ_n ?_
              refine thenQ_n ?_
              refine W_regionE (c := 28) (c' := 31) (by kernel_rfl) rfl ?_
              refine Runs_p rfl (Valid.movek (A := Is _) rfl rfl) rfl rfl ?_
              refine Runs_p rfl (Valid.add rfl rfl rfl (room64 (by omega) (by omega))) rfl rfl ?_
              refine Runs_p rfl (Valid.assignk (A := Is _) rfl rfl) rfl rfl ?_
              refine Runs_nil ?_
              refine LoopQ.next (k + 1) [] (by omega) (by omega) ⟨⟨(leq_is rfl rfl (by first | rfl)), (leq_is rfl rfl (by first | rfl)), trivial⟩, ⟨(leq_sl (Reads.sl rfl) rfl rfl rfl), (leq_sl (Reads.sl rfl) rfl rfl rfl), trivial⟩, trivial, trivial, rfl, ⟨supg rfl, supg rfl, trivial⟩, ⟨supg rfl, supg rfl, trivial⟩, trivial, trivial, rfl, rfl⟩
              done)
          · try simp only [decide_eq_false_iff_not] at hb3
            all_goals (
              refine W_exit ?_
              refine thenQ_e ?_
              refine loopQ_e ?_
              refine blockQ_x ?_
              refine thenQ_n ?_
              refine W_seq ?_
              refine W_regionE (c := 18) (c' := 21) (by kernel_rfl) rfl ?_
              refine Runs_p rfl (Valid.movek (A := Is _) rfl rfl) rfl rfl ?_
              refine Runs_p rfl (Valid.assignk (A := Is _) rfl rfl) rfl rfl ?_
              refine Runs_p rfl (Valid.assignk (A := Is _) rfl rfl) rfl rfl ?_
              refine Runs_nil ?_
              refine thenQ_n ?_
              refine W_ret ?_
              refine finQ_r ?_
              refine ResOk.two rfl (RVal.is rfl rfl (by first | (rw [bt_y (k := k) hok hga (by omega)]; done) | (rw [bt_y (k := k) hok hga (by omega)]; rfl) | (rw [bt_e (by assumption)]; done) | (rw [bt_e (by assumption)]; rfl) | (rw [bt_n (by first | assumption | omega) (by simp_all)]; done) | (rw [bt_n (by first | assumption | omega) (by simp_all)]; rfl))) (RVal.is rfl rfl (by first | (rw [bt_y (k := k) hok hga (by omega)]; done) | (rw [bt_y (k := k) hok hga (by omega)]; rfl) | (rw [bt_e (by assumption)]; done) | (rw [bt_e (by assumption)]; rfl) | (rw [bt_n (by first | assumption | omega) (by simp_all)]; done) | (rw [bt_n (by first | assumption | omega) (by simp_all)]; rfl)))
              done)
          done)
      done)

set_option maxRecDepth 100000 in
set_option maxHeartbeats 1000000 in
theorem often_s (m : List Int) (n : Nat) (f : Int) (hn : n ≤ 1000) (hm : ∀ x ∈ m, 0 ≤ x ∧ x < (n : Int)) (hl : m.length ≤ 1000000000) :
    FPure Try.prog 32 [Sl 1 m.length (m.map (Value.int .i64)), Is (.int .i64 (n : Int)), Is (.int .i64 f)] (Sl 1 n ((ctF m n f).map (Value.int .i64))) := by
  refine FPure.of Try.func32 Try.ntmps32 rfl (by kernel_rfl) rfl rfl rfl ?_
  refine W_seq ?_
  refine W_regionE (c := 1) (c' := 2) (by kernel_rfl) rfl ?_
  refine Runs_p rfl (Valid.assignk (A := Is (.slice none 0 0)) rfl rfl) rfl rfl ?_
  refine Runs_nil ?_
  refine thenQ_n ?_
  refine W_seq ?_
  refine W_regionE (c := 2) (c' := 5) (by kernel_rfl) rfl ?_
  refine Runs_p rfl (Valid.movek (A := Is _) rfl rfl) rfl rfl ?_
  refine Runs_w rfl (Valid.makebuf (Value.int .i64) 0 rfl Try.underlying22 tzv3 rfl rfl rfl (by omega) (by omega) (by omega)) rfl rfl ?_
  refine Runs_p rfl (Valid.assignk (A := Buf 24 _) rfl rfl) rfl rfl ?_
  refine Runs_nil ?_
  refine thenQ_n ?_
  refine W_seq ?_
  refine W_seq ?_
  refine W_regionE (c := 5) (c' := 6) (by kernel_rfl) rfl ?_
  refine Runs_p rfl (Valid.assignk (A := Is _) rfl rfl) rfl rfl ?_
  refine Runs_nil ?_
  refine thenQ_n ?_
  refine W_block ?_
  refine W_loopx (G := Nat) (fun (i : Nat) => i ≤ m.length) [(0, Sl 1 _ _), (2, Is _)] (fun (i : Nat) => [(8, Is (.int .i64 (i : Int))), (7, Buf 24 n)]) [] (fun (i : Nat) => [(24, .buf 3 ((oA m n f i).map (Value.int .i64)))]) 6 (fun (i : Nat) => m.length - i) (0) [] (by first | trivial | omega | (simp; omega)) ⟨⟨(leq_is rfl rfl (by first | rfl | omega)), (leq_buf rfl rfl rfl (by first | rfl | omega)), trivial⟩, ⟨(leq_sl (Reads.sl rfl) rfl rfl rfl), (leq_is rfl rfl rfl), trivial⟩, ⟨hp_buf rfl (by first | rfl | omega), trivial⟩, trivial, rfl, ⟨supg rfl, supg rfl, trivial⟩, ⟨supg rfl, supg rfl, trivial⟩, ⟨suph rfl rfl, trivial⟩, trivial, rfl, rfl⟩ ?_
  intro i hI1
  have hol := oA_len m n f i
  refine W_seq ?_
  refine W_seq ?_
  refine W_regionE (c := 6) (c' := 10) (by kernel_rfl) rfl ?_
  refine Runs_p rfl (Valid.movek (A := Is _) rfl rfl) rfl rfl ?_
  refine Runs_p rfl (Valid.movek (A := Sl 1 _ _) rfl rfl) rfl rfl ?_
  refine Runs_p rfl (Valid.len rfl Try.underlying22 (Reads.sl rfl)) rfl rfl ?_
  refine Runs_p rfl (Valid.lss rfl rfl rfl) rfl rfl ?_
  refine Runs_nil ?_
  refine thenQ_n ?_
  refine W_cond _ rfl (fun hb1 => ?_) (fun hb1 => ?_)
  · try simp only [decide_eq_true_eq] at hb1
    all_goals (
      refine W_skip ?_
      refine thenQ_n ?_
      refine W_seq ?_
      refine W_block ?_
      refine W_seq ?_
      refine W_regionE (c := 10) (c' := 15) (by kernel_rfl) rfl ?_
      refine Runs_p rfl (Valid.movek (A := Is _) rfl rfl) rfl rfl ?_
      refine Runs_p rfl (Valid.quo rfl rfl rfl (by omega) (by omega) (room64 (by omega) (by omega))) rfl rfl ?_
      refine Runs_p rfl (Valid.rem rfl rfl rfl (by omega) (by omega)) rfl rfl ?_
      refine Runs_p rfl (Valid.movek (A := Is _) rfl rfl) rfl rfl ?_
      refine Runs_p rfl (Valid.eql rfl rfl rfl) rfl rfl ?_
      refine Runs_nil ?_
      refine thenQ_n ?_
      refine W_cond _ rfl (fun hb2 => ?_) (fun hb2 => ?_)
      · try simp only [decide_eq_true_eq] at hb2
        all_goals (
          have hgm := hm _ (getD_mem' (w := m) (i := i) (by omega))
          have hgj : m.getD (i : Int).toNat 0 = m.getD i 0 := rfl
          have hol := oA_len m n f i
          have hob := oA_bd m n f i _ (getD_mem' (w := oA m n f i) (i := (m.getD i 0).toNat) (by omega))
          simp only [Int.toNat_natCast] at *
          refine W_drawE (c := 15) (c' := 30) (by kernel_rfl) rfl ?_
          refine Runs_p rfl (Valid.movek (A := Buf 24 _) rfl rfl) rfl rfl ?_
          refine Runs_p rfl (Valid.movek (A := Sl 1 _ _) rfl rfl) rfl rfl ?_
          refine Runs_p rfl (Valid.movek (A := Is _) rfl rfl) rfl rfl ?_
          refine Runs_p rfl (Valid.eltaddr1 0 rfl Try.underlying22 sz3 (Reads.sl rfl) rfl (by omega) rfl) rfl rfl ?_
          refine Runs_p rfl (Valid.loadelt rfl ag3 rfl) rfl rfl ?_
          refine Runs_p rfl (Valid.movek (A := Buf 24 _) rfl rfl) rfl rfl ?_
          refine Runs_p rfl (Valid.movek (A := Sl 1 _ _) rfl rfl) rfl rfl ?_
          refine Runs_p rfl (Valid.movek (A := Is _) rfl rfl) rfl rfl ?_
          refine Runs_p rfl (Valid.eltaddr1 0 rfl Try.underlying22 sz3 (Reads.sl rfl) rfl (by omega) rfl) rfl rfl ?_
          refine Runs_p rfl (Valid.loadelt rfl ag3 rfl) rfl rfl ?_
          refine Runs_p rfl (Valid.idxB rfl Try.underlying22 sz3 rfl rfl (by first | omega | (simp only [Int.toNat_natCast]; omega))) rfl rfl ?_
          refine Runs_p rfl (Valid.loadB 0 rfl ag3 rfl rfl (by first | omega | (simp only [Int.toNat_natCast]; omega))) rfl rfl ?_
          refine Runs_p rfl (Valid.add rfl rfl rfl (room64 (by first | omega | (simp only [Int.toNat_natCast]; omega)) (by first | omega | (simp only [Int.toNat_natCast]; omega)))) rfl rfl ?_
          refine Runs_p rfl (Valid.idxB rfl Try.underlying22 sz3 rfl rfl (by first | omega | (simp only [Int.toNat_natCast]; omega))) rfl rfl ?_
          refine Runs_op rfl (Valid.storeB _ rfl sz3 rfl rfl (by first | omega | (simp only [Int.toNat_natCast]; omega)) rfl (One.is rfl rfl rfl)) rfl ?_
          refine Runs_nil ?_
          refine ⟨_, _, rfl, rfl, by kernel_rfl, ?_⟩
          refine blockQ_n ?_
          refine thenQ_n ?_
          refine W_regionE (c := 30) (c' := 33) (by kernel_rfl) rfl ?_
          refine Runs_p rfl (Valid.movek (A := Is _) rfl rfl) rfl rfl ?_
          refine Runs_p rfl (Valid.add rfl rfl rfl (room64 (by omega) (by omega))) rfl rfl ?_
          refine Runs_p rfl (Valid.assignk (A := Is _) rfl rfl) rfl rfl ?_
          refine Runs_nil ?_
          refine LoopQ.next (i + 1) [] (by omega) (by omega) ⟨⟨(leq_is rfl rfl (by first | rfl | omega | (rw [← oA_y (by omega)]; rfl) | (rw [← oA_n (by omega)]; done))), (leq_buf rfl rfl rfl (by first | rfl | omega | (rw [← oA_y (by omega)]; rfl) | (rw [← oA_n (by omega)]; done))), trivial⟩, ⟨(leq_sl (Reads.sl rfl) rfl rfl rfl), (leq_is rfl rfl rfl), trivial⟩, ⟨hp_buf rfl (by first | rfl | omega | (rw [← oA_y (by omega)]; rfl) | (rw [← oA_n (by omega)]; done)), trivial⟩, trivial, rfl, ⟨supg rfl, supg rfl, trivial⟩, ⟨supg rfl, supg rfl, trivial⟩, ⟨suph rfl rfl, trivial⟩, trivial, rfl, rfl⟩
          done)
      · try simp only [decide_eq_false_iff_not] at hb2
        all_goals (
          refine W_skip ?_
          refine blockQ_n ?_
          refine thenQ_n ?_
          refine W_regionE (c := 15) (c' := 18) (by kernel_rfl) rfl ?_
          refine Runs_p rfl (Valid.movek (A := Is _) rfl rfl) rfl rfl ?_
          refine Runs_p rfl (Valid.add rfl rfl rfl (room64 (by omega) (by omega))) rfl rfl ?_
          refine Runs_p rfl (Valid.assignk (A := Is _) rfl rfl) rfl rfl ?_
          refine Runs_nil ?_
          refine LoopQ.next (i + 1) [] (by omega) (by omega) ⟨⟨(leq_is rfl rfl (by first | rfl | omega | (rw [← oA_y (by omega)]; rfl) | (rw [← oA_n (by omega)]; done))), (leq_buf rfl rfl rfl (by first | rfl | omega | (rw [← oA_y (by omega)]; rfl) | (rw [← oA_n (by omega)]; done))), trivial⟩, ⟨(leq_sl (Reads.sl rfl) rfl rfl rfl), (leq_is rfl rfl rfl), trivial⟩, ⟨hp_buf rfl (by first | rfl | omega | (rw [← oA_y (by omega)]; rfl) | (rw [← oA_n (by omega)]; done)), trivial⟩, trivial, rfl, ⟨supg rfl, supg rfl, trivial⟩, ⟨supg rfl, supg rfl, trivial⟩, ⟨suph rfl rfl, trivial⟩, trivial, rfl, rfl⟩
          done)
      done)
  · try simp only [decide_eq_false_iff_not] at hb1
    all_goals (
      refine W_exit ?_
      refine thenQ_e ?_
      refine loopQ_e ?_
      refine blockQ_x ?_
      refine thenQ_n ?_
      refine W_seq ?_
      refine W_regionE (c := 10) (c' := 12) (by kernel_rfl) rfl ?_
      refine Runs_p rfl (Valid.movek (A := Buf 24 _) rfl rfl) rfl rfl ?_
      refine Runs_p rfl (Valid.assignk (A := Buf 24 _) rfl rfl) rfl rfl ?_
      refine Runs_nil ?_
      refine thenQ_n ?_
      refine W.ent ?_ (Ent.freezeBuf 6 24 _ rfl rfl (by first | (rw [List.length_map, oA_len]; done) | (rw [List.length_map, oA_len]; omega)))
      refine W_ret ?_
      refine finQ_r ?_
      refine ResOk.one rfl (RVal.sl (Reads.sl rfl) rfl (by first | rfl | omega | (rw [← oA_all, show m.length = i by omega]; done)) (by first | rfl | omega | (rw [← oA_all, show m.length = i by omega]; done)))
      done)

theorem rln_n {w : List Int} {n : Nat} {most : Int} {xs : List Value} (hn : n = w.length) (hx : xs = w.map (Value.int .i64)) (hl : w.length ≤ 1000) : FPure Try.prog 31 [Sl 1 n xs, Is (.int .i64 most)] (Tup [Sl 1 (lnV w most).1.length ((lnV w most).1.map (Value.int .i64)), Is (.int .i64 (lnV w most).2)]) := by
  subst hn hx
  exact rlengths_s w most hl

theorem rbits_n {l g x : List Int} (hi : In64 l) (hl : l.length ≤ 100000000000) (hg : g.length ≤ 100000000000) (hx : x = g) : FPure Try.prog 19 [Sl 1 l.length (l.map (Value.int .i64)), Sl 1 x.length (x.map (Value.int .i64))] (Tup [Is (.int .i64 (btV l g).1), Is (.int .i64 (btV l g).2)]) := by
  subst hx
  exact rbits_s l x hi hl hg

set_option maxRecDepth 100000 in
set_option maxHeartbeats 1000000 in
theorem rtables_s (m : List Int) (x : Int) (hl : m.length ≤ 1000000000) :
    FPure Try.prog 16 [Sl 1 m.length (m.map (Value.int .i64)), Is (.int .i64 x)] (Tup [SlA 1 (tbV m x).1.length ((tbV m x).1.map Fl), Sl 1 (tbV m x).2.1.length ((tbV m x).2.1.map (Value.int .i64)), Is (.int .i64 (tbV m x).2.2)]) := by
  refine FPure.of Try.func16 Try.ntmps16 rfl (by kernel_rfl) rfl rfl rfl ?_
  refine W_seq ?_
  refine W_regionE (c := 1) (c' := 4) (by kernel_rfl) rfl ?_
  refine Runs_p rfl (Valid.assignk (A := Is (.slice none 0 0)) rfl rfl) rfl rfl ?_
  refine Runs_p rfl (Valid.assignk (A := Is (.slice none 0 0)) rfl rfl) rfl rfl ?_
  refine Runs_p rfl (Valid.assignk (A := Is _) rfl rfl) rfl rfl ?_
  refine Runs_nil ?_
  refine thenQ_n ?_
  refine W_seq ?_
  refine W_seq ?_
  refine W_regionE (c := 4) (c' := 20) (by kernel_rfl) rfl ?_
  refine Runs_p rfl (Valid.movek (A := Is _) rfl rfl) rfl rfl ?_
  refine Runs_p rfl (Valid.lss rfl rfl rfl) rfl rfl ?_
  refine Runs_p rfl (Valid.movek (A := Is _) rfl rfl) rfl rfl ?_
  refine Runs_cnd rfl rfl (Grd.is rfl) [] (fun hg => trivial) (fun hg => Valid.movek (A := Is _) rfl rfl) (by rfl) rfl ?_
  refine Runs_cnd rfl rfl (Grd.is rfl) [(21, _)] (fun hg => ⟨cnd_at rfl (by first | exact hg | exact hg.1 | exact hg.1.1 | exact hg.1.1.1), trivial⟩) (fun hg => Valid.gtr rfl rfl rfl) (by rfl) rfl ?_
  refine Runs_p rfl (Valid.pickor rfl rfl rfl rfl (fun h => by first | exact h | exact ⟨hg, h⟩)) rfl rfl ?_
  refine Runs_p rfl (Valid.movek (A := Is _) rfl rfl) rfl rfl ?_
  refine Runs_cnd rfl rfl (Grd.is rfl) [] (fun hg => trivial) (fun hg => Valid.movek (A := Sl 1 _ _) rfl rfl) (by rfl) rfl ?_
  refine Runs_cnd rfl rfl (Grd.is rfl) [(25, _)] (fun hg => ⟨cnd_at rfl (by first | exact hg | exact hg.1 | exact hg.1.1 | exact hg.1.1.1), trivial⟩) (fun hg => Valid.len rfl Try.underlying22 (Reads.sl rfl)) (by rfl) rfl ?_
  refine Runs_cnd rfl rfl (Grd.is rfl) [(26, _)] (fun hg => ⟨cnd_at rfl (by first | exact hg | exact hg.1 | exact hg.1.1 | exact hg.1.1.1), trivial⟩) (fun hg => Valid.eql rfl rfl rfl) (by rfl) rfl ?_
  refine Runs_p rfl (Valid.pickor rfl rfl rfl rfl (fun h => by first | exact h | exact ⟨hg, h⟩)) rfl rfl ?_
  refine Runs_p rfl (Valid.movek (A := Is _) rfl rfl) rfl rfl ?_
  refine Runs_cnd rfl rfl (Grd.is rfl) [] (fun hg => trivial) (fun hg => Valid.movek (A := Sl 1 _ _) rfl rfl) (by rfl) rfl ?_
  refine Runs_cnd rfl rfl (Grd.is rfl) [(30, _)] (fun hg => ⟨cnd_at rfl (by first | exact hg | exact hg.1 | exact hg.1.1 | exact hg.1.1.1), trivial⟩) (fun hg => Valid.len rfl Try.underlying22 (Reads.sl rfl)) (by rfl) rfl ?_
  refine Runs_cnd rfl rfl (Grd.is rfl) [(31, _)] (fun hg => ⟨cnd_at rfl (by first | exact hg | exact hg.1 | exact hg.1.1 | exact hg.1.1.1), trivial⟩) (fun hg => Valid.gtr rfl rfl rfl) (by rfl) rfl ?_
  refine Runs_p rfl (Valid.pickor rfl rfl rfl rfl (fun h => by first | exact h | exact ⟨hg, h⟩)) rfl rfl ?_
  refine Runs_nil ?_
  refine thenQ_n ?_
  refine W_cond _ rfl (fun hb1 => ?_) (fun hb1 => ?_)
  · try simp only [decide_eq_true_eq, Bool.or_eq_true] at hb1
    all_goals (
      refine W_seq ?_
      refine W_regionE (c := 20) (c' := 23) (by kernel_rfl) rfl ?_
      refine Runs_p rfl (Valid.assignk (A := Is (.slice none 0 0)) rfl rfl) rfl rfl ?_
      refine Runs_p rfl (Valid.assignk (A := Is (.slice none 0 0)) rfl rfl) rfl rfl ?_
      refine Runs_p rfl (Valid.assignk (A := Is _) rfl rfl) rfl rfl ?_
      refine Runs_nil ?_
      refine thenQ_n ?_
      refine W_ret ?_
      refine thenQ_r ?_
      refine finQ_r ?_
      refine ResOk.three rfl (RVal.tmp (argle_sla' (ReadsA.nil rfl) (by first | rfl | (rw [tb_e (fun h => by obtain ⟨a1, a2, a3, a4⟩ := h; have a5 := List.length_pos_iff.2 a3; omega)]; done) | (rw [tb_e (fun h => by obtain ⟨a1, a2, a3, a4⟩ := h; have a5 := List.length_pos_iff.2 a3; omega)]; rfl) | (rw [tb_n hok (by simp_all)]; done) | (rw [tb_n hok (by simp_all)]; rfl) | (rw [tb_y hok hga]; done) | (rw [tb_y hok hga]; rfl) | (rw [tb_y hok hga]; show i = (chA m n (ng m)).length; rw [chA_len]; omega) | (rw [tb_y hok hga]; show _ = (chA m n (ng m)).map _; rw [show ng m = i by omega])) (by first | rfl | (rw [tb_e (fun h => by obtain ⟨a1, a2, a3, a4⟩ := h; have a5 := List.length_pos_iff.2 a3; omega)]; done) | (rw [tb_e (fun h => by obtain ⟨a1, a2, a3, a4⟩ := h; have a5 := List.length_pos_iff.2 a3; omega)]; rfl) | (rw [tb_n hok (by simp_all)]; done) | (rw [tb_n hok (by simp_all)]; rfl) | (rw [tb_y hok hga]; done) | (rw [tb_y hok hga]; rfl) | (rw [tb_y hok hga]; show i = (chA m n (ng m)).length; rw [chA_len]; omega) | (rw [tb_y hok hga]; show _ = (chA m n (ng m)).map _; rw [show ng m = i by omega])))) (RVal.sl (Reads.nil rfl) rfl (by first | rfl | (rw [tb_e (fun h => by obtain ⟨a1, a2, a3, a4⟩ := h; have a5 := List.length_pos_iff.2 a3; omega)]; done) | (rw [tb_e (fun h => by obtain ⟨a1, a2, a3, a4⟩ := h; have a5 := List.length_pos_iff.2 a3; omega)]; rfl) | (rw [tb_n hok (by simp_all)]; done) | (rw [tb_n hok (by simp_all)]; rfl) | (rw [tb_y hok hga]; done) | (rw [tb_y hok hga]; rfl) | (rw [tb_y hok hga]; show i = (chA m n (ng m)).length; rw [chA_len]; omega) | (rw [tb_y hok hga]; show _ = (chA m n (ng m)).map _; rw [show ng m = i by omega])) (by first | rfl | (rw [tb_e (fun h => by obtain ⟨a1, a2, a3, a4⟩ := h; have a5 := List.length_pos_iff.2 a3; omega)]; done) | (rw [tb_e (fun h => by obtain ⟨a1, a2, a3, a4⟩ := h; have a5 := List.length_pos_iff.2 a3; omega)]; rfl) | (rw [tb_n hok (by simp_all)]; done) | (rw [tb_n hok (by simp_all)]; rfl) | (rw [tb_y hok hga]; done) | (rw [tb_y hok hga]; rfl) | (rw [tb_y hok hga]; show i = (chA m n (ng m)).length; rw [chA_len]; omega) | (rw [tb_y hok hga]; show _ = (chA m n (ng m)).map _; rw [show ng m = i by omega]))) (RVal.is rfl rfl (by first | rfl | (rw [tb_e (fun h => by obtain ⟨a1, a2, a3, a4⟩ := h; have a5 := List.length_pos_iff.2 a3; omega)]; done) | (rw [tb_e (fun h => by obtain ⟨a1, a2, a3, a4⟩ := h; have a5 := List.length_pos_iff.2 a3; omega)]; rfl) | (rw [tb_n hok (by simp_all)]; done) | (rw [tb_n hok (by simp_all)]; rfl) | (rw [tb_y hok hga]; done) | (rw [tb_y hok hga]; rfl) | (rw [tb_y hok hga]; show i = (chA m n (ng m)).length; rw [chA_len]; omega) | (rw [tb_y hok hga]; show _ = (chA m n (ng m)).map _; rw [show ng m = i by omega])))
      done)
  · try simp only [decide_eq_false_iff_not, Bool.or_eq_false_iff] at hb1
    all_goals (
      refine W_skip ?_
      refine thenQ_n ?_
      refine W_seq ?_
      refine W_seq ?_
      obtain ⟨n, rfl⟩ : ∃ n : Nat, x = (n : Int) := ⟨x.toNat, by omega⟩
      have hok : okT m n := ⟨by omega, by omega, fun h => by (have h9 := congrArg List.length h; rw [List.length_nil] at h9; omega), by omega⟩
      refine W_regionE (c := 20) (c' := 23) (by kernel_rfl) rfl ?_
      refine Runs_p rfl (Valid.movek (A := Sl 1 _ _) rfl rfl) rfl rfl ?_
      refine Runs_p rfl (Valid.movek (A := Is _) rfl rfl) rfl rfl ?_
      refine Runs_p rfl (Valid.call rfl (rnone_s _ _ (by omega)) ⟨argle_sl (Reads.sl rfl), argle rfl, trivial⟩) rfl rfl ?_
      refine Runs_nil ?_
      refine thenQ_n ?_
      refine W_cond _ rfl (fun hb2 => ?_) (fun hb2 => ?_)
      · try simp only [decide_eq_false_iff_not, Bool.not_eq_true'] at hb2
        all_goals (
          refine W_seq ?_
          refine W_regionE (c := 23) (c' := 26) (by kernel_rfl) rfl ?_
          refine Runs_p rfl (Valid.assignk (A := Is (.slice none 0 0)) rfl rfl) rfl rfl ?_
          refine Runs_p rfl (Valid.assignk (A := Is (.slice none 0 0)) rfl rfl) rfl rfl ?_
          refine Runs_p rfl (Valid.assignk (A := Is _) rfl rfl) rfl rfl ?_
          refine Runs_nil ?_
          refine thenQ_n ?_
          refine W_ret ?_
          refine thenQ_r ?_
          refine finQ_r ?_
          refine ResOk.three rfl (RVal.tmp (argle_sla' (ReadsA.nil rfl) (by first | rfl | (rw [tb_e (fun h => by obtain ⟨a1, a2, a3, a4⟩ := h; have a5 := List.length_pos_iff.2 a3; omega)]; done) | (rw [tb_e (fun h => by obtain ⟨a1, a2, a3, a4⟩ := h; have a5 := List.length_pos_iff.2 a3; omega)]; rfl) | (rw [tb_n hok (by simp_all)]; done) | (rw [tb_n hok (by simp_all)]; rfl) | (rw [tb_y hok hga]; done) | (rw [tb_y hok hga]; rfl) | (rw [tb_y hok hga]; show i = (chA m n (ng m)).length; rw [chA_len]; omega) | (rw [tb_y hok hga]; show _ = (chA m n (ng m)).map _; rw [show ng m = i by omega])) (by first | rfl | (rw [tb_e (fun h => by obtain ⟨a1, a2, a3, a4⟩ := h; have a5 := List.length_pos_iff.2 a3; omega)]; done) | (rw [tb_e (fun h => by obtain ⟨a1, a2, a3, a4⟩ := h; have a5 := List.length_pos_iff.2 a3; omega)]; rfl) | (rw [tb_n hok (by simp_all)]; done) | (rw [tb_n hok (by simp_all)]; rfl) | (rw [tb_y hok hga]; done) | (rw [tb_y hok hga]; rfl) | (rw [tb_y hok hga]; show i = (chA m n (ng m)).length; rw [chA_len]; omega) | (rw [tb_y hok hga]; show _ = (chA m n (ng m)).map _; rw [show ng m = i by omega])))) (RVal.sl (Reads.nil rfl) rfl (by first | rfl | (rw [tb_e (fun h => by obtain ⟨a1, a2, a3, a4⟩ := h; have a5 := List.length_pos_iff.2 a3; omega)]; done) | (rw [tb_e (fun h => by obtain ⟨a1, a2, a3, a4⟩ := h; have a5 := List.length_pos_iff.2 a3; omega)]; rfl) | (rw [tb_n hok (by simp_all)]; done) | (rw [tb_n hok (by simp_all)]; rfl) | (rw [tb_y hok hga]; done) | (rw [tb_y hok hga]; rfl) | (rw [tb_y hok hga]; show i = (chA m n (ng m)).length; rw [chA_len]; omega) | (rw [tb_y hok hga]; show _ = (chA m n (ng m)).map _; rw [show ng m = i by omega])) (by first | rfl | (rw [tb_e (fun h => by obtain ⟨a1, a2, a3, a4⟩ := h; have a5 := List.length_pos_iff.2 a3; omega)]; done) | (rw [tb_e (fun h => by obtain ⟨a1, a2, a3, a4⟩ := h; have a5 := List.length_pos_iff.2 a3; omega)]; rfl) | (rw [tb_n hok (by simp_all)]; done) | (rw [tb_n hok (by simp_all)]; rfl) | (rw [tb_y hok hga]; done) | (rw [tb_y hok hga]; rfl) | (rw [tb_y hok hga]; show i = (chA m n (ng m)).length; rw [chA_len]; omega) | (rw [tb_y hok hga]; show _ = (chA m n (ng m)).map _; rw [show ng m = i by omega]))) (RVal.is rfl rfl (by first | rfl | (rw [tb_e (fun h => by obtain ⟨a1, a2, a3, a4⟩ := h; have a5 := List.length_pos_iff.2 a3; omega)]; done) | (rw [tb_e (fun h => by obtain ⟨a1, a2, a3, a4⟩ := h; have a5 := List.length_pos_iff.2 a3; omega)]; rfl) | (rw [tb_n hok (by simp_all)]; done) | (rw [tb_n hok (by simp_all)]; rfl) | (rw [tb_y hok hga]; done) | (rw [tb_y hok hga]; rfl) | (rw [tb_y hok hga]; show i = (chA m n (ng m)).length; rw [chA_len]; omega) | (rw [tb_y hok hga]; show _ = (chA m n (ng m)).map _; rw [show ng m = i by omega])))
          done)
      · try simp only [decide_eq_true_eq, Bool.not_eq_false'] at hb2
        all_goals (
          refine W_skip ?_
          refine thenQ_n ?_
          refine W_seq ?_
          have hga : ∀ x ∈ m, 0 ≤ x ∧ x < (n : Int) := by simp_all
          refine W_regionE (c := 23) (c' := 32) (by kernel_rfl) rfl ?_
          refine Runs_p rfl (Valid.movek (A := Sl 1 _ _) rfl rfl) rfl rfl ?_
          refine Runs_p rfl (Valid.movek (A := Is _) rfl rfl) rfl rfl ?_
          refine Runs_p rfl (Valid.call rfl (often_s m n 0 (by omega) hga (by omega)) ⟨argle_sl (Reads.sl rfl), argle rfl, argle rfl, trivial⟩) rfl rfl ?_
          refine Runs_p rfl (Valid.call rfl (rln_n (w := ctF m n 0) (by rw [ctF_len]) rfl (by rw [ctF_len]; omega)) ⟨argle_sl (Reads.sl rfl), argle rfl, trivial⟩) rfl rfl ?_
          refine Runs_p rfl (Valid.movek (A := Tup [Sl 1 _ _, Is _]) rfl rfl) rfl rfl ?_
          refine Runs_p rfl (Valid.extract _ rfl rfl rfl) rfl rfl ?_
          refine Runs_p rfl (Valid.extract _ rfl rfl rfl) rfl rfl ?_
          refine Runs_p rfl (Valid.assignk (A := Sl 1 _ _) rfl rfl) rfl rfl ?_
          refine Runs_p rfl (Valid.assignk (A := Is _) rfl rfl) rfl rfl ?_
          refine Runs_nil ?_
          refine thenQ_n ?_
          refine W_seq ?_
          refine W_regionE (c := 32) (c' := 41) (by kernel_rfl) rfl ?_
          refine Runs_p rfl (Valid.movek (A := Sl 1 _ _) rfl rfl) rfl rfl ?_
          refine Runs_p rfl (Valid.movek (A := Is _) rfl rfl) rfl rfl ?_
          refine Runs_p rfl (Valid.call rfl (often_s m n 1 (by omega) hga (by omega)) ⟨argle_sl (Reads.sl rfl), argle rfl, argle rfl, trivial⟩) rfl rfl ?_
          refine Runs_p rfl (Valid.call rfl (rln_n (w := ctF m n 1) (by rw [ctF_len]) rfl (by rw [ctF_len]; omega)) ⟨argle_sl (Reads.sl rfl), argle rfl, trivial⟩) rfl rfl ?_
          refine Runs_p rfl (Valid.movek (A := Tup [Sl 1 _ _, Is _]) rfl rfl) rfl rfl ?_
          refine Runs_p rfl (Valid.extract _ rfl rfl rfl) rfl rfl ?_
          refine Runs_p rfl (Valid.extract _ rfl rfl rfl) rfl rfl ?_
          refine Runs_p rfl (Valid.assignk (A := Sl 1 _ _) rfl rfl) rfl rfl ?_
          refine Runs_p rfl (Valid.assignk (A := Is _) rfl rfl) rfl rfl ?_
          refine Runs_nil ?_
          refine thenQ_n ?_
          refine W_seq ?_
          have hl0 : (tb m n 0).length ≤ 258 := lnV_len' _ _
          have hl1 : (tb m n 1).length ≤ 258 := lnV_len' _ _
          have hi0 : In64 (tb m n 0) := lnV_in _ _
          have hi1 : In64 (tb m n 1) := lnV_in _ _
          have hng : ng m = (m.length + 9) / 10 := rfl
          have hgl : (gps m).length = ng m := gpA_len m _
          rw [show (lnV (ctF m n 0) 20).1 = tb m n 0 from rfl, show (lnV (ctF m n 1) 20).1 = tb m n 1 from rfl]
          refine W_regionE (c := 41) (c' := 44) (by kernel_rfl) rfl ?_
          refine Runs_p rfl (Valid.movek (A := Sl 1 _ _) rfl rfl) rfl rfl ?_
          refine Runs_p rfl (Valid.call rfl (rgrps_s _ (by omega)) ⟨argle_sl (Reads.sl rfl), trivial⟩) rfl rfl ?_
          refine Runs_p rfl (Valid.assignk (A := SlA 1 _ _) rfl rfl) rfl rfl ?_
          refine Runs_nil ?_
          refine thenQ_n ?_
          refine W_seq ?_
          refine W_regionE (c := 44) (c' := 45) (by kernel_rfl) rfl ?_
          refine Runs_p rfl (Valid.assignk (A := Is (.slice none 0 0)) rfl rfl) rfl rfl ?_
          refine Runs_nil ?_
          refine thenQ_n ?_
          refine W_seq ?_
          refine W_seq ?_
          refine W_regionE (c := 45) (c' := 46) (by kernel_rfl) rfl ?_
          refine Runs_p rfl (Valid.assignk (A := Is _) rfl rfl) rfl rfl ?_
          refine Runs_nil ?_
          refine thenQ_n ?_
          refine W_block ?_
          refine W.ent ?_ (Ent.ownnil 12 3 1 rfl)
          refine W_loopx (G := Nat) (fun (i : Nat) => i ≤ ng m) [(7, Sl 1 _ _), (9, Sl 1 _ _), (11, SlA 1 _ _)] (fun (i : Nat) => [(13, Is (.int .i64 (i : Int))), (12, Ab.Own 368 1 i ((chA m n i).map (Value.int .i64)))]) [] (fun (i : Nat) => [(368, .row 3 1 i ((chA m n i).map (Value.int .i64)))]) 47 (fun (i : Nat) => ng m - i) (0) [] (by first | trivial | omega | (simp; omega)) ⟨⟨(leq_is rfl rfl (by first | rfl)), (leq_own rfl rfl rfl (by first | rfl) (by first | rfl)), trivial⟩, ⟨(leq_sl (Reads.sl rfl) rfl rfl rfl), (leq_sl (Reads.sl rfl) rfl rfl rfl), (leq_sla (ReadsA.sla rfl) rfl rfl rfl), trivial⟩, ⟨hp_row rfl (by first | rfl) (by first | rfl), trivial⟩, trivial, rfl, ⟨supg rfl, supg rfl, trivial⟩, ⟨supg rfl, supg rfl, supg rfl, trivial⟩, ⟨suph rfl rfl, trivial⟩, trivial, rfl, rfl⟩ ?_
          intro i hI1
          refine W_seq ?_
          refine W_seq ?_
          refine W_regionE (c := 47) (c' := 51) (by kernel_rfl) rfl ?_
          refine Runs_p rfl (Valid.movek (A := Is _) rfl rfl) rfl rfl ?_
          refine Runs_p rfl (Valid.movek (A := SlA 1 _ _) rfl rfl) rfl rfl ?_
          refine Runs_p rfl (Valid.lenA rfl Try.underlying27 (ReadsA.sla rfl)) rfl rfl ?_
          refine Runs_p rfl (Valid.lss rfl rfl rfl) rfl rfl ?_
          refine Runs_nil ?_
          refine thenQ_n ?_
          refine W_cond _ rfl (fun hb3 => ?_) (fun hb3 => ?_)
          · try simp only [decide_eq_true_eq] at hb3
            all_goals (
              refine W_skip ?_
              refine thenQ_n ?_
              refine W_seq ?_
              refine W_block ?_
              refine W_seq ?_
              have hgi : (gps m).getD (i : Int).toNat [] = gp m i := by
                rw [Int.toNat_natCast, gps, gpA, List.getD_eq_getElem?_getD, List.getElem?_map, List.getElem?_range (by omega)]; rfl
              have hg1 := gp_1 (m := m) (k := i) (by omega)
              refine W_regionE (c := 51) (c' := 62) (by kernel_rfl) rfl ?_
              refine Runs_p rfl (Valid.movek (A := Sl 1 _ _) rfl rfl) rfl rfl ?_
              refine Runs_p rfl (Valid.movek (A := SlA 1 _ _) rfl rfl) rfl rfl ?_
              refine Runs_p rfl (Valid.movek (A := Is _) rfl rfl) rfl rfl ?_
              refine Runs_p rfl (Valid.eltM (F := Fl) [] rfl Try.underlying27 sz22 (ReadsA.sla rfl) rfl (by omega) rfl) rfl rfl ?_
              refine Runs_p rfl (Valid.loadeltSl rfl ag22 rfl rfl) rfl rfl ?_
              refine Runs_p rfl (Valid.call rfl (rbits_n (l := tb m n 0) (g := gp m i) hi0 (by omega) (by omega) hgi) ⟨argle_sl (Reads.sl rfl), argle_sl (Reads.sl rfl), trivial⟩) rfl rfl ?_
              refine Runs_p rfl (Valid.movek (A := Tup [Is _, Is _]) rfl rfl) rfl rfl ?_
              refine Runs_p rfl (Valid.extract _ rfl rfl rfl) rfl rfl ?_
              refine Runs_p rfl (Valid.extract _ rfl rfl rfl) rfl rfl ?_
              refine Runs_p rfl (Valid.assignk (A := Is _) rfl rfl) rfl rfl ?_
              refine Runs_p rfl (Valid.assignk (A := Is _) rfl rfl) rfl rfl ?_
              refine Runs_nil ?_
              refine thenQ_n ?_
              refine W_seq ?_
              refine W_regionE (c := 62) (c' := 73) (by kernel_rfl) rfl ?_
              refine Runs_p rfl (Valid.movek (A := Sl 1 _ _) rfl rfl) rfl rfl ?_
              refine Runs_p rfl (Valid.movek (A := SlA 1 _ _) rfl rfl) rfl rfl ?_
              refine Runs_p rfl (Valid.movek (A := Is _) rfl rfl) rfl rfl ?_
              refine Runs_p rfl (Valid.eltM (F := Fl) [] rfl Try.underlying27 sz22 (ReadsA.sla rfl) rfl (by omega) rfl) rfl rfl ?_
              refine Runs_p rfl (Valid.loadeltSl rfl ag22 rfl rfl) rfl rfl ?_
              refine Runs_p rfl (Valid.call rfl (rbits_n (l := tb m n 1) (g := gp m i) hi1 (by omega) (by omega) hgi) ⟨argle_sl (Reads.sl rfl), argle_sl (Reads.sl rfl), trivial⟩) rfl rfl ?_
              refine Runs_p rfl (Valid.movek (A := Tup [Is _, Is _]) rfl rfl) rfl rfl ?_
              refine Runs_p rfl (Valid.extract _ rfl rfl rfl) rfl rfl ?_
              refine Runs_p rfl (Valid.extract _ rfl rfl rfl) rfl rfl ?_
              refine Runs_p rfl (Valid.assignk (A := Is _) rfl rfl) rfl rfl ?_
              refine Runs_p rfl (Valid.assignk (A := Is _) rfl rfl) rfl rfl ?_
              refine Runs_nil ?_
              refine thenQ_n ?_
              refine W_seq ?_
              refine W_regionE (c := 73) (c' := 76) (by kernel_rfl) rfl ?_
              refine Runs_p rfl (Valid.movek (A := Is _) rfl rfl) rfl rfl ?_
              refine Runs_p rfl (Valid.movek (A := Is _) rfl rfl) rfl rfl ?_
              refine Runs_p rfl (Valid.lss rfl rfl rfl) rfl rfl ?_
              refine Runs_nil ?_
              refine thenQ_n ?_
              refine W_cond _ rfl (fun hb4 => ?_) (fun hb4 => ?_)
              · try simp only [decide_eq_true_eq] at hb4
                all_goals (
                  refine W_regionE (c := 76) (c' := 80) (by kernel_rfl) rfl ?_
                  refine Runs_p rfl (Valid.movek (A := Ab.Own 368 1 _ _) rfl rfl) rfl rfl ?_
                  refine Runs_p rfl (Valid.lit (el := 3) [_] rfl rfl (fun _ => by kernel_rfl) rfl (by decide)) rfl rfl ?_
                  refine Runs_w rfl (Valid.app rfl Try.underlying22 ti3 (by decide) rfl rfl (Reads.sl rfl) (by first | exact one_map (fun _ => rfl) | exact one_cons rfl one_nil | exact one_app (one_map (fun _ => rfl)) (one_cons rfl one_nil) | exact one_app (one_map (fun _ => rfl)) (one_map (fun _ => rfl)) | exact one_rep rfl | exact one_app (one_rep rfl) (one_map (fun _ => rfl)) | (intro u hu; simp at hu; rcases hu with rfl | hu <;> first | rfl | (subst hu; rfl))) (by simp only [maxLen]; omega) (by omega)) rfl rfl ?_
                  refine Runs_p rfl (Valid.assignk (A := Ab.Own 624 1 _ _) rfl rfl) rfl rfl ?_
                  refine Runs_nil ?_
                  refine blockQ_n ?_
                  refine thenQ_n ?_
                  refine W_regionE (c := 80) (c' := 83) (by kernel_rfl) rfl ?_
                  refine Runs_p rfl (Valid.movek (A := Is _) rfl rfl) rfl rfl ?_
                  refine Runs_p rfl (Valid.add rfl rfl rfl (room64 (by omega) (by omega))) rfl rfl ?_
                  refine Runs_p rfl (Valid.assignk (A := Is _) rfl rfl) rfl rfl ?_
                  refine Runs_nil ?_
                  refine LoopQ.next (i + 1) [(368, 624)] (by omega) (by omega) ⟨⟨(leq_is rfl rfl (by first | rfl | (rw [ch_y (by assumption), List.map_append]; rfl) | (rw [ch_n (by assumption), List.map_append]; rfl))), (leq_own rfl rfl rfl (by first | rfl | (rw [ch_y (by assumption), List.map_append]; rfl) | (rw [ch_n (by assumption), List.map_append]; rfl)) (by first | rfl | (rw [ch_y (by assumption), List.map_append]; rfl) | (rw [ch_n (by assumption), List.map_append]; rfl))), trivial⟩, ⟨(leq_sl (Reads.sl rfl) rfl rfl rfl), (leq_sl (Reads.sl rfl) rfl rfl rfl), (leq_sla (ReadsA.sla rfl) rfl rfl rfl), trivial⟩, ⟨hp_row rfl (by first | rfl | (rw [ch_y (by assumption), List.map_append]; rfl) | (rw [ch_n (by assumption), List.map_append]; rfl)) (by first | rfl | (rw [ch_y (by assumption), List.map_append]; rfl) | (rw [ch_n (by assumption), List.map_append]; rfl)), trivial⟩, trivial, rfl, ⟨supg rfl, supg rfl, trivial⟩, ⟨supg rfl, supg rfl, supg rfl, trivial⟩, ⟨suph rfl rfl, trivial⟩, trivial, rfl, rfl⟩
                  done)
              · try simp only [decide_eq_false_iff_not] at hb4
                all_goals (
                  refine W_regionE (c := 76) (c' := 80) (by kernel_rfl) rfl ?_
                  refine Runs_p rfl (Valid.movek (A := Ab.Own 368 1 _ _) rfl rfl) rfl rfl ?_
                  refine Runs_p rfl (Valid.lit (el := 3) [_] rfl rfl (fun _ => by kernel_rfl) rfl (by decide)) rfl rfl ?_
                  refine Runs_w rfl (Valid.app rfl Try.underlying22 ti3 (by decide) rfl rfl (Reads.sl rfl) (by first | exact one_map (fun _ => rfl) | exact one_cons rfl one_nil | exact one_app (one_map (fun _ => rfl)) (one_cons rfl one_nil) | exact one_app (one_map (fun _ => rfl)) (one_map (fun _ => rfl)) | exact one_rep rfl | exact one_app (one_rep rfl) (one_map (fun _ => rfl)) | (intro u hu; simp at hu; rcases hu with rfl | hu <;> first | rfl | (subst hu; rfl))) (by simp only [maxLen]; omega) (by omega)) rfl rfl ?_
                  refine Runs_p rfl (Valid.assignk (A := Ab.Own 624 1 _ _) rfl rfl) rfl rfl ?_
                  refine Runs_nil ?_
                  refine blockQ_n ?_
                  refine thenQ_n ?_
                  refine W_regionE (c := 80) (c' := 83) (by kernel_rfl) rfl ?_
                  refine Runs_p rfl (Valid.movek (A := Is _) rfl rfl) rfl rfl ?_
                  refine Runs_p rfl (Valid.add rfl rfl rfl (room64 (by omega) (by omega))) rfl rfl ?_
                  refine Runs_p rfl (Valid.assignk (A := Is _) rfl rfl) rfl rfl ?_
                  refine Runs_nil ?_
                  refine LoopQ.next (i + 1) [(368, 624)] (by omega) (by omega) ⟨⟨(leq_is rfl rfl (by first | rfl | (rw [ch_y (by assumption), List.map_append]; rfl) | (rw [ch_n (by assumption), List.map_append]; rfl))), (leq_own rfl rfl rfl (by first | rfl | (rw [ch_y (by assumption), List.map_append]; rfl) | (rw [ch_n (by assumption), List.map_append]; rfl)) (by first | rfl | (rw [ch_y (by assumption), List.map_append]; rfl) | (rw [ch_n (by assumption), List.map_append]; rfl))), trivial⟩, ⟨(leq_sl (Reads.sl rfl) rfl rfl rfl), (leq_sl (Reads.sl rfl) rfl rfl rfl), (leq_sla (ReadsA.sla rfl) rfl rfl rfl), trivial⟩, ⟨hp_row rfl (by first | rfl | (rw [ch_y (by assumption), List.map_append]; rfl) | (rw [ch_n (by assumption), List.map_append]; rfl)) (by first | rfl | (rw [ch_y (by assumption), List.map_append]; rfl) | (rw [ch_n (by assumption), List.map_append]; rfl)), trivial⟩, trivial, rfl, ⟨supg rfl, supg rfl, trivial⟩, ⟨supg rfl, supg rfl, supg rfl, trivial⟩, ⟨suph rfl rfl, trivial⟩, trivial, rfl, rfl⟩
                  done)
              done)
          · try simp only [decide_eq_false_iff_not] at hb3
            all_goals (
              refine W_exit ?_
              refine thenQ_e ?_
              refine loopQ_e ?_
              refine blockQ_x ?_
              refine thenQ_n ?_
              refine W_seq ?_
              refine W_regionE (c := 51) (c' := 58) (by kernel_rfl) rfl ?_
              refine Runs_p rfl (Valid.movek (A := Sl 1 _ _) rfl rfl) rfl rfl ?_
              refine Runs_p rfl (Valid.movek (A := Sl 1 _ _) rfl rfl) rfl rfl ?_
              refine Runs_p rfl (Valid.litA2 (el := 22) rfl (Reads.sl rfl) (Reads.sl rfl) (fun _ _ _ _ _ _ _ => by kernel_rfl)) rfl rfl ?_
              refine Runs_p rfl (Valid.movek (A := Ab.Own 368 1 _ _) rfl rfl) rfl rfl ?_
              refine Runs_p rfl (Valid.assignk (A := SlA 1 _ _) rfl rfl) rfl rfl ?_
              refine Runs_p rfl (Valid.assignk (A := Ab.Own 368 1 _ _) rfl rfl) rfl rfl ?_
              refine Runs_p rfl (Valid.assignk (A := Is _) rfl rfl) rfl rfl ?_
              refine Runs_nil ?_
              refine thenQ_n ?_
              refine W_ret ?_
              refine finQ_r ?_
              refine ResOk.three rfl (RVal.tmp (argle_sla' (ReadsA.sla rfl) (by first | rfl | (rw [tb_e (fun h => by obtain ⟨a1, a2, a3, a4⟩ := h; have a5 := List.length_pos_iff.2 a3; omega)]; done) | (rw [tb_e (fun h => by obtain ⟨a1, a2, a3, a4⟩ := h; have a5 := List.length_pos_iff.2 a3; omega)]; rfl) | (rw [tb_n hok (by simp_all)]; done) | (rw [tb_n hok (by simp_all)]; rfl) | (rw [tb_y hok hga]; done) | (rw [tb_y hok hga]; rfl) | (rw [tb_y hok hga]; show i = (chA m n (ng m)).length; rw [chA_len]; omega) | (rw [tb_y hok hga]; show _ = (chA m n (ng m)).map _; rw [show ng m = i by omega])) (by first | rfl | (rw [tb_e (fun h => by obtain ⟨a1, a2, a3, a4⟩ := h; have a5 := List.length_pos_iff.2 a3; omega)]; done) | (rw [tb_e (fun h => by obtain ⟨a1, a2, a3, a4⟩ := h; have a5 := List.length_pos_iff.2 a3; omega)]; rfl) | (rw [tb_n hok (by simp_all)]; done) | (rw [tb_n hok (by simp_all)]; rfl) | (rw [tb_y hok hga]; done) | (rw [tb_y hok hga]; rfl) | (rw [tb_y hok hga]; show i = (chA m n (ng m)).length; rw [chA_len]; omega) | (rw [tb_y hok hga]; show _ = (chA m n (ng m)).map _; rw [show ng m = i by omega])))) (RVal.sl (Reads.own rfl) rfl (by first | rfl | (rw [tb_e (fun h => by obtain ⟨a1, a2, a3, a4⟩ := h; have a5 := List.length_pos_iff.2 a3; omega)]; done) | (rw [tb_e (fun h => by obtain ⟨a1, a2, a3, a4⟩ := h; have a5 := List.length_pos_iff.2 a3; omega)]; rfl) | (rw [tb_n hok (by simp_all)]; done) | (rw [tb_n hok (by simp_all)]; rfl) | (rw [tb_y hok hga]; done) | (rw [tb_y hok hga]; rfl) | (rw [tb_y hok hga]; show i = (chA m n (ng m)).length; rw [chA_len]; omega) | (rw [tb_y hok hga]; show _ = (chA m n (ng m)).map _; rw [show ng m = i by omega])) (by first | rfl | (rw [tb_e (fun h => by obtain ⟨a1, a2, a3, a4⟩ := h; have a5 := List.length_pos_iff.2 a3; omega)]; done) | (rw [tb_e (fun h => by obtain ⟨a1, a2, a3, a4⟩ := h; have a5 := List.length_pos_iff.2 a3; omega)]; rfl) | (rw [tb_n hok (by simp_all)]; done) | (rw [tb_n hok (by simp_all)]; rfl) | (rw [tb_y hok hga]; done) | (rw [tb_y hok hga]; rfl) | (rw [tb_y hok hga]; show i = (chA m n (ng m)).length; rw [chA_len]; omega) | (rw [tb_y hok hga]; show _ = (chA m n (ng m)).map _; rw [show ng m = i by omega]))) (RVal.is rfl rfl (by first | rfl | (rw [tb_e (fun h => by obtain ⟨a1, a2, a3, a4⟩ := h; have a5 := List.length_pos_iff.2 a3; omega)]; done) | (rw [tb_e (fun h => by obtain ⟨a1, a2, a3, a4⟩ := h; have a5 := List.length_pos_iff.2 a3; omega)]; rfl) | (rw [tb_n hok (by simp_all)]; done) | (rw [tb_n hok (by simp_all)]; rfl) | (rw [tb_y hok hga]; done) | (rw [tb_y hok hga]; rfl) | (rw [tb_y hok hga]; show i = (chA m n (ng m)).length; rw [chA_len]; omega) | (rw [tb_y hok hga]; show _ = (chA m n (ng m)).map _; rw [show ng m = i by omega])))
              done)
          done)
      done)
end Kr
end Go.Proofs.Ytdcenocljnlipaa
