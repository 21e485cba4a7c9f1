/-
  WALKS of stage 11: the law ChooseTurned.
-/
import Derived.Test.YtdcenocljnlipaaRows
import Derived.Test.YtdcenocljnlipaaMgc
import Derived.Test.YtdcenocljnlipaaWa
import Derived.Test.YtdcenocljnlipaaWb
import Derived.Test.YtdcenocljnlipaaWm
import Derived.Test.YtdcenocljnlipaaWc
import Derived.Test.YtdcenocljnlipaaWd
import Derived.Test.YtdcenocljnlipaaWe
import Derived.Test.YtdcenocljnlipaaWf
import Derived.Test.YtdcenocljnlipaaWg
import Derived.Test.YtdcenocljnlipaaWk
import Derived.Test.YtdcenocljnlipaaOa
import Derived.Test.YtdcenocljnlipaaOb
import Derived.Test.YtdcenocljnlipaaOc
import Derived.Test.YtdcenocljnlipaaOd
import Derived.Test.YtdcenocljnlipaaOf
import Derived.Test.YtdcenocljnlipaaOi
import Derived.Test.YtdcenocljnlipaaWh
import Derived.Test.YtdcenocljnlipaaCm
import Derived.Test.YtdcenocljnlipaaKa
import Derived.Test.YtdcenocljnlipaaKb
import Derived.Test.YtdcenocljnlipaaKl
import Derived.Test.YtdcenocljnlipaaKj
import Derived.Test.YtdcenocljnlipaaKc
import Derived.Test.YtdcenocljnlipaaKd
import Derived.Test.YtdcenocljnlipaaKn
namespace Go.Proofs.Ytdcenocljnlipaa
open Go.RowKit
namespace Kf
open Ab Wa Wb Wm Wc Wd We Wf Wg Wk Oa Ob Oc Od Of Oi Wh Cm Ka Kb Kl Kj Kc Kd Kn
theorem ag22 (w : World) : (isAgg 22).run Try.prog w = .ok false w := by kernel_rfl
theorem ag3 (w : World) : (isAgg 3).run Try.prog w = .ok false w := by kernel_rfl
theorem sz22 (w : World) : (sizeOf 22).run Try.prog w = .ok 1 w := by kernel_rfl
theorem sz3 (w : World) : (sizeOf 3).run Try.prog w = .ok 1 w := by kernel_rfl
theorem ti3 : TI Try.prog 3 1 8 := .mk' (z := (Value.int .i64 0)) (by kernel_rfl) rfl
theorem tzv3 : (Try.prog.info? 3).map (fun i => (i.zero, i.size, i.bytes)) = some (some ((Value.int .i64) 0), 1, 8) := by kernel_rfl
/-- groups of even numbers and of odd ones, changed -/
def swA (M : List Int) : Nat → List Int
  | 0 => []
  | j + 1 => swA M j ++ gp M (2 * j + 1) ++ gp M (2 * j)
theorem gp_10 {M : List Int} {J j : Nat} (hM : M.length = 20 * J) (hj : j < 2 * J) : (gp M j).length = 10 := by rw [gp_len]; omega
theorem swA_len {M : List Int} {J : Nat} (hM : M.length = 20 * J) : ∀ j, j ≤ J → (swA M j).length = 20 * j
  | 0, _ => rfl
  | j + 1, h => by
    rw [swA, List.length_append, List.length_append, swA_len hM j (by omega), gp_10 hM (by omega), gp_10 hM (by omega)]; omega
theorem swA_pre (M : List Int) (j : Nat) : ∀ d, ∃ r, swA M (j + d) = swA M j ++ r
  | 0 => ⟨[], by simp⟩
  | d + 1 => by
    obtain ⟨r, hr⟩ := swA_pre M j d
    exact ⟨r ++ gp M (2 * (j + d) + 1) ++ gp M (2 * (j + d)), by rw [← Nat.add_assoc, swA, hr]; simp⟩
theorem swA_gp {M : List Int} {J j : Nat} (hM : M.length = 20 * J) (hj : j < J) : gp (swA M J) (2 * j) = gp M (2 * j + 1) ∧ gp (swA M J) (2 * j + 1) = gp M (2 * j) := by
  obtain ⟨r, hr⟩ := swA_pre M (j + 1) (J - (j + 1))
  rw [show j + 1 + (J - (j + 1)) = J by omega] at hr
  have h1 := swA_len hM j (by omega)
  have h2 := gp_10 hM (j := 2 * j + 1) (by omega)
  have h3 := gp_10 hM (j := 2 * j) (by omega)
  have e : swA M J = swA M j ++ (gp M (2 * j + 1) ++ (gp M (2 * j) ++ r)) := by rw [hr, swA]; simp
  refine ⟨?_, ?_⟩
  · show ((swA M J).drop (10 * (2 * j))).take 10 = _
    rw [e, List.drop_append_of_le_length (by omega), List.drop_of_length_le (by omega), List.nil_append, List.take_append_of_le_length (by omega), List.take_of_length_le (by omega)]
  · show ((swA M J).drop (10 * (2 * j + 1))).take 10 = _
    rw [e, ← List.append_assoc (swA M j), List.drop_append_of_le_length (by rw [List.length_append]; omega), List.drop_of_length_le (by rw [List.length_append]; omega), List.nil_append, List.take_append_of_le_length (by omega), List.take_of_length_le (by omega)]
theorem ct_sw {M : List Int} {J : Nat} {k : Nat} (hM : M.length = 20 * J) : ∀ j, j ≤ J → ctA (swA M J) k 0 (2 * j) = ctA M k 1 (2 * j) ∧ ctA (swA M J) k 1 (2 * j) = ctA M k 0 (2 * j)
  | 0, _ => ⟨rfl, rfl⟩
  | j + 1, h => by
    obtain ⟨i1, i2⟩ := ct_sw (k := k) hM j (by omega)
    obtain ⟨g1, g2⟩ := swA_gp hM (show j < J by omega)
    rw [show 2 * (j + 1) = 2 * j + 1 + 1 by omega]
    refine ⟨?_, ?_⟩
    · rw [ctA_n (k := 2 * j + 1) (by omega), ctA_y (k := 2 * j) (by omega), ctA_y (m := M) (k := 2 * j + 1) (by omega), ctA_n (m := M) (k := 2 * j) (by omega), g1, i1]
    · rw [ctA_y (k := 2 * j + 1) (by omega), ctA_n (k := 2 * j) (by omega), ctA_n (m := M) (k := 2 * j + 1) (by omega), ctA_y (m := M) (k := 2 * j) (by omega), g2, i2]
theorem tb_sw {M : List Int} {J : Nat} {k : Nat} (hM : M.length = 20 * J) : tb (swA M J) k 0 = tb M k 1 ∧ tb (swA M J) k 1 = tb M k 0 := by
  obtain ⟨h1, h2⟩ := ct_sw (k := k) hM J (Nat.le_refl _)
  have hl := swA_len hM J (Nat.le_refl _)
  have n1 : ng M = 2 * J := by unfold ng; omega
  have n2 : ng (swA M J) = 2 * J := by unfold ng; omega
  rw [tb, tb, tb, tb, ctF, ctF, ctF, ctF, n1, n2, h1, h2]
  exact ⟨rfl, rfl⟩
theorem swA_mem {M : List Int} {x : Int} : ∀ j, x ∈ swA M j → x ∈ M
  | 0, h => by cases h
  | j + 1, h => by
    rw [swA] at h
    rcases List.mem_append.1 h with e | e
    · rcases List.mem_append.1 e with e | e
      · exact swA_mem j e
      · exact gp_mem e
    · exact gp_mem e
theorem sw_s {M : List Int} {J j : Nat} (_hM : M.length = 20 * J) (_hj : j < J) : (swA M j).map (Value.int .i64) ++ (((M.drop (20 * (j : Int) + 10).toNat).take ((20 * (j : Int) + 20).toNat - (20 * (j : Int) + 10).toNat)).map (Value.int .i64)) ++ (((M.drop (20 * (j : Int)).toNat).take ((20 * (j : Int) + 10).toNat - (20 * (j : Int)).toNat)).map (Value.int .i64)) = (swA M (j + 1)).map (Value.int .i64) := by
  rw [swA, List.map_append, List.map_append]
  unfold gp
  rw [show (20 * (j : Int) + 10).toNat = 10 * (2 * j + 1) by omega, show (20 * (j : Int) + 20).toNat - 10 * (2 * j + 1) = 10 by omega, show (20 * (j : Int)).toNat = 10 * (2 * j) by omega, show 10 * (2 * j + 1) - 10 * (2 * j) = 10 by omega]

set_option maxRecDepth 100000 in
set_option maxHeartbeats 1000000 in
theorem turned_w (raw : List Int) (hraw : In64 raw) (lraw : raw.length ≤ 9223372036854775807) (n : Int) (wn : -9223372036854775808 ≤ n ∧ n ≤ 9223372036854775807) :
    FPure Try.prog 7 [Sl 1 raw.length (raw.map (Value.int .i64)), Is (.int .i64 (n : Int))] (Is (.bool true)) := by
  refine FPure.of Try.func7 Try.ntmps7 rfl (by kernel_rfl) rfl rfl rfl ?_
  refine W_seq ?_
  refine W_regionE (c := 1) (c' := 2) (by kernel_rfl) rfl ?_
  refine Runs_p rfl (Valid.assignk (A := Is _) rfl rfl) rfl rfl ?_
  refine Runs_nil ?_
  refine thenQ_n ?_
  refine W_seq ?_
  refine W_regionE (c := 2) (c' := 4) (by kernel_rfl) rfl ?_
  refine Runs_p rfl (Valid.call rfl (awake11_s) trivial) rfl rfl ?_
  refine Runs_p rfl (Valid.assignk (A := Is _) rfl rfl) rfl rfl ?_
  refine Runs_nil ?_
  refine thenQ_n ?_
  refine W_seq ?_
  have hpk := pickV_range n 19 (by decide)
  obtain ⟨K, hK⟩ : ∃ K : Nat, 2 + pickV n 19 = (K : Int) := ⟨(2 + pickV n 19).toNat, by omega⟩
  refine W_regionE (c := 4) (c' := 8) (by kernel_rfl) rfl ?_
  refine Runs_p rfl (Valid.movek (A := Is _) rfl rfl) rfl rfl ?_
  refine Runs_p rfl (Valid.call rfl (pick11_s _ _ wn.1 wn.2 (by decide) (by decide)) ⟨argle rfl, argle rfl, trivial⟩) rfl rfl ?_
  refine Runs_p rfl (Valid.add rfl rfl rfl (room64 (by omega) (by omega))) rfl rfl ?_
  refine Runs_p rfl (Valid.assignk (A := Is _) rfl rfl) rfl rfl ?_
  refine Runs_nil ?_
  refine thenQ_n ?_
  refine W_seq ?_
  rw [hK]
  refine W_regionE (c := 8) (c' := 12) (by kernel_rfl) rfl ?_
  refine Runs_p rfl (Valid.movek (A := Sl 1 _ _) rfl rfl) rfl rfl ?_
  refine Runs_p rfl (Valid.movek (A := Is _) rfl rfl) rfl rfl ?_
  refine Runs_p rfl (Valid.call rfl (sym_s raw K 80 (by assumption) (by omega) (by omega) (by omega) (by decide)) ⟨argle_sl (Reads.sl rfl), argle rfl, argle rfl, trivial⟩) rfl rfl ?_
  refine Runs_p rfl (Valid.assignk (A := Sl 1 _ _) rfl rfl) rfl rfl ?_
  refine Runs_nil ?_
  refine thenQ_n ?_
  refine W_seq ?_
  have hsl := sym_len raw (K : Int) 80
  have hsg := sym_rg raw (K : Int) 80 (by omega)
  generalize symV raw (K : Int) 80 = m at *
  refine W_regionE (c := 12) (c' := 19) (by kernel_rfl) rfl ?_
  refine Runs_p rfl (Valid.movek (A := Sl 1 _ _) rfl rfl) rfl rfl ?_
  refine Runs_p rfl (Valid.movek (A := Sl 1 _ _) rfl rfl) rfl rfl ?_
  refine Runs_p rfl (Valid.len rfl Try.underlying22 (Reads.sl rfl)) rfl rfl ?_
  refine Runs_p rfl (Valid.quo rfl rfl rfl (by omega) (by omega) (room64 (by omega) (by omega))) rfl rfl ?_
  refine Runs_p rfl (Valid.mul rfl rfl rfl (room64 (by omega) (by omega))) rfl rfl ?_
  refine Runs_p rfl (Valid.sliceto1 rfl Try.underlying22 sz3 (Reads.sl rfl) rfl (by omega)) rfl rfl ?_
  refine Runs_p rfl (Valid.assignk (A := Sl 1 _ _) rfl rfl) rfl rfl ?_
  refine Runs_nil ?_
  refine thenQ_n ?_
  refine W_seq ?_
  refine W_seq ?_
  obtain ⟨J, hJ⟩ : ∃ J : Nat, (m.length : Int) / 20 * 20 = ((20 * J : Nat) : Int) := ⟨m.length / 20, by omega⟩
  rw [hJ]
  have hML : (m.take (20 * J)).length = 20 * J := by rw [List.length_take]; omega
  have hMg : ∀ x ∈ m.take (20 * J), 0 ≤ x ∧ x < (K : Int) := fun x hx => hsg x (List.mem_of_mem_take hx)
  rw [show ((20 * J : Nat) : Int).toNat = 20 * J from rfl]
  generalize m.take (20 * J) = M at *
  refine W_regionE (c := 19) (c' := 22) (by kernel_rfl) rfl ?_
  refine Runs_p rfl (Valid.movek (A := Sl 1 _ _) rfl rfl) rfl rfl ?_
  refine Runs_p rfl (Valid.len rfl Try.underlying22 (Reads.sl rfl)) rfl rfl ?_
  refine Runs_p rfl (Valid.eql rfl rfl rfl) rfl rfl ?_
  refine Runs_nil ?_
  refine thenQ_n ?_
  refine W_cond _ rfl (fun hb1 => ?_) (fun hb1 => ?_)
  · try simp only [decide_eq_true_eq] at hb1
    all_goals (
      refine W_seq ?_
      refine W_regionE (c := 22) (c' := 24) (by kernel_rfl) rfl ?_
      refine Runs_p rfl (Valid.movek (A := Is _) rfl rfl) rfl rfl ?_
      refine Runs_p rfl (Valid.assignk (A := Is _) rfl rfl) rfl rfl ?_
      refine Runs_nil ?_
      refine thenQ_n ?_
      refine W_ret ?_
      refine thenQ_r ?_
      refine finQ_r ?_
      refine ResOk.one rfl (RVal.is rfl rfl (by first | rfl | (exfalso; simp at hb1; done) | (exfalso; simp at hb2; done) | (exfalso; simp at hb3; done) | (exfalso; simp at hb4; done) | (exfalso; simp at hb5; done) | (exfalso; simp at hb6; done) | (exfalso; simp at hb7; done) | (exfalso; simp at hb8; done) | (exfalso; simp at hb9; done) | (exfalso; simp at hb10; done) | (exfalso; simp at hb11; done) | (exfalso; simp at hb12; done) | (exfalso; simp at hb13; done)))
      done)
  · try simp only [decide_eq_false_iff_not] at hb1
    all_goals (
      refine W_skip ?_
      refine thenQ_n ?_
      refine W_seq ?_
      refine W_regionE (c := 22) (c' := 23) (by kernel_rfl) rfl ?_
      refine Runs_p rfl (Valid.assignk (A := Is (.slice none 0 0)) rfl rfl) rfl rfl ?_
      refine Runs_nil ?_
      refine thenQ_n ?_
      refine W_seq ?_
      refine W_seq ?_
      refine W_regionE (c := 23) (c' := 24) (by kernel_rfl) rfl ?_
      refine Runs_p rfl (Valid.assignk (A := Is _) rfl rfl) rfl rfl ?_
      refine Runs_nil ?_
      refine thenQ_n ?_
      refine W_block ?_
      refine W.ent ?_ (Ent.ownnil 8 3 1 rfl)
      refine W_loopx (G := Nat) (fun (j : Nat) => j ≤ J) [(5, Is _), (6, Is _), (7, Sl 1 _ _)] (fun (j : Nat) => [(9, Is (.int .i64 (20 * (j : Int)))), (8, Ab.Own 192 1 (20 * j) ((swA M j).map (Value.int .i64)))]) [] (fun (j : Nat) => [(192, .row 3 1 (20 * j) ((swA M j).map (Value.int .i64)))]) 25 (fun (j : Nat) => J - j) (0) [] (by first | trivial | omega | (simp; omega)) ⟨⟨(leq_is rfl rfl (by first | rfl)), (leq_own rfl rfl rfl (by first | rfl) (by first | rfl)), trivial⟩, ⟨(leq_is rfl rfl rfl), (leq_is rfl rfl rfl), (leq_sl (Reads.sl rfl) rfl rfl rfl), trivial⟩, ⟨hp_row rfl (by first | rfl) (by first | rfl), trivial⟩, trivial, rfl, ⟨supg rfl, supg rfl, trivial⟩, ⟨supg rfl, supg rfl, supg rfl, trivial⟩, ⟨suph rfl rfl, trivial⟩, trivial, rfl, rfl⟩ ?_
      intro j hI1
      refine W_seq ?_
      refine W_seq ?_
      refine W_regionE (c := 25) (c' := 29) (by kernel_rfl) rfl ?_
      refine Runs_p rfl (Valid.movek (A := Is _) rfl rfl) rfl rfl ?_
      refine Runs_p rfl (Valid.movek (A := Sl 1 _ _) rfl rfl) rfl rfl ?_
      refine Runs_p rfl (Valid.len rfl Try.underlying22 (Reads.sl rfl)) rfl rfl ?_
      refine Runs_p rfl (Valid.lss rfl rfl rfl) rfl rfl ?_
      refine Runs_nil ?_
      refine thenQ_n ?_
      refine W_cond _ rfl (fun hb2 => ?_) (fun hb2 => ?_)
      · try simp only [decide_eq_true_eq] at hb2
        all_goals (
          refine W_skip ?_
          refine thenQ_n ?_
          refine W_seq ?_
          refine W_block ?_
          refine W_drawE (c := 29) (c' := 44) (by kernel_rfl) rfl ?_
          refine Runs_p rfl (Valid.movek (A := Ab.Own 192 1 _ _) rfl rfl) rfl rfl ?_
          refine Runs_p rfl (Valid.movek (A := Sl 1 _ _) rfl rfl) rfl rfl ?_
          refine Runs_p rfl (Valid.movek (A := Is _) rfl rfl) rfl rfl ?_
          refine Runs_p rfl (Valid.add rfl rfl rfl (room64 (by omega) (by omega))) rfl rfl ?_
          refine Runs_p rfl (Valid.movek (A := Is _) rfl rfl) rfl rfl ?_
          refine Runs_p rfl (Valid.add rfl rfl rfl (room64 (by omega) (by omega))) rfl rfl ?_
          refine Runs_p rfl (Valid.slice1 rfl Try.underlying22 sz3 (Reads.sl rfl) rfl rfl (by refine ⟨?_, ?_, ?_⟩ <;> omega)) rfl rfl ?_
          refine Runs_w rfl (Valid.app rfl Try.underlying22 ti3 (by decide) rfl rfl (Reads.sl rfl) (by first | exact one_map (fun _ => rfl) | exact one_cons rfl one_nil | exact one_app (one_map (fun _ => rfl)) (one_cons rfl one_nil) | exact one_app (one_map (fun _ => rfl)) (one_map (fun _ => rfl)) | exact one_rep rfl | exact one_app (one_rep rfl) (one_map (fun _ => rfl)) | (intro u hu; simp at hu; rcases hu with rfl | hu <;> first | rfl | (subst hu; rfl))) (by simp only [maxLen]; omega) (by omega)) rfl rfl ?_
          refine Runs_p rfl (Valid.movek (A := Sl 1 _ _) rfl rfl) rfl rfl ?_
          refine Runs_p rfl (Valid.movek (A := Is _) rfl rfl) rfl rfl ?_
          refine Runs_p rfl (Valid.movek (A := Is _) rfl rfl) rfl rfl ?_
          refine Runs_p rfl (Valid.add rfl rfl rfl (room64 (by omega) (by omega))) rfl rfl ?_
          refine Runs_p rfl (Valid.slice1 rfl Try.underlying22 sz3 (Reads.sl rfl) rfl rfl (by refine ⟨?_, ?_, ?_⟩ <;> omega)) rfl rfl ?_
          refine Runs_w rfl (Valid.app rfl Try.underlying22 ti3 (by decide) rfl rfl (Reads.sl rfl) (by first | exact one_map (fun _ => rfl) | exact one_cons rfl one_nil | exact one_app (one_map (fun _ => rfl)) (one_cons rfl one_nil) | exact one_app (one_map (fun _ => rfl)) (one_map (fun _ => rfl)) | exact one_rep rfl | exact one_app (one_rep rfl) (one_map (fun _ => rfl)) | (intro u hu; simp at hu; rcases hu with rfl | hu <;> first | rfl | (subst hu; rfl))) (by simp only [maxLen]; omega) (by omega)) rfl rfl ?_
          refine Runs_p rfl (Valid.assignk (A := Ab.Own 336 1 _ _) rfl rfl) rfl rfl ?_
          refine Runs_nil ?_
          refine ⟨_, _, rfl, rfl, by kernel_rfl, ?_⟩
          refine blockQ_n ?_
          refine thenQ_n ?_
          refine W_regionE (c := 44) (c' := 47) (by kernel_rfl) rfl ?_
          refine Runs_p rfl (Valid.movek (A := Is _) rfl rfl) rfl rfl ?_
          refine Runs_p rfl (Valid.add rfl rfl rfl (room64 (by omega) (by omega))) rfl rfl ?_
          refine Runs_p rfl (Valid.assignk (A := Is _) rfl rfl) rfl rfl ?_
          refine Runs_nil ?_
          refine LoopQ.next (j + 1) [(192, 336)] (by omega) (by omega) ⟨⟨(leq_is rfl rfl (by first | rfl | omega | exact sw_s hML (by omega) | exact congrArg (Value.int .i64) (by omega))), (leq_own rfl rfl rfl (by first | rfl | omega | exact sw_s hML (by omega) | exact congrArg (Value.int .i64) (by omega)) (by first | rfl | omega | exact sw_s hML (by omega) | exact congrArg (Value.int .i64) (by omega))), trivial⟩, ⟨(leq_is rfl rfl rfl), (leq_is rfl rfl rfl), (leq_sl (Reads.sl rfl) rfl rfl rfl), trivial⟩, ⟨hp_row rfl (by first | rfl | omega | exact sw_s hML (by omega) | exact congrArg (Value.int .i64) (by omega)) (by first | rfl | omega | exact sw_s hML (by omega) | exact congrArg (Value.int .i64) (by omega)), trivial⟩, trivial, rfl, ⟨supg rfl, supg rfl, trivial⟩, ⟨supg rfl, supg rfl, supg rfl, trivial⟩, ⟨suph rfl rfl, trivial⟩, trivial, rfl, rfl⟩
          done)
      · try simp only [decide_eq_false_iff_not] at hb2
        all_goals (
          refine W_exit ?_
          refine thenQ_e ?_
          refine loopQ_e ?_
          refine blockQ_x ?_
          refine thenQ_n ?_
          refine W_seq ?_
          obtain rfl : j = J := by omega
          have hT := tb_ok (m := M) (k := K) (by omega) (by omega) (by omega) (by omega) hMg
          have hSl := swA_len hML j (Nat.le_refl _)
          have hT2 := tb_ok (m := swA M j) (k := K) (by omega) (by omega) (by omega) (by omega) (fun x hx => hMg x (swA_mem j hx))
          obtain ⟨hs0, hs1⟩ := tb_sw (k := K) hML
          rw [hs0, hs1] at hT2
          obtain ⟨t1, t2, t3, t4, t5⟩ := tb_all (M := M) (k := K) (f := 0) (by omega) (by omega) (by omega)
          obtain ⟨u1, u2, u3, u4, u5⟩ := tb_all (M := M) (k := K) (f := 1) (by omega) (by omega) (by omega)
          have e0 : (([tb M K 0, tb M K 1] : List (List Int)).getD ((0 : Int).toNat) []) = tb M K 0 := rfl
          have e0l : (([tb M K 0, tb M K 1] : List (List Int)).getD ((0 : Int).toNat) []).length = (tb M K 0).length := rfl
          refine W_regionE (c := 29) (c' := 39) (by kernel_rfl) rfl ?_
          refine Runs_p rfl (Valid.movek (A := Sl 1 _ _) rfl rfl) rfl rfl ?_
          refine Runs_p rfl (Valid.movek (A := Is _) rfl rfl) rfl rfl ?_
          refine Runs_p rfl (Valid.call rfl (tb_t (m := M) (by omega) rfl (by omega) hT rfl rfl rfl rfl) ⟨argle_sl (Reads.sl rfl), argle rfl, trivial⟩) rfl rfl ?_
          refine Runs_p rfl (Valid.movek (A := Tup [SlA 1 _ _, Sl 1 _ _, Is _]) rfl rfl) rfl rfl ?_
          refine Runs_p rfl (Valid.extract _ rfl rfl rfl) rfl rfl ?_
          refine Runs_p rfl (Valid.extract _ rfl rfl rfl) rfl rfl ?_
          refine Runs_p rfl (Valid.extract _ rfl rfl rfl) rfl rfl ?_
          refine Runs_p rfl (Valid.assignk (A := SlA 1 _ _) rfl rfl) rfl rfl ?_
          refine Runs_p rfl (Valid.assignk (A := Sl 1 _ _) rfl rfl) rfl rfl ?_
          refine Runs_p rfl (Valid.assignk (A := Is _) rfl rfl) rfl rfl ?_
          refine Runs_nil ?_
          refine thenQ_n ?_
          refine W_seq ?_
          refine W_regionE (c := 39) (c' := 49) (by kernel_rfl) rfl ?_
          refine Runs_p rfl (Valid.movek (A := Ab.Own 192 1 _ _) rfl rfl) rfl rfl ?_
          refine Runs_p rfl (Valid.movek (A := Is _) rfl rfl) rfl rfl ?_
          refine Runs_p rfl (Valid.call rfl (tb_t (m := swA M j) (by omega) rfl (by omega) hT2 rfl rfl rfl rfl) ⟨argle_sl (Reads.own rfl), argle rfl, trivial⟩) rfl rfl ?_
          refine Runs_p rfl (Valid.movek (A := Tup [SlA 1 _ _, Sl 1 _ _, Is _]) rfl rfl) rfl rfl ?_
          refine Runs_p rfl (Valid.extract _ rfl rfl rfl) rfl rfl ?_
          refine Runs_p rfl (Valid.extract _ rfl rfl rfl) rfl rfl ?_
          refine Runs_p rfl (Valid.extract _ rfl rfl rfl) rfl rfl ?_
          refine Runs_p rfl (Valid.assignk (A := SlA 1 _ _) rfl rfl) rfl rfl ?_
          refine Runs_p rfl (Valid.assignk (A := Sl 1 _ _) rfl rfl) rfl rfl ?_
          refine Runs_p rfl (Valid.assignk (A := Is _) rfl rfl) rfl rfl ?_
          refine Runs_nil ?_
          refine thenQ_n ?_
          refine W_seq ?_
          refine W_seq ?_
          refine W_drawE (c := 49) (c' := 93) (by kernel_rfl) rfl ?_
          refine Runs_p rfl (Valid.movek (A := Is _) rfl rfl) rfl rfl ?_
          refine Runs_p rfl (Valid.neq rfl rfl rfl) rfl rfl ?_
          refine Runs_p rfl (Valid.movek (A := Is _) rfl rfl) rfl rfl ?_
          refine Runs_cnd rfl rfl (Grd.is rfl) [] (fun hg => trivial) (fun hg => Valid.movek (A := Is _) rfl rfl) (by rfl) rfl ?_
          refine Runs_cnd rfl rfl (Grd.is rfl) [(74, _)] (fun hg => ⟨cnd_at rfl (by first | exact hg | exact hg.1 | exact hg.1.1 | exact hg.1.1.1), trivial⟩) (fun hg => Valid.neq rfl rfl rfl) (by rfl) rfl ?_
          refine Runs_p rfl (Valid.pickor rfl rfl rfl rfl (fun h => by first | exact h | exact ⟨hg, h⟩)) rfl rfl ?_
          refine Runs_p rfl (Valid.movek (A := Is _) rfl rfl) rfl rfl ?_
          refine Runs_cnd rfl rfl (Grd.is rfl) [] (fun hg => trivial) (fun hg => Valid.movek (A := SlA 1 _ _) rfl rfl) (by rfl) rfl ?_
          refine Runs_cnd rfl rfl (Grd.is rfl) [(78, _)] (fun hg => ⟨cnd_at rfl (by first | exact hg | exact hg.1 | exact hg.1.1 | exact hg.1.1.1), trivial⟩) (fun hg => Valid.lenA rfl Try.underlying27 (ReadsA.sla rfl)) (by rfl) rfl ?_
          refine Runs_cnd rfl rfl (Grd.is rfl) [(79, _)] (fun hg => ⟨cnd_at rfl (by first | exact hg | exact hg.1 | exact hg.1.1 | exact hg.1.1.1), trivial⟩) (fun hg => Valid.neq rfl rfl rfl) (by rfl) rfl ?_
          refine Runs_p rfl (Valid.pickor rfl rfl rfl rfl (fun h => by first | exact h | exact ⟨hg, h⟩)) rfl rfl ?_
          refine Runs_p rfl (Valid.movek (A := Is _) rfl rfl) rfl rfl ?_
          refine Runs_cnd rfl rfl (Grd.is rfl) [] (fun hg => trivial) (fun hg => Valid.movek (A := SlA 1 _ _) rfl rfl) (by rfl) rfl ?_
          refine Runs_cnd rfl rfl (Grd.is rfl) [(83, _)] (fun hg => ⟨cnd_at rfl (by first | exact hg | exact hg.1 | exact hg.1.1 | exact hg.1.1.1), trivial⟩) (fun hg => Valid.lenA rfl Try.underlying27 (ReadsA.sla rfl)) (by rfl) rfl ?_
          refine Runs_cnd rfl rfl (Grd.is rfl) [(84, _)] (fun hg => ⟨cnd_at rfl (by first | exact hg | exact hg.1 | exact hg.1.1 | exact hg.1.1.1), trivial⟩) (fun hg => Valid.neq rfl rfl rfl) (by rfl) rfl ?_
          refine Runs_p rfl (Valid.pickor rfl rfl rfl rfl (fun h => by first | exact h | exact ⟨hg, h⟩)) rfl rfl ?_
          refine Runs_p rfl (Valid.movek (A := Is _) rfl rfl) rfl rfl ?_
          refine Runs_cnd rfl rfl (Grd.is rfl) [] (fun hg => trivial) (fun hg => Valid.movek (A := SlA 1 _ _) rfl rfl) (by rfl) rfl ?_
          refine Runs_cnd rfl rfl (Grd.is rfl) [(88, _)] (fun hg => ⟨cnd_at rfl (by first | exact hg | exact hg.1 | exact hg.1.1 | exact hg.1.1.1), trivial⟩) (fun hg => Valid.eltM (F := Fl) [] rfl Try.underlying27 sz22 (ReadsA.sla rfl) rfl (by (try simp only [decide_eq_false_iff_not, Bool.or_eq_false_iff, not_true_eq_false, not_false_eq_true, ne_eq] at hg); first | omega | (simp only [Int.toNat_natCast, toNat_add, toNat_add1, List.length_append, List.length_cons, List.length_nil, List.length_replicate]; omega)) rfl) (by rfl) rfl ?_
          refine Runs_cnd rfl rfl (Grd.is rfl) [(89, _)] (fun hg => ⟨cnd_at rfl (by first | exact hg | exact hg.1 | exact hg.1.1 | exact hg.1.1.1), trivial⟩) (fun hg => Valid.loadeltSl rfl ag22 rfl rfl) (by rfl) rfl ?_
          refine Runs_cnd rfl rfl (Grd.is rfl) [] (fun hg => trivial) (fun hg => Valid.movek (A := SlA 1 _ _) rfl rfl) (by rfl) rfl ?_
          refine Runs_cnd rfl rfl (Grd.is rfl) [(91, _)] (fun hg => ⟨cnd_at rfl (by first | exact hg | exact hg.1 | exact hg.1.1 | exact hg.1.1.1), trivial⟩) (fun hg => Valid.eltM (F := Fl) [] rfl Try.underlying27 sz22 (ReadsA.sla rfl) rfl (by (try simp only [decide_eq_false_iff_not, Bool.or_eq_false_iff, not_true_eq_false, not_false_eq_true, ne_eq] at hg); first | omega | (simp only [Int.toNat_natCast, toNat_add, toNat_add1, List.length_append, List.length_cons, List.length_nil, List.length_replicate]; omega)) rfl) (by rfl) rfl ?_
          refine Runs_cnd rfl rfl (Grd.is rfl) [(92, _)] (fun hg => ⟨cnd_at rfl (by first | exact hg | exact hg.1 | exact hg.1.1 | exact hg.1.1.1), trivial⟩) (fun hg => Valid.loadeltSl rfl ag22 rfl rfl) (by rfl) rfl ?_
          refine Runs_cnd rfl rfl (Grd.is rfl) [(90, _), (93, _)] (fun hg => ⟨cnd_at rfl (by first | exact hg | exact hg.1 | exact hg.1.1 | exact hg.1.1.1), cnd_at rfl (by first | exact hg | exact hg.1 | exact hg.1.1 | exact hg.1.1.1), trivial⟩) (fun hg => Valid.call rfl (ksame (tb M K 0) (by (try simp only [decide_eq_false_iff_not, Bool.or_eq_false_iff, not_true_eq_false, not_false_eq_true, ne_eq] at hg); omega)) ⟨argle_sl (Reads.sl rfl), argle_sl (Reads.sl rfl), trivial⟩) (by rfl) rfl ?_
          refine Runs_cnd rfl rfl (Grd.is rfl) [(94, _)] (fun hg => ⟨cnd_at rfl (by first | exact hg | exact hg.1 | exact hg.1.1 | exact hg.1.1.1), trivial⟩) (fun hg => Valid.not rfl rfl) (by rfl) rfl ?_
          refine Runs_p rfl (Valid.pickor rfl rfl rfl rfl (fun h => by first | exact h | exact ⟨hg, h⟩)) rfl rfl ?_
          refine Runs_p rfl (Valid.movek (A := Is _) rfl rfl) rfl rfl ?_
          refine Runs_cnd rfl rfl (Grd.is rfl) [] (fun hg => trivial) (fun hg => Valid.movek (A := SlA 1 _ _) rfl rfl) (by rfl) rfl ?_
          refine Runs_cnd rfl rfl (Grd.is rfl) [(98, _)] (fun hg => ⟨cnd_at rfl (by first | exact hg | exact hg.1 | exact hg.1.1 | exact hg.1.1.1), trivial⟩) (fun hg => Valid.eltM (F := Fl) [] rfl Try.underlying27 sz22 (ReadsA.sla rfl) rfl (by (try simp only [decide_eq_false_iff_not, Bool.or_eq_false_iff, Bool.not_eq_false', not_true_eq_false, not_false_eq_true, ne_eq] at hg); first | omega | (simp only [Int.toNat_natCast, toNat_add, toNat_add1, List.length_append, List.length_cons, List.length_nil, List.length_replicate]; omega)) rfl) (by rfl) rfl ?_
          refine Runs_cnd rfl rfl (Grd.is rfl) [(99, _)] (fun hg => ⟨cnd_at rfl (by first | exact hg | exact hg.1 | exact hg.1.1 | exact hg.1.1.1), trivial⟩) (fun hg => Valid.loadeltSl rfl ag22 rfl rfl) (by rfl) rfl ?_
          refine Runs_cnd rfl rfl (Grd.is rfl) [] (fun hg => trivial) (fun hg => Valid.movek (A := SlA 1 _ _) rfl rfl) (by rfl) rfl ?_
          refine Runs_cnd rfl rfl (Grd.is rfl) [(101, _)] (fun hg => ⟨cnd_at rfl (by first | exact hg | exact hg.1 | exact hg.1.1 | exact hg.1.1.1), trivial⟩) (fun hg => Valid.eltM (F := Fl) [] rfl Try.underlying27 sz22 (ReadsA.sla rfl) rfl (by (try simp only [decide_eq_false_iff_not, Bool.or_eq_false_iff, Bool.not_eq_false', not_true_eq_false, not_false_eq_true, ne_eq] at hg); first | omega | (simp only [Int.toNat_natCast, toNat_add, toNat_add1, List.length_append, List.length_cons, List.length_nil, List.length_replicate]; omega)) rfl) (by rfl) rfl ?_
          refine Runs_cnd rfl rfl (Grd.is rfl) [(102, _)] (fun hg => ⟨cnd_at rfl (by first | exact hg | exact hg.1 | exact hg.1.1 | exact hg.1.1.1), trivial⟩) (fun hg => Valid.loadeltSl rfl ag22 rfl rfl) (by rfl) rfl ?_
          refine Runs_cnd rfl rfl (Grd.is rfl) [(100, _), (103, _)] (fun hg => ⟨cnd_at rfl (by first | exact hg | exact hg.1 | exact hg.1.1 | exact hg.1.1.1), cnd_at rfl (by first | exact hg | exact hg.1 | exact hg.1.1 | exact hg.1.1.1), trivial⟩) (fun hg => Valid.call rfl (ksame (tb M K 1) (by (try simp only [decide_eq_false_iff_not, Bool.or_eq_false_iff, Bool.not_eq_false', not_true_eq_false, not_false_eq_true, ne_eq] at hg); omega)) ⟨argle_sl (Reads.sl rfl), argle_sl (Reads.sl rfl), trivial⟩) (by rfl) rfl ?_
          refine Runs_cnd rfl rfl (Grd.is rfl) [(104, _)] (fun hg => ⟨cnd_at rfl (by first | exact hg | exact hg.1 | exact hg.1.1 | exact hg.1.1.1), trivial⟩) (fun hg => Valid.not rfl rfl) (by rfl) rfl ?_
          refine Runs_p rfl (Valid.pickor rfl rfl rfl rfl (fun h => by first | exact h | exact ⟨hg, h⟩)) rfl rfl ?_
          refine Runs_p rfl (Valid.movek (A := Is _) rfl rfl) rfl rfl ?_
          refine Runs_cnd rfl rfl (Grd.is rfl) [] (fun hg => trivial) (fun hg => Valid.movek (A := SlA 1 _ _) rfl rfl) (by rfl) rfl ?_
          refine Runs_cnd rfl rfl (Grd.is rfl) [(108, _)] (fun hg => ⟨cnd_at rfl (by first | exact hg | exact hg.1 | exact hg.1.1 | exact hg.1.1.1), trivial⟩) (fun hg => Valid.eltM (F := Fl) [] rfl Try.underlying27 sz22 (ReadsA.sla rfl) rfl (by (try simp only [decide_eq_false_iff_not, Bool.or_eq_false_iff, Bool.not_eq_false', not_true_eq_false, not_false_eq_true, ne_eq] at hg); first | omega | (simp only [Int.toNat_natCast, toNat_add, toNat_add1, List.length_append, List.length_cons, List.length_nil, List.length_replicate]; omega)) rfl) (by rfl) rfl ?_
          refine Runs_cnd rfl rfl (Grd.is rfl) [(109, _)] (fun hg => ⟨cnd_at rfl (by first | exact hg | exact hg.1 | exact hg.1.1 | exact hg.1.1.1), trivial⟩) (fun hg => Valid.loadeltSl rfl ag22 rfl rfl) (by rfl) rfl ?_
          refine Runs_cnd rfl rfl (Grd.is rfl) [(110, _)] (fun hg => ⟨cnd_at rfl (by first | exact hg | exact hg.1 | exact hg.1.1 | exact hg.1.1.1), trivial⟩) (fun hg => Valid.len rfl Try.underlying22 (Reads.sl rfl)) (by rfl) rfl ?_
          refine Runs_cnd rfl rfl (Grd.is rfl) [] (fun hg => trivial) (fun hg => Valid.movek (A := Is _) rfl rfl) (by rfl) rfl ?_
          refine Runs_cnd rfl rfl (Grd.is rfl) [(111, _), (112, _)] (fun hg => ⟨cnd_at rfl (by first | exact hg | exact hg.1 | exact hg.1.1 | exact hg.1.1.1), cnd_at rfl (by first | exact hg | exact hg.1 | exact hg.1.1 | exact hg.1.1.1), trivial⟩) (fun hg => Valid.neq rfl rfl rfl) (by rfl) rfl ?_
          refine Runs_p rfl (Valid.pickor rfl rfl rfl rfl (fun h => by first | exact h | exact ⟨hg, h⟩)) rfl rfl ?_
          refine Runs_nil ?_
          refine ⟨_, _, rfl, rfl, by kernel_rfl, ?_⟩
          refine thenQ_n ?_
          refine W_cond _ rfl (fun hb3 => ?_) (fun hb3 => ?_)
          · try simp only [decide_eq_true_eq, Bool.or_eq_true, Bool.not_eq_true', Bool.true_eq_false, not_true_eq_false, ne_eq] at hb3
            all_goals (
              exfalso
              first | omega | (simp at hb3; omega)
              
              done)
          · try simp only [decide_eq_false_iff_not, Bool.or_eq_false_iff, Bool.not_eq_false', not_true_eq_false, not_false_eq_true, ne_eq] at hb3
            all_goals (
              refine W_skip ?_
              refine thenQ_n ?_
              refine W_seq ?_
              refine W_regionE (c := 93) (c' := 96) (by kernel_rfl) rfl ?_
              refine Runs_p rfl (Valid.movek (A := Is _) rfl rfl) rfl rfl ?_
              refine Runs_w rfl (Valid.makebuf (Value.int .i64) 0 rfl Try.underlying22 tzv3 rfl rfl rfl (by omega) (by omega) (by omega)) rfl rfl ?_
              refine Runs_p rfl (Valid.assignk (A := Buf 752 _) rfl rfl) rfl rfl ?_
              refine Runs_nil ?_
              refine thenQ_n ?_
              refine W_seq ?_
              refine W_seq ?_
              refine W_regionE (c := 96) (c' := 97) (by kernel_rfl) rfl ?_
              refine Runs_p rfl (Valid.assignk (A := Is _) rfl rfl) rfl rfl ?_
              refine Runs_nil ?_
              refine thenQ_n ?_
              refine W_block ?_
              refine W_loopx (G := Nat) (fun (i : Nat) => i ≤ M.length) [(5, Is _), (6, Is _), (7, Sl 1 _ _), (10, SlA 1 _ _)] (fun (i : Nat) => [(17, Is (.int .i64 (i : Int))), (16, Buf 752 K)]) [] (fun (i : Nat) => [(752, .buf 3 ((oA M K 0 i).map (Value.int .i64)))]) 97 (fun (i : Nat) => M.length - i) (0) [] (by first | trivial | omega | (simp; omega)) ⟨⟨(leq_is rfl rfl (by first | rfl | omega)), (leq_buf rfl rfl rfl (by first | rfl | omega)), trivial⟩, ⟨(leq_is rfl rfl rfl), (leq_is rfl rfl rfl), (leq_sl (Reads.sl rfl) rfl rfl rfl), (leq_sla (ReadsA.sla rfl) rfl rfl rfl), trivial⟩, ⟨hp_buf rfl (by first | rfl | omega), trivial⟩, trivial, rfl, ⟨supg rfl, supg rfl, trivial⟩, ⟨supg rfl, supg rfl, supg rfl, supg rfl, trivial⟩, ⟨suph rfl rfl, trivial⟩, trivial, rfl, rfl⟩ ?_
              intro i hI2
              have hol := oA_len M K 0 i
              refine W_seq ?_
              refine W_seq ?_
              refine W_regionE (c := 97) (c' := 101) (by kernel_rfl) rfl ?_
              refine Runs_p rfl (Valid.movek (A := Is _) rfl rfl) rfl rfl ?_
              refine Runs_p rfl (Valid.movek (A := Sl 1 _ _) rfl rfl) rfl rfl ?_
              refine Runs_p rfl (Valid.len rfl Try.underlying22 (Reads.sl rfl)) rfl rfl ?_
              refine Runs_p rfl (Valid.lss rfl rfl rfl) rfl rfl ?_
              refine Runs_nil ?_
              refine thenQ_n ?_
              refine W_cond _ rfl (fun hb4 => ?_) (fun hb4 => ?_)
              · try simp only [decide_eq_true_eq] at hb4
                all_goals (
                  refine W_skip ?_
                  refine thenQ_n ?_
                  refine W_seq ?_
                  refine W_block ?_
                  refine W_seq ?_
                  refine W_regionE (c := 101) (c' := 105) (by kernel_rfl) rfl ?_
                  refine Runs_p rfl (Valid.movek (A := Is _) rfl rfl) rfl rfl ?_
                  refine Runs_p rfl (Valid.quo rfl rfl rfl (by omega) (by omega) (room64 (by omega) (by omega))) rfl rfl ?_
                  refine Runs_p rfl (Valid.rem rfl rfl rfl (by omega) (by omega)) rfl rfl ?_
                  refine Runs_p rfl (Valid.eql rfl rfl rfl) rfl rfl ?_
                  refine Runs_nil ?_
                  refine thenQ_n ?_
                  refine W_cond _ rfl (fun hb5 => ?_) (fun hb5 => ?_)
                  · try simp only [decide_eq_true_eq] at hb5
                    all_goals (
                      have hgm := hMg _ (getD_mem' (w := M) (i := i) (by omega))
                      have hgj : M.getD (i : Int).toNat 0 = M.getD i 0 := rfl
                      have hol := oA_len M K 0 i
                      have hob := oA_bd M K 0 i _ (getD_mem' (w := oA M K 0 i) (i := (M.getD i 0).toNat) (by omega))
                      simp only [Int.toNat_natCast] at *
                      refine W_regionE (c := 105) (c' := 115) (by kernel_rfl) rfl ?_
                      refine Runs_p rfl (Valid.movek (A := Buf 752 _) rfl rfl) rfl rfl ?_
                      refine Runs_p rfl (Valid.movek (A := Sl 1 _ _) rfl rfl) rfl rfl ?_
                      refine Runs_p rfl (Valid.movek (A := Is _) rfl rfl) rfl rfl ?_
                      refine Runs_p rfl (Valid.eltaddr1 0 rfl Try.underlying22 sz3 (Reads.sl rfl) rfl (by omega) (by first | omega | (simp; omega))) rfl rfl ?_
                      refine Runs_p rfl (Valid.loadelt rfl ag3 rfl) rfl rfl ?_
                      refine Runs_p rfl (Valid.idxB rfl Try.underlying22 sz3 rfl rfl (by first | omega | (simp only [Int.toNat_natCast]; omega))) rfl rfl ?_
                      refine Runs_p rfl (Valid.loadB 0 rfl ag3 rfl rfl (by first | omega | (simp only [Int.toNat_natCast]; omega))) rfl rfl ?_
                      refine Runs_p rfl (Valid.add rfl rfl rfl (room64 (by first | omega | (simp only [Int.toNat_natCast]; omega)) (by first | omega | (simp only [Int.toNat_natCast]; omega)))) rfl rfl ?_
                      refine Runs_p rfl (Valid.idxB rfl Try.underlying22 sz3 rfl rfl (by first | omega | (simp only [Int.toNat_natCast]; omega))) rfl rfl ?_
                      refine Runs_op rfl (Valid.storeB _ rfl sz3 rfl rfl (by first | omega | (simp only [Int.toNat_natCast]; omega)) rfl (One.is rfl rfl rfl)) rfl ?_
                      refine Runs_nil ?_
                      refine blockQ_n ?_
                      refine thenQ_n ?_
                      refine W_regionE (c := 115) (c' := 118) (by kernel_rfl) rfl ?_
                      refine Runs_p rfl (Valid.movek (A := Is _) rfl rfl) rfl rfl ?_
                      refine Runs_p rfl (Valid.add rfl rfl rfl (room64 (by omega) (by omega))) rfl rfl ?_
                      refine Runs_p rfl (Valid.assignk (A := Is _) rfl rfl) rfl rfl ?_
                      refine Runs_nil ?_
                      refine LoopQ.next (i + 1) [] (by omega) (by omega) ⟨⟨(leq_is rfl rfl (by first | rfl | omega | (rw [← oA_y (by omega)]; rfl) | (rw [← oA_n (by omega)]; done))), (leq_buf rfl rfl rfl (by first | rfl | omega | (rw [← oA_y (by omega)]; rfl) | (rw [← oA_n (by omega)]; done))), trivial⟩, ⟨(leq_is rfl rfl rfl), (leq_is rfl rfl rfl), (leq_sl (Reads.sl rfl) rfl rfl rfl), (leq_sla (ReadsA.sla rfl) rfl rfl rfl), trivial⟩, ⟨hp_buf rfl (by first | rfl | omega | (rw [← oA_y (by omega)]; rfl) | (rw [← oA_n (by omega)]; done)), trivial⟩, trivial, rfl, ⟨supg rfl, supg rfl, trivial⟩, ⟨supg rfl, supg rfl, supg rfl, supg rfl, trivial⟩, ⟨suph rfl rfl, trivial⟩, trivial, rfl, rfl⟩
                      done)
                  · try simp only [decide_eq_false_iff_not] at hb5
                    all_goals (
                      refine W_skip ?_
                      refine blockQ_n ?_
                      refine thenQ_n ?_
                      refine W_regionE (c := 105) (c' := 108) (by kernel_rfl) rfl ?_
                      refine Runs_p rfl (Valid.movek (A := Is _) rfl rfl) rfl rfl ?_
                      refine Runs_p rfl (Valid.add rfl rfl rfl (room64 (by omega) (by omega))) rfl rfl ?_
                      refine Runs_p rfl (Valid.assignk (A := Is _) rfl rfl) rfl rfl ?_
                      refine Runs_nil ?_
                      refine LoopQ.next (i + 1) [] (by omega) (by omega) ⟨⟨(leq_is rfl rfl (by first | rfl | omega | (rw [← oA_y (by omega)]; rfl) | (rw [← oA_n (by omega)]; done))), (leq_buf rfl rfl rfl (by first | rfl | omega | (rw [← oA_y (by omega)]; rfl) | (rw [← oA_n (by omega)]; done))), trivial⟩, ⟨(leq_is rfl rfl rfl), (leq_is rfl rfl rfl), (leq_sl (Reads.sl rfl) rfl rfl rfl), (leq_sla (ReadsA.sla rfl) rfl rfl rfl), trivial⟩, ⟨hp_buf rfl (by first | rfl | omega | (rw [← oA_y (by omega)]; rfl) | (rw [← oA_n (by omega)]; done)), trivial⟩, trivial, rfl, ⟨supg rfl, supg rfl, trivial⟩, ⟨supg rfl, supg rfl, supg rfl, supg rfl, trivial⟩, ⟨suph rfl rfl, trivial⟩, trivial, rfl, rfl⟩
                      done)
                  done)
              · try simp only [decide_eq_false_iff_not] at hb4
                all_goals (
                  refine W_exit ?_
                  refine thenQ_e ?_
                  refine loopQ_e ?_
                  refine blockQ_x ?_
                  refine thenQ_n ?_
                  refine W_seq ?_
                  refine W_seq ?_
                  obtain rfl : i = M.length := by omega
                  rw [oA_all]
                  have hcl := ctF_len M K 0
                  refine W_regionE (c := 101) (c' := 102) (by kernel_rfl) rfl ?_
                  refine Runs_p rfl (Valid.assignk (A := Is _) rfl rfl) rfl rfl ?_
                  refine Runs_nil ?_
                  refine thenQ_n ?_
                  refine W_block ?_
                  refine W_loopx (G := Nat) (fun (p : Nat) => p ≤ K) [(5, Is _), (6, Is _), (10, SlA 1 _ _)] (fun (p : Nat) => [(18, Is (.int .i64 (p : Int))), (16, Buf 752 K)]) [] (fun (p : Nat) => [(752, .buf 3 ((ctF M K 0).map (Value.int .i64)))]) 102 (fun (p : Nat) => K - p) (0) [] (by first | trivial | omega | (simp; omega)) ⟨⟨(leq_is rfl rfl (by first | rfl | omega)), (leq_buf rfl rfl rfl (by first | rfl | omega)), trivial⟩, ⟨(leq_is rfl rfl rfl), (leq_is rfl rfl rfl), (leq_sla (ReadsA.sla rfl) rfl rfl rfl), trivial⟩, ⟨hp_buf rfl (by first | rfl | omega), trivial⟩, trivial, rfl, ⟨supg rfl, supg rfl, trivial⟩, ⟨supg rfl, supg rfl, supg rfl, trivial⟩, ⟨suph rfl rfl, trivial⟩, trivial, rfl, rfl⟩ ?_
                  intro p hI3
                  refine W_seq ?_
                  refine W_seq ?_
                  refine W_regionE (c := 102) (c' := 105) (by kernel_rfl) rfl ?_
                  refine Runs_p rfl (Valid.movek (A := Is _) rfl rfl) rfl rfl ?_
                  refine Runs_p rfl (Valid.movek (A := Is _) rfl rfl) rfl rfl ?_
                  refine Runs_p rfl (Valid.lss rfl rfl rfl) rfl rfl ?_
                  refine Runs_nil ?_
                  refine thenQ_n ?_
                  refine W_cond _ rfl (fun hb6 => ?_) (fun hb6 => ?_)
                  · try simp only [decide_eq_true_eq] at hb6
                    all_goals (
                      refine W_skip ?_
                      refine thenQ_n ?_
                      refine W_seq ?_
                      refine W_block ?_
                      refine W_seq ?_
                      refine W_regionE (c := 105) (c' := 106) (by kernel_rfl) rfl ?_
                      refine Runs_p rfl (Valid.assignk (A := Is _) rfl rfl) rfl rfl ?_
                      refine Runs_nil ?_
                      refine thenQ_n ?_
                      refine W_block ?_
                      refine W_loopx (G := Nat) (fun (q : Nat) => q ≤ K) [(5, Is _), (6, Is _), (10, SlA 1 _ _), (18, Is _)] (fun (q : Nat) => [(19, Is (.int .i64 (q : Int))), (16, Buf 752 K)]) [] (fun (q : Nat) => [(752, .buf 3 ((ctF M K 0).map (Value.int .i64)))]) 106 (fun (q : Nat) => K - q) (0) [] (by first | trivial | omega | (simp; omega)) ⟨⟨(leq_is rfl rfl (by first | rfl | omega)), (leq_buf rfl rfl rfl (by first | rfl | omega)), trivial⟩, ⟨(leq_is rfl rfl rfl), (leq_is rfl rfl rfl), (leq_sla (ReadsA.sla rfl) rfl rfl rfl), (leq_is rfl rfl rfl), trivial⟩, ⟨hp_buf rfl (by first | rfl | omega), trivial⟩, trivial, rfl, ⟨supg rfl, supg rfl, trivial⟩, ⟨supg rfl, supg rfl, supg rfl, supg rfl, trivial⟩, ⟨suph rfl rfl, trivial⟩, trivial, rfl, rfl⟩ ?_
                      intro q hI4
                      refine W_seq ?_
                      refine W_seq ?_
                      refine W_regionE (c := 106) (c' := 109) (by kernel_rfl) rfl ?_
                      refine Runs_p rfl (Valid.movek (A := Is _) rfl rfl) rfl rfl ?_
                      refine Runs_p rfl (Valid.movek (A := Is _) rfl rfl) rfl rfl ?_
                      refine Runs_p rfl (Valid.lss rfl rfl rfl) rfl rfl ?_
                      refine Runs_nil ?_
                      refine thenQ_n ?_
                      refine W_cond _ rfl (fun hb7 => ?_) (fun hb7 => ?_)
                      · try simp only [decide_eq_true_eq] at hb7
                        all_goals (
                          refine W_skip ?_
                          refine thenQ_n ?_
                          refine W_seq ?_
                          refine W_block ?_
                          refine W_seq ?_
                          have hor := t5 p q (by omega) (by omega)
                          have hcp : (ctF M K 0).getD (p : Int).toNat 0 = (ctF M K 0).getD p 0 := rfl
                          have hcq : (ctF M K 0).getD (q : Int).toNat 0 = (ctF M K 0).getD q 0 := rfl
                          have hgp : (([tb M K 0, tb M K 1] : List (List Int)).getD ((0 : Int).toNat) []).getD p 0 = (tb M K 0).getD p 0 := rfl
                          have hgq : (([tb M K 0, tb M K 1] : List (List Int)).getD ((0 : Int).toNat) []).getD q 0 = (tb M K 0).getD q 0 := rfl
                          refine W_drawE (c := 109) (c' := 136) (by kernel_rfl) rfl ?_
                          refine Runs_p rfl (Valid.movek (A := Buf 752 _) rfl rfl) rfl rfl ?_
                          refine Runs_p rfl (Valid.movek (A := Is _) rfl rfl) rfl rfl ?_
                          refine Runs_p rfl (Valid.idxB rfl Try.underlying22 sz3 rfl rfl (by omega)) rfl rfl ?_
                          refine Runs_p rfl (Valid.loadB 0 rfl ag3 rfl rfl (by omega)) rfl rfl ?_
                          refine Runs_p rfl (Valid.eql rfl rfl rfl) rfl rfl ?_
                          refine Runs_p rfl (Valid.movek (A := Is _) rfl rfl) rfl rfl ?_
                          refine Runs_cnds (t := 16) rfl rfl (Grd.is rfl) [] (fun hg => trivial) (fun hg => Valid.movek (A := Buf 752 _) rfl rfl) (by simp [Op.operands]) rfl rfl ?_
                          refine Runs_cnd rfl rfl (Grd.is rfl) [] (fun hg => trivial) (fun hg => Valid.movek (A := Is _) rfl rfl) (by rfl) rfl ?_
                          refine Runs_cnds (t := 152) rfl rfl (Grd.is rfl) [(152, _), (153, _)] (fun hg => ⟨cnd_at rfl (by first | exact hg | exact hg.1 | exact hg.1.1 | exact hg.1.1.1), cnd_at rfl (by first | exact hg | exact hg.1 | exact hg.1.1 | exact hg.1.1.1), trivial⟩) (fun hg => Valid.idxB rfl Try.underlying22 sz3 rfl rfl (by (try simp only [Int.toNat_natCast, decide_eq_true_eq] at hg); first | omega | (simp only [Int.toNat_natCast, toNat_add, toNat_add1, List.length_append, List.length_cons, List.length_nil, List.length_replicate]; omega))) (by simp [Op.operands]) rfl rfl ?_
                          refine Runs_cnd rfl rfl (Grd.is rfl) [(154, _)] (fun hg => ⟨cnd_at rfl (by first | exact hg | exact hg.1 | exact hg.1.1 | exact hg.1.1.1), trivial⟩) (fun hg => Valid.loadB 0 rfl ag3 rfl rfl (by omega)) (by rfl) rfl ?_
                          refine Runs_cnd rfl rfl (Grd.is rfl) [(155, _)] (fun hg => ⟨cnd_at rfl (by first | exact hg | exact hg.1 | exact hg.1.1 | exact hg.1.1.1), trivial⟩) (fun hg => Valid.gtr rfl rfl rfl) (by rfl) rfl ?_
                          refine Runs_p rfl (Valid.pickand rfl rfl rfl (fun h => by first | exact h | exact ⟨hg, h⟩) rfl) rfl rfl ?_
                          refine Runs_p rfl (Valid.movek (A := Is _) rfl rfl) rfl rfl ?_
                          refine Runs_cnd rfl rfl (Grd.is rfl) [] (fun hg => trivial) (fun hg => Valid.movek (A := SlA 1 _ _) rfl rfl) (by rfl) rfl ?_
                          refine Runs_cnd rfl rfl (Grd.is rfl) [(159, _)] (fun hg => ⟨cnd_at rfl (by first | exact hg | exact hg.1 | exact hg.1.1 | exact hg.1.1.1), trivial⟩) (fun hg => Valid.eltM (F := Fl) [] rfl Try.underlying27 sz22 (ReadsA.sla rfl) rfl (by (try simp only [Int.toNat_natCast, decide_eq_true_eq, Bool.and_eq_true] at hg); first | omega | (simp only [Int.toNat_natCast, toNat_add, toNat_add1, List.length_append, List.length_cons, List.length_nil, List.length_replicate]; omega)) rfl) (by rfl) rfl ?_
                          refine Runs_cnd rfl rfl (Grd.is rfl) [(160, _)] (fun hg => ⟨cnd_at rfl (by first | exact hg | exact hg.1 | exact hg.1.1 | exact hg.1.1.1), trivial⟩) (fun hg => Valid.loadeltSl rfl ag22 rfl rfl) (by rfl) rfl ?_
                          refine Runs_cnd rfl rfl (Grd.is rfl) [] (fun hg => trivial) (fun hg => Valid.movek (A := Is _) rfl rfl) (by rfl) rfl ?_
                          refine Runs_cnd rfl rfl (Grd.is rfl) [(161, _), (162, _)] (fun hg => ⟨cnd_at rfl (by first | exact hg | exact hg.1 | exact hg.1.1 | exact hg.1.1.1), cnd_at rfl (by first | exact hg | exact hg.1 | exact hg.1.1 | exact hg.1.1.1), trivial⟩) (fun hg => Valid.eltaddr1 0 rfl Try.underlying22 sz3 (Reads.sl rfl) rfl (by (try simp only [Int.toNat_natCast, decide_eq_true_eq, Bool.and_eq_true] at hg); first | omega | (simp only [Int.toNat_natCast, toNat_add, toNat_add1, List.length_append, List.length_cons, List.length_nil, List.length_replicate]; omega)) rfl) (by rfl) rfl ?_
                          refine Runs_cnd rfl rfl (Grd.is rfl) [(163, _)] (fun hg => ⟨cnd_at rfl (by first | exact hg | exact hg.1 | exact hg.1.1 | exact hg.1.1.1), trivial⟩) (fun hg => Valid.loadelt rfl ag3 rfl) (by rfl) rfl ?_
                          refine Runs_cnd rfl rfl (Grd.is rfl) [] (fun hg => trivial) (fun hg => Valid.movek (A := SlA 1 _ _) rfl rfl) (by rfl) rfl ?_
                          refine Runs_cnd rfl rfl (Grd.is rfl) [(165, _)] (fun hg => ⟨cnd_at rfl (by first | exact hg | exact hg.1 | exact hg.1.1 | exact hg.1.1.1), trivial⟩) (fun hg => Valid.eltM (F := Fl) [] rfl Try.underlying27 sz22 (ReadsA.sla rfl) rfl (by (try simp only [Int.toNat_natCast, decide_eq_true_eq, Bool.and_eq_true] at hg); first | omega | (simp only [Int.toNat_natCast, toNat_add, toNat_add1, List.length_append, List.length_cons, List.length_nil, List.length_replicate]; omega)) rfl) (by rfl) rfl ?_
                          refine Runs_cnd rfl rfl (Grd.is rfl) [(166, _)] (fun hg => ⟨cnd_at rfl (by first | exact hg | exact hg.1 | exact hg.1.1 | exact hg.1.1.1), trivial⟩) (fun hg => Valid.loadeltSl rfl ag22 rfl rfl) (by rfl) rfl ?_
                          refine Runs_cnd rfl rfl (Grd.is rfl) [] (fun hg => trivial) (fun hg => Valid.movek (A := Is _) rfl rfl) (by rfl) rfl ?_
                          refine Runs_cnd rfl rfl (Grd.is rfl) [(167, _), (168, _)] (fun hg => ⟨cnd_at rfl (by first | exact hg | exact hg.1 | exact hg.1.1 | exact hg.1.1.1), cnd_at rfl (by first | exact hg | exact hg.1 | exact hg.1.1 | exact hg.1.1.1), trivial⟩) (fun hg => Valid.eltaddr1 0 rfl Try.underlying22 sz3 (Reads.sl rfl) rfl (by (try simp only [Int.toNat_natCast, decide_eq_true_eq, Bool.and_eq_true] at hg); first | omega | (simp only [Int.toNat_natCast, toNat_add, toNat_add1, List.length_append, List.length_cons, List.length_nil, List.length_replicate]; omega)) rfl) (by rfl) rfl ?_
                          refine Runs_cnd rfl rfl (Grd.is rfl) [(169, _)] (fun hg => ⟨cnd_at rfl (by first | exact hg | exact hg.1 | exact hg.1.1 | exact hg.1.1.1), trivial⟩) (fun hg => Valid.loadelt rfl ag3 rfl) (by rfl) rfl ?_
                          refine Runs_cnd rfl rfl (Grd.is rfl) [(164, _), (170, _)] (fun hg => ⟨cnd_at rfl (by first | exact hg | exact hg.1 | exact hg.1.1 | exact hg.1.1.1), cnd_at rfl (by first | exact hg | exact hg.1 | exact hg.1.1 | exact hg.1.1.1), trivial⟩) (fun hg => Valid.lss rfl rfl rfl) (by rfl) rfl ?_
                          refine Runs_p rfl (Valid.pickand rfl rfl rfl (fun h => by first | exact h | exact ⟨hg, h⟩) rfl) rfl rfl ?_
                          refine Runs_nil ?_
                          refine ⟨_, _, rfl, rfl, by kernel_rfl, ?_⟩
                          refine thenQ_n ?_
                          refine W_cond _ rfl (fun hb8 => ?_) (fun hb8 => ?_)
                          · try simp only [Int.toNat_natCast, decide_eq_true_eq, Bool.and_eq_true] at hb8
                            all_goals (
                              exfalso
                              first | omega | (simp at hb8; omega)
                              
                              done)
                          · try simp only [Int.toNat_natCast, decide_eq_false_iff_not, Bool.and_eq_false_iff] at hb8
                            all_goals (
                              refine W_skip ?_
                              refine blockQ_n ?_
                              refine thenQ_n ?_
                              refine W_regionE (c := 136) (c' := 139) (by kernel_rfl) rfl ?_
                              refine Runs_p rfl (Valid.movek (A := Is _) rfl rfl) rfl rfl ?_
                              refine Runs_p rfl (Valid.add rfl rfl rfl (room64 (by omega) (by omega))) rfl rfl ?_
                              refine Runs_p rfl (Valid.assignk (A := Is _) rfl rfl) rfl rfl ?_
                              refine Runs_nil ?_
                              refine LoopQ.next (q + 1) [] (by omega) (by omega) ⟨⟨(leq_is rfl rfl (by first | rfl | omega)), (leq_buf rfl rfl rfl (by first | rfl | omega)), trivial⟩, ⟨(leq_is rfl rfl rfl), (leq_is rfl rfl rfl), (leq_sla (ReadsA.sla rfl) rfl rfl rfl), (leq_is rfl rfl rfl), trivial⟩, ⟨hp_buf rfl (by first | rfl | omega), trivial⟩, trivial, rfl, ⟨supg rfl, supg rfl, trivial⟩, ⟨supg rfl, supg rfl, supg rfl, supg rfl, trivial⟩, ⟨suph rfl rfl, trivial⟩, trivial, rfl, rfl⟩
                              done)
                          done)
                      · try simp only [decide_eq_false_iff_not] at hb7
                        all_goals (
                          refine W_exit ?_
                          refine thenQ_e ?_
                          refine loopQ_e ?_
                          refine blockQ_x ?_
                          refine blockQ_n ?_
                          refine thenQ_n ?_
                          refine W_regionE (c := 109) (c' := 112) (by kernel_rfl) rfl ?_
                          refine Runs_p rfl (Valid.movek (A := Is _) rfl rfl) rfl rfl ?_
                          refine Runs_p rfl (Valid.add rfl rfl rfl (room64 (by omega) (by omega))) rfl rfl ?_
                          refine Runs_p rfl (Valid.assignk (A := Is _) rfl rfl) rfl rfl ?_
                          refine Runs_nil ?_
                          refine LoopQ.next (p + 1) [] (by omega) (by omega) ⟨⟨(leq_is rfl rfl (by first | rfl | omega)), (leq_buf rfl rfl rfl (by first | rfl | omega)), trivial⟩, ⟨(leq_is rfl rfl rfl), (leq_is rfl rfl rfl), (leq_sla (ReadsA.sla rfl) rfl rfl rfl), trivial⟩, ⟨hp_buf rfl (by first | rfl | omega), trivial⟩, trivial, rfl, ⟨supg rfl, supg rfl, trivial⟩, ⟨supg rfl, supg rfl, supg rfl, trivial⟩, ⟨suph rfl rfl, trivial⟩, trivial, rfl, rfl⟩
                          done)
                      done)
                  · try simp only [decide_eq_false_iff_not] at hb6
                    all_goals (
                      refine W_exit ?_
                      refine thenQ_e ?_
                      refine loopQ_e ?_
                      refine blockQ_x ?_
                      refine thenQ_n ?_
                      refine W_seq ?_
                      refine W_regionE (c := 105) (c' := 107) (by kernel_rfl) rfl ?_
                      refine Runs_p rfl (Valid.movek (A := Is _) rfl rfl) rfl rfl ?_
                      refine Runs_p rfl (Valid.assignk (A := Is _) rfl rfl) rfl rfl ?_
                      refine Runs_nil ?_
                      refine thenQ_n ?_
                      refine W_ret ?_
                      refine finQ_r ?_
                      refine ResOk.one rfl (RVal.is rfl rfl (by first | rfl | (exfalso; simp at hb1; done) | (exfalso; simp at hb2; done) | (exfalso; simp at hb3; done) | (exfalso; simp at hb4; done) | (exfalso; simp at hb5; done) | (exfalso; simp at hb6; done) | (exfalso; simp at hb7; done) | (exfalso; simp at hb8; done) | (exfalso; simp at hb9; done) | (exfalso; simp at hb10; done) | (exfalso; simp at hb11; done) | (exfalso; simp at hb12; done) | (exfalso; simp at hb13; done)))
                      done)
                  done)
              done)
          done)
      done)
end Kf
end Go.Proofs.Ytdcenocljnlipaa
