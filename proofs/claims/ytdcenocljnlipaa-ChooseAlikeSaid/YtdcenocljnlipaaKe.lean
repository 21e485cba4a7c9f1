/-
  WALKS of stage 11: the law ChooseAlike.
-/
import Derived.Test.YtdcenocljnlipaaRows
import Derived.Test.YtdcenocljnlipaaMgc
import Derived.Test.YtdcenocljnlipaaWa
import Derived.Test.YtdcenocljnlipaaWb
import Derived.Test.YtdcenocljnlipaaWm
import Derived.Test.YtdcenocljnlipaaWc
import Derived.Test.YtdcenocljnlipaaWd
import Derived.Test.YtdcenocljnlipaaWe
import Derived.Test.YtdcenocljnlipaaWf
import Derived.Test.YtdcenocljnlipaaWg
import Derived.Test.YtdcenocljnlipaaWk
import Derived.Test.YtdcenocljnlipaaOa
import Derived.Test.YtdcenocljnlipaaOb
import Derived.Test.YtdcenocljnlipaaOc
import Derived.Test.YtdcenocljnlipaaOd
import Derived.Test.YtdcenocljnlipaaOf
import Derived.Test.YtdcenocljnlipaaOi
import Derived.Test.YtdcenocljnlipaaWh
import Derived.Test.YtdcenocljnlipaaCm
import Derived.Test.YtdcenocljnlipaaKa
import Derived.Test.YtdcenocljnlipaaKb
import Derived.Test.YtdcenocljnlipaaKl
import Derived.Test.YtdcenocljnlipaaKj
import Derived.Test.YtdcenocljnlipaaKc
import Derived.Test.YtdcenocljnlipaaKd
import Derived.Test.YtdcenocljnlipaaKn
namespace Go.Proofs.Ytdcenocljnlipaa
open Go.RowKit
namespace Ke
open Ab Wa Wb Wm Wc Wd We Wf Wg Wk Oa Ob Oc Od Of Oi Wh Cm Ka Kb Kl Kj Kc Kd Kn
theorem ag22 (w : World) : (isAgg 22).run Try.prog w = .ok false w := by kernel_rfl
theorem ag3 (w : World) : (isAgg 3).run Try.prog w = .ok false w := by kernel_rfl
theorem sz22 (w : World) : (sizeOf 22).run Try.prog w = .ok 1 w := by kernel_rfl
theorem sz3 (w : World) : (sizeOf 3).run Try.prog w = .ok 1 w := by kernel_rfl
theorem ti3 : TI Try.prog 3 1 8 := .mk' (z := (Value.int .i64 0)) (by kernel_rfl) rfl
theorem tz3 : (Try.prog.info? 3).map (fun i => (i.zero, i.size, i.bytes)) = some (some (.int .i64 0), 1, 8) := by kernel_rfl
set_option maxRecDepth 100000 in
set_option maxHeartbeats 1000000 in
theorem symm_s (raw : List Int) (n : Int) (m : Nat) (hr : In64 raw) (hl : raw.length ≤ 9223372036854775807) (hn : 0 < n) (hn2 : n ≤ 1000000) (hm : m ≤ 1000000) :
    FMem Try.prog 10 [Sl 1 raw.length (raw.map (Value.int .i64)), Is (.int .i64 n), Is (.int .i64 (m : Int))] [] (Ab.Own 8 1 (symV raw n m).length ((symV raw n m).map I64)) [(8, .row 3 1 (symV raw n m).length ((symV raw n m).map I64))] := by
  refine FMem.of Try.func10 Try.ntmps10 rfl (by kernel_rfl) rfl rfl rfl ?_
  refine W_seq ?_
  refine W_regionE (c := 1) (c' := 2) (by kernel_rfl) rfl ?_
  refine Runs_p rfl (Valid.assignk (A := Is (.slice none 0 0)) rfl rfl) rfl rfl ?_
  refine Runs_nil ?_
  refine thenQ_n ?_
  refine W_seq ?_
  refine W_regionE (c := 2) (c' := 3) (by kernel_rfl) rfl ?_
  refine Runs_p rfl (Valid.assignk (A := Is (.slice none 0 0)) rfl rfl) rfl rfl ?_
  refine Runs_nil ?_
  refine thenQ_n ?_
  refine W_seq ?_
  refine W_seq ?_
  refine W_regionE (c := 3) (c' := 4) (by kernel_rfl) rfl ?_
  refine Runs_p rfl (Valid.assignk (A := Is _) rfl rfl) rfl rfl ?_
  refine Runs_nil ?_
  refine thenQ_n ?_
  refine W_block ?_
  refine W.ent ?_ (Ent.ownnil 7 3 1 rfl)
  refine W_loopx (G := Nat) (fun (k : Nat) => k ≤ raw.length ∧ k ≤ m) [(0, Sl 1 _ _), (1, Is _), (2, Is _)] (fun (k : Nat) => [(8, Is (.int .i64 (k : Int))), (7, Ab.Own 32 1 k ((symV raw n k).map I64))]) [] (fun (k : Nat) => [(32, .row 3 1 k ((symV raw n k).map I64))]) 5 (fun (k : Nat) => raw.length - k) (0) [] (⟨by omega, by omega⟩) ⟨⟨(leq_is rfl rfl (by first | rfl | exact sym_1 _ _ _ (by omega))), (leq_own rfl rfl rfl (by first | rfl | exact sym_1 _ _ _ (by omega)) (by first | rfl | exact sym_1 _ _ _ (by omega))), trivial⟩, ⟨(leq_sl (Reads.sl rfl) rfl rfl rfl), (leq_is rfl rfl rfl), (leq_is rfl rfl rfl), trivial⟩, ⟨hp_row rfl (by first | rfl | exact sym_1 _ _ _ (by omega)) (by first | rfl | exact sym_1 _ _ _ (by omega)), trivial⟩, trivial, rfl, ⟨supg rfl, supg rfl, trivial⟩, ⟨supg rfl, supg rfl, supg rfl, trivial⟩, ⟨suph rfl rfl, trivial⟩, trivial, rfl, rfl⟩ ?_
  intro k hI1
  obtain ⟨hk1, hk2⟩ := hI1
  refine W_seq ?_
  refine W_seq ?_
  refine W_regionE (c := 5) (c' := 14) (by kernel_rfl) rfl ?_
  refine Runs_p rfl (Valid.movek (A := Is _) rfl rfl) rfl rfl ?_
  refine Runs_p rfl (Valid.movek (A := Sl 1 _ _) rfl rfl) rfl rfl ?_
  refine Runs_p rfl (Valid.len rfl Try.underlying22 (Reads.sl rfl)) rfl rfl ?_
  refine Runs_p rfl (Valid.lss rfl rfl rfl) rfl rfl ?_
  refine Runs_p rfl (Valid.movek (A := Is _) rfl rfl) rfl rfl ?_
  refine Runs_cnd rfl rfl (Grd.is rfl) [] (fun hg => trivial) (fun hg => Valid.movek (A := Is _) rfl rfl) (by rfl) rfl ?_
  refine Runs_cnd rfl rfl (Grd.is rfl) [] (fun hg => trivial) (fun hg => Valid.movek (A := Is _) rfl rfl) (by rfl) rfl ?_
  refine Runs_cnd rfl rfl (Grd.is rfl) [(14, _), (15, _)] (fun hg => ⟨cnd_at rfl (by first | exact hg | exact hg.1 | exact hg.1.1 | exact hg.1.1.1), cnd_at rfl (by first | exact hg | exact hg.1 | exact hg.1.1 | exact hg.1.1.1), trivial⟩) (fun hg => Valid.lss rfl rfl rfl) (by rfl) rfl ?_
  refine Runs_p rfl (Valid.pickand rfl rfl rfl (fun h => by first | exact h | exact ⟨hg, h⟩) rfl) rfl rfl ?_
  refine Runs_nil ?_
  refine thenQ_n ?_
  refine W_cond _ rfl (fun hb1 => ?_) (fun hb1 => ?_)
  · try simp only [decide_eq_true_eq, Bool.and_eq_true] at hb1
    all_goals (
      refine W_skip ?_
      refine thenQ_n ?_
      refine W_seq ?_
      refine W_block ?_
      refine W_regionE (c := 14) (c' := 24) (by kernel_rfl) rfl ?_
      refine Runs_p rfl (Valid.movek (A := Ab.Own 32 1 _ _) rfl rfl) rfl rfl ?_
      refine Runs_p rfl (Valid.movek (A := Sl 1 _ _) rfl rfl) rfl rfl ?_
      refine Runs_p rfl (Valid.movek (A := Is _) rfl rfl) rfl rfl ?_
      refine Runs_p rfl (Valid.eltaddr1 0 rfl Try.underlying22 sz3 (Reads.sl rfl) rfl (by omega) rfl) rfl rfl ?_
      refine Runs_p rfl (Valid.loadelt rfl ag3 rfl) rfl rfl ?_
      refine Runs_p rfl (Valid.movek (A := Is _) rfl rfl) rfl rfl ?_
      refine Runs_p rfl (Valid.call rfl (pick8_s _ _ (hr.at_ _).1 (hr.at_ _).2 (by omega) (by omega)) ⟨argle rfl, argle rfl, trivial⟩) rfl rfl ?_
      refine Runs_p rfl (Valid.lit (el := 3) [_] rfl rfl (fun _ => by kernel_rfl) rfl (by decide)) rfl rfl ?_
      refine Runs_w rfl (Valid.app rfl Try.underlying22 ti3 (by decide) rfl rfl (Reads.sl rfl) (by first | exact one_map (fun _ => rfl) | exact one_cons rfl one_nil | exact one_app (one_map (fun _ => rfl)) (one_cons rfl one_nil) | exact one_app (one_map (fun _ => rfl)) (one_map (fun _ => rfl)) | exact one_rep rfl | exact one_app (one_rep rfl) (one_map (fun _ => rfl)) | (intro u hu; simp at hu; rcases hu with rfl | hu <;> first | rfl | (subst hu; rfl))) (by simp only [maxLen]; omega) (by omega)) rfl rfl ?_
      refine Runs_p rfl (Valid.assignk (A := Ab.Own 176 1 _ _) rfl rfl) rfl rfl ?_
      refine Runs_nil ?_
      refine blockQ_n ?_
      refine thenQ_n ?_
      refine W_regionE (c := 24) (c' := 27) (by kernel_rfl) rfl ?_
      refine Runs_p rfl (Valid.movek (A := Is _) rfl rfl) rfl rfl ?_
      refine Runs_p rfl (Valid.add rfl rfl rfl (room64 (by omega) (by omega))) rfl rfl ?_
      refine Runs_p rfl (Valid.assignk (A := Is _) rfl rfl) rfl rfl ?_
      refine Runs_nil ?_
      refine LoopQ.next (k + 1) [(32, 176)] (⟨by omega, by omega⟩) (by first | omega | (dsimp only; omega)) ⟨⟨(leq_is rfl rfl (by first | rfl | exact sym_1 _ _ _ (by omega))), (leq_own rfl rfl rfl (by first | rfl | exact sym_1 _ _ _ (by omega)) (by first | rfl | exact sym_1 _ _ _ (by omega))), trivial⟩, ⟨(leq_sl (Reads.sl rfl) rfl rfl rfl), (leq_is rfl rfl rfl), (leq_is rfl rfl rfl), trivial⟩, ⟨hp_row rfl (by first | rfl | exact sym_1 _ _ _ (by omega)) (by first | rfl | exact sym_1 _ _ _ (by omega)), trivial⟩, trivial, rfl, ⟨supg rfl, supg rfl, trivial⟩, ⟨supg rfl, supg rfl, supg rfl, trivial⟩, ⟨suph rfl rfl, trivial⟩, trivial, rfl, rfl⟩
      done)
  · try simp only [decide_eq_false_iff_not, Bool.and_eq_false_iff] at hb1
    all_goals (
      refine W_exit ?_
      refine thenQ_e ?_
      refine loopQ_e ?_
      refine blockQ_x ?_
      refine thenQ_n ?_
      refine W_seq ?_
      refine W_regionE (c := 14) (c' := 16) (by kernel_rfl) rfl ?_
      refine Runs_p rfl (Valid.movek (A := Ab.Own 32 1 _ _) rfl rfl) rfl rfl ?_
      refine Runs_p rfl (Valid.assignk (A := Ab.Own 32 1 _ _) rfl rfl) rfl rfl ?_
      refine Runs_nil ?_
      refine thenQ_n ?_
      refine W_ret ?_
      refine finMQ_r ?_
      exact FinM.leq [(8, 32)] (ResOk.one rfl (RVal.tmp (fun _ _ _ h => h))) (leq_own rfl rfl rfl (by first | rfl | (rw [← sym_end raw n k m (by omega) (by omega) (by omega), sym_len]; omega) | (rw [← sym_end raw n k m (by omega) (by omega) (by omega)])) (by first | rfl | (rw [← sym_end raw n k m (by omega) (by omega) (by omega), sym_len]; omega) | (rw [← sym_end raw n k m (by omega) (by omega) (by omega)]))) ⟨hp_row rfl (by first | rfl | (rw [← sym_end raw n k m (by omega) (by omega) (by omega), sym_len]; omega) | (rw [← sym_end raw n k m (by omega) (by omega) (by omega)])) (by first | rfl | (rw [← sym_end raw n k m (by omega) (by omega) (by omega), sym_len]; omega) | (rw [← sym_end raw n k m (by omega) (by omega) (by omega)])), trivial⟩ rfl rfl
      done)

theorem alike1 {m : List Int} {k : Nat} (h1 : 1 ≤ m.length) (h2 : m.length ≤ 10) : ctF m k 1 = List.replicate k 0 := by
  have hn : ng m = 1 := by unfold ng; omega
  rw [ctF, hn, ctA_n (by decide), ctA]
theorem gp_a {p : List Int} (hp : p.length = 10) : gp (p ++ p) 0 = p ∧ gp (p ++ p) 1 = p := by
  unfold gp
  refine ⟨?_, ?_⟩
  · rw [show 10 * 0 = 0 from rfl, List.drop_zero, List.take_append_of_le_length (by omega), List.take_of_length_le (by omega)]
  · rw [List.drop_append_of_le_length (by omega), List.drop_of_length_le (by omega), List.nil_append, List.take_of_length_le (by omega)]
theorem alike2 {p : List Int} {k : Nat} (hp : p.length = 10) : tb (p ++ p) k 0 = tb (p ++ p) k 1 ∧ ch (p ++ p) k = [0, 0] := by
  have hn : ng (p ++ p) = 2 := by unfold ng; rw [List.length_append]; omega
  obtain ⟨g0, g1⟩ := gp_a hp
  have e : ctF (p ++ p) k 0 = ctF (p ++ p) k 1 := by
    rw [ctF, ctF, hn, ctA_n (by decide), ctA_y (by decide), ctA_y (by decide), ctA_n (by decide), g0, g1]; rfl
  have e2 : tb (p ++ p) k 0 = tb (p ++ p) k 1 := by rw [tb, tb, e]
  refine ⟨e2, ?_⟩
  rw [ch, hn, chA_s, chA_s, e2, if_neg (by omega), if_neg (by omega)]; rfl
/-- ten of them -/
def pad (m : List Int) (j : Nat) : List Int := m ++ List.replicate j (m.getD 0 0)
theorem pad_len (m : List Int) (j : Nat) : (pad m j).length = m.length + j := by unfold pad; rw [List.length_append, List.length_replicate]
theorem pad_s (m : List Int) (j : Nat) : pad m j ++ [m.getD 0 0] = pad m (j + 1) := by unfold pad; rw [List.append_assoc, List.replicate_succ']
theorem pad_0 {m : List Int} (h : 1 ≤ m.length) (j : Nat) : (pad m j).getD 0 0 = m.getD 0 0 := by
  unfold pad
  rw [List.getD_eq_getElem?_getD, List.getElem?_append_left (by omega), ← List.getD_eq_getElem?_getD]
theorem pad_m {m : List Int} {t : Int} (h1 : 1 ≤ m.length) (h : ∀ x ∈ m, 0 ≤ x ∧ x < t) (j : Nat) : ∀ x ∈ pad m j, 0 ≤ x ∧ x < t := fun x hx => by
  rcases List.mem_append.1 hx with e | e
  · exact h x e
  · rw [List.eq_of_mem_replicate e]; exact h _ (gmem (by omega))
theorem app_m {m : List Int} {t : Int} (h : ∀ x ∈ m, 0 ≤ x ∧ x < t) : ∀ x ∈ m ++ m, 0 ≤ x ∧ x < t := fun x hx => by
  rcases List.mem_append.1 hx with e | e <;> exact h x e

set_option maxRecDepth 100000 in
set_option maxHeartbeats 1000000 in
theorem alike_w (raw : List Int) (hraw : In64 raw) (lraw : raw.length ≤ 9223372036854775807) (n : Int) (wn : -9223372036854775808 ≤ n ∧ n ≤ 9223372036854775807) :
    FPure Try.prog 6 [Sl 1 raw.length (raw.map (Value.int .i64)), Is (.int .i64 (n : Int))] (Is (.bool true)) := by
  refine FPure.of Try.func6 Try.ntmps6 rfl (by kernel_rfl) rfl rfl rfl ?_
  refine W_seq ?_
  refine W_regionE (c := 1) (c' := 2) (by kernel_rfl) rfl ?_
  refine Runs_p rfl (Valid.assignk (A := Is _) rfl rfl) rfl rfl ?_
  refine Runs_nil ?_
  refine thenQ_n ?_
  refine W_seq ?_
  refine W_regionE (c := 2) (c' := 4) (by kernel_rfl) rfl ?_
  refine Runs_p rfl (Valid.call rfl (awake11_s) trivial) rfl rfl ?_
  refine Runs_p rfl (Valid.assignk (A := Is _) rfl rfl) rfl rfl ?_
  refine Runs_nil ?_
  refine thenQ_n ?_
  refine W_seq ?_
  have hpk := pickV_range n 30 (by decide)
  obtain ⟨K, hK⟩ : ∃ K : Nat, 2 + pickV n 30 = (K : Int) := ⟨(2 + pickV n 30).toNat, by omega⟩
  refine W_regionE (c := 4) (c' := 8) (by kernel_rfl) rfl ?_
  refine Runs_p rfl (Valid.movek (A := Is _) rfl rfl) rfl rfl ?_
  refine Runs_p rfl (Valid.call rfl (pick11_s _ _ wn.1 wn.2 (by decide) (by decide)) ⟨argle rfl, argle rfl, trivial⟩) rfl rfl ?_
  refine Runs_p rfl (Valid.add rfl rfl rfl (room64 (by omega) (by omega))) rfl rfl ?_
  refine Runs_p rfl (Valid.assignk (A := Is _) rfl rfl) rfl rfl ?_
  refine Runs_nil ?_
  refine thenQ_n ?_
  refine W_seq ?_
  rw [hK]
  refine W_regionE (c := 8) (c' := 12) (by kernel_rfl) rfl ?_
  refine Runs_p rfl (Valid.movek (A := Sl 1 _ _) rfl rfl) rfl rfl ?_
  refine Runs_p rfl (Valid.movek (A := Is _) rfl rfl) rfl rfl ?_
  refine Runs_w rfl (Valid.callm [] rfl (.inl ⟨rfl, rfl⟩) (symm_s raw K 10 (by assumption) (by omega) (by omega) (by omega) (by decide)) ⟨(leq_sl (Reads.sl rfl) rfl rfl rfl), (leq_is rfl rfl rfl), (leq_is rfl rfl rfl), trivial⟩ trivial (up_own' (id' := 80) rfl) (hpup_cons (j := 80) rfl cup_row hpup_nil) (by kernel_rfl) (by kernel_rfl) (by kernel_rfl) (by kernel_rfl) (by kernel_rfl) (by kernel_rfl) (by kernel_rfl) (by kernel_rfl) (by kernel_rfl)) rfl rfl ?_
  refine Runs_p rfl (Valid.assignk (A := Ab.Own 80 1 _ _) rfl rfl) rfl rfl ?_
  refine Runs_nil ?_
  refine thenQ_n ?_
  refine W_seq ?_
  refine W_seq ?_
  have hsl := sym_len raw (K : Int) 10
  have hsg := sym_rg raw (K : Int) 10 (by omega)
  generalize symV raw (K : Int) 10 = m at *
  refine W_regionE (c := 12) (c' := 15) (by kernel_rfl) rfl ?_
  refine Runs_p rfl (Valid.movek (A := Ab.Own 80 1 _ _) rfl rfl) rfl rfl ?_
  refine Runs_p rfl (Valid.len rfl Try.underlying22 (Reads.own rfl)) rfl rfl ?_
  refine Runs_p rfl (Valid.eql rfl rfl rfl) rfl rfl ?_
  refine Runs_nil ?_
  refine thenQ_n ?_
  refine W_cond _ rfl (fun hb1 => ?_) (fun hb1 => ?_)
  · try simp only [decide_eq_true_eq] at hb1
    all_goals (
      refine W_seq ?_
      refine W_regionE (c := 15) (c' := 17) (by kernel_rfl) rfl ?_
      refine Runs_p rfl (Valid.movek (A := Is _) rfl rfl) rfl rfl ?_
      refine Runs_p rfl (Valid.assignk (A := Is _) rfl rfl) rfl rfl ?_
      refine Runs_nil ?_
      refine thenQ_n ?_
      refine W_ret ?_
      refine thenQ_r ?_
      refine finQ_r ?_
      refine ResOk.one rfl (RVal.is rfl rfl (by first | rfl | (exfalso; simp at hb1; done) | (exfalso; simp at hb2; done) | (exfalso; simp at hb3; done) | (exfalso; simp at hb4; done) | (exfalso; simp at hb5; done) | (exfalso; simp at hb6; done) | (exfalso; simp at hb7; done) | (exfalso; simp at hb8; done) | (exfalso; simp at hb9; done) | (exfalso; simp at hb10; done) | (exfalso; simp at hb11; done) | (exfalso; simp at hb12; done) | (exfalso; simp at hb13; done)))
      done)
  · try simp only [decide_eq_false_iff_not] at hb1
    all_goals (
      refine W_skip ?_
      refine thenQ_n ?_
      refine W_seq ?_
      have h1 : 1 ≤ m.length := by omega
      have hT := tb_ok (m := m) (k := K) h1 (by omega) (by omega) (by omega) hsg
      have ha1 := alike1 (m := m) (k := K) h1 (by omega)
      have hT1 : tb m K 1 = (lnV (List.replicate K 0) 20).1 := by rw [tb, ha1]
      have hL := lnV_ok (w := List.replicate K 0) (by rw [List.length_replicate]; omega) (by rw [List.length_replicate]; omega) (bnd_rep K)
      have hcl : (ch m K).length = 1 := by rw [ch, chA_len]; unfold ng; omega
      have hrl : (List.replicate K (0 : Int)).length = K := List.length_replicate
      have hl2 : (lnV (List.replicate K 0) 20).1.length ≤ 258 := lnV_len' _ _
      refine W_regionE (c := 15) (c' := 25) (by kernel_rfl) rfl ?_
      refine Runs_p rfl (Valid.movek (A := Ab.Own 80 1 _ _) rfl rfl) rfl rfl ?_
      refine Runs_p rfl (Valid.movek (A := Is _) rfl rfl) rfl rfl ?_
      refine Runs_p rfl (Valid.call rfl (tb_t (m := m) rfl rfl (by omega) hT rfl rfl rfl rfl) ⟨argle_sl (Reads.own rfl), argle rfl, trivial⟩) rfl rfl ?_
      refine Runs_p rfl (Valid.movek (A := Tup [SlA 1 _ _, Sl 1 _ _, Is _]) rfl rfl) rfl rfl ?_
      refine Runs_p rfl (Valid.extract _ rfl rfl rfl) rfl rfl ?_
      refine Runs_p rfl (Valid.extract _ rfl rfl rfl) rfl rfl ?_
      refine Runs_p rfl (Valid.extract _ rfl rfl rfl) rfl rfl ?_
      refine Runs_p rfl (Valid.assignk (A := SlA 1 _ _) rfl rfl) rfl rfl ?_
      refine Runs_p rfl (Valid.assignk (A := Sl 1 _ _) rfl rfl) rfl rfl ?_
      refine Runs_p rfl (Valid.assignk (A := Is _) rfl rfl) rfl rfl ?_
      refine Runs_nil ?_
      refine thenQ_n ?_
      refine W_seq ?_
      refine W_regionE (c := 25) (c' := 33) (by kernel_rfl) rfl ?_
      refine Runs_p rfl (Valid.movek (A := Is _) rfl rfl) rfl rfl ?_
      refine Runs_w rfl (Valid.makeown rfl Try.underlying22 tz3 rfl rfl (by omega) (by omega) (by omega)) rfl rfl ?_
      refine Runs_p rfl (Valid.call rfl (ln_t (w := List.replicate K 0) (by simp) (by simp) (by omega) hL rfl rfl) ⟨argle_sl (Reads.own rfl), argle rfl, trivial⟩) rfl rfl ?_
      refine Runs_p rfl (Valid.movek (A := Tup [Sl 1 _ _, Is _]) rfl rfl) rfl rfl ?_
      refine Runs_p rfl (Valid.extract _ rfl rfl rfl) rfl rfl ?_
      refine Runs_p rfl (Valid.extract _ rfl rfl rfl) rfl rfl ?_
      refine Runs_p rfl (Valid.assignk (A := Sl 1 _ _) rfl rfl) rfl rfl ?_
      refine Runs_p rfl (Valid.assignk (A := Is _) rfl rfl) rfl rfl ?_
      refine Runs_nil ?_
      refine thenQ_n ?_
      refine W_seq ?_
      refine W_seq ?_
      rw [hT1]
      refine W_regionE (c := 33) (c' := 57) (by kernel_rfl) rfl ?_
      refine Runs_p rfl (Valid.movek (A := Is _) rfl rfl) rfl rfl ?_
      refine Runs_p rfl (Valid.neq rfl rfl rfl) rfl rfl ?_
      refine Runs_p rfl (Valid.movek (A := Is _) rfl rfl) rfl rfl ?_
      refine Runs_cnd rfl rfl (Grd.is rfl) [] (fun hg => trivial) (fun hg => Valid.movek (A := Is _) rfl rfl) (by rfl) rfl ?_
      refine Runs_cnd rfl rfl (Grd.is rfl) [(43, _)] (fun hg => ⟨cnd_at rfl (by first | exact hg | exact hg.1 | exact hg.1.1 | exact hg.1.1.1), trivial⟩) (fun hg => Valid.neq rfl rfl rfl) (by rfl) rfl ?_
      refine Runs_p rfl (Valid.pickor rfl rfl rfl rfl (fun h => by first | exact h | exact ⟨hg, h⟩)) rfl rfl ?_
      refine Runs_p rfl (Valid.movek (A := Is _) rfl rfl) rfl rfl ?_
      refine Runs_cnd rfl rfl (Grd.is rfl) [] (fun hg => trivial) (fun hg => Valid.movek (A := SlA 1 _ _) rfl rfl) (by rfl) rfl ?_
      refine Runs_cnd rfl rfl (Grd.is rfl) [(47, _)] (fun hg => ⟨cnd_at rfl (by first | exact hg | exact hg.1 | exact hg.1.1 | exact hg.1.1.1), trivial⟩) (fun hg => Valid.lenA rfl Try.underlying27 (ReadsA.sla rfl)) (by rfl) rfl ?_
      refine Runs_cnd rfl rfl (Grd.is rfl) [(48, _)] (fun hg => ⟨cnd_at rfl (by first | exact hg | exact hg.1 | exact hg.1.1 | exact hg.1.1.1), trivial⟩) (fun hg => Valid.neq rfl rfl rfl) (by rfl) rfl ?_
      refine Runs_p rfl (Valid.pickor rfl rfl rfl rfl (fun h => by first | exact h | exact ⟨hg, h⟩)) rfl rfl ?_
      refine Runs_p rfl (Valid.movek (A := Is _) rfl rfl) rfl rfl ?_
      refine Runs_cnd rfl rfl (Grd.is rfl) [] (fun hg => trivial) (fun hg => Valid.movek (A := Sl 1 _ _) rfl rfl) (by rfl) rfl ?_
      refine Runs_cnd rfl rfl (Grd.is rfl) [(52, _)] (fun hg => ⟨cnd_at rfl (by first | exact hg | exact hg.1 | exact hg.1.1 | exact hg.1.1.1), trivial⟩) (fun hg => Valid.len rfl Try.underlying22 (Reads.sl rfl)) (by rfl) rfl ?_
      refine Runs_cnd rfl rfl (Grd.is rfl) [(53, _)] (fun hg => ⟨cnd_at rfl (by first | exact hg | exact hg.1 | exact hg.1.1 | exact hg.1.1.1), trivial⟩) (fun hg => Valid.neq rfl rfl rfl) (by rfl) rfl ?_
      refine Runs_p rfl (Valid.pickor rfl rfl rfl rfl (fun h => by first | exact h | exact ⟨hg, h⟩)) rfl rfl ?_
      refine Runs_p rfl (Valid.movek (A := Is _) rfl rfl) rfl rfl ?_
      refine Runs_cnd rfl rfl (Grd.is rfl) [] (fun hg => trivial) (fun hg => Valid.movek (A := SlA 1 _ _) rfl rfl) (by rfl) rfl ?_
      refine Runs_cnd rfl rfl (Grd.is rfl) [(57, _)] (fun hg => ⟨cnd_at rfl (by first | exact hg | exact hg.1 | exact hg.1.1 | exact hg.1.1.1), trivial⟩) (fun hg => Valid.eltM (F := Fl) [] rfl Try.underlying27 sz22 (ReadsA.sla rfl) rfl (by (try simp only [decide_eq_false_iff_not, Bool.or_eq_false_iff, not_true_eq_false, not_false_eq_true, ne_eq] at hg); first | omega | (simp only [Int.toNat_natCast, toNat_add, toNat_add1, List.length_append, List.length_cons, List.length_nil, List.length_replicate]; omega)) rfl) (by rfl) rfl ?_
      refine Runs_cnd rfl rfl (Grd.is rfl) [(58, _)] (fun hg => ⟨cnd_at rfl (by first | exact hg | exact hg.1 | exact hg.1.1 | exact hg.1.1.1), trivial⟩) (fun hg => Valid.loadeltSl rfl ag22 rfl rfl) (by rfl) rfl ?_
      refine Runs_cnd rfl rfl (Grd.is rfl) [] (fun hg => trivial) (fun hg => Valid.movek (A := Sl 1 _ _) rfl rfl) (by rfl) rfl ?_
      refine Runs_cnd rfl rfl (Grd.is rfl) [(59, _), (60, _)] (fun hg => ⟨cnd_at rfl (by first | exact hg | exact hg.1 | exact hg.1.1 | exact hg.1.1.1), cnd_at rfl (by first | exact hg | exact hg.1 | exact hg.1.1 | exact hg.1.1.1), trivial⟩) (fun hg => Valid.call rfl (ksame (lnV (List.replicate K 0) 20).1 (by (try simp only [decide_eq_false_iff_not, Bool.or_eq_false_iff, not_true_eq_false, not_false_eq_true, ne_eq] at hg); omega)) ⟨argle_sl (Reads.sl rfl), argle_sl (Reads.sl rfl), trivial⟩) (by rfl) rfl ?_
      refine Runs_cnd rfl rfl (Grd.is rfl) [(61, _)] (fun hg => ⟨cnd_at rfl (by first | exact hg | exact hg.1 | exact hg.1.1 | exact hg.1.1.1), trivial⟩) (fun hg => Valid.not rfl rfl) (by rfl) rfl ?_
      refine Runs_p rfl (Valid.pickor rfl rfl rfl rfl (fun h => by first | exact h | exact ⟨hg, h⟩)) rfl rfl ?_
      refine Runs_nil ?_
      refine thenQ_n ?_
      refine W_cond _ rfl (fun hb2 => ?_) (fun hb2 => ?_)
      · try simp only [decide_eq_true_eq, Bool.or_eq_true, Bool.not_eq_true', Bool.true_eq_false, not_true_eq_false, ne_eq] at hb2
        all_goals (
          exfalso
          first | omega | (simp at hb2; omega) | (simp [hcl] at hb2; done)
          
          done)
      · try simp only [decide_eq_false_iff_not, Bool.or_eq_false_iff, Bool.not_eq_false', not_true_eq_false, not_false_eq_true, ne_eq] at hb2
        all_goals (
          refine W_skip ?_
          refine thenQ_n ?_
          refine W_seq ?_
          refine W_block ?_
          refine W_loopx (G := Nat) (fun (j : Nat) => m.length + j ≤ 10) [(5, Is _), (6, Is _)] (fun (j : Nat) => [(7, Ab.Own 80 1 (m.length + j) ((pad m j).map (Value.int .i64)))]) [] (fun (j : Nat) => [(80, .row 3 1 (m.length + j) ((pad m j).map (Value.int .i64)))]) 57 (fun (j : Nat) => 10 - m.length - j) (0) [] (by first | trivial | omega | (simp; omega)) ⟨⟨(leq_own rfl rfl rfl (by first | rfl | (unfold pad; simp; done)) (by first | rfl | (unfold pad; simp; done))), trivial⟩, ⟨(leq_is rfl rfl rfl), (leq_is rfl rfl rfl), trivial⟩, ⟨hp_row rfl (by first | rfl | (unfold pad; simp; done)) (by first | rfl | (unfold pad; simp; done)), trivial⟩, trivial, rfl, ⟨supg rfl, trivial⟩, ⟨supg rfl, supg rfl, trivial⟩, ⟨suph rfl rfl, trivial⟩, trivial, rfl, rfl⟩ ?_
          intro j hI1
          have hpl := pad_len m j
          have hp0 := pad_0 h1 j
          refine W_seq ?_
          refine W_seq ?_
          refine W_regionE (c := 57) (c' := 60) (by kernel_rfl) rfl ?_
          refine Runs_p rfl (Valid.movek (A := Ab.Own 80 1 _ _) rfl rfl) rfl rfl ?_
          refine Runs_p rfl (Valid.len rfl Try.underlying22 (Reads.own rfl)) rfl rfl ?_
          refine Runs_p rfl (Valid.lss rfl rfl rfl) rfl rfl ?_
          refine Runs_nil ?_
          refine thenQ_n ?_
          refine W_cond _ rfl (fun hb3 => ?_) (fun hb3 => ?_)
          · try simp only [decide_eq_true_eq] at hb3
            all_goals (
              refine W_skip ?_
              refine thenQ_n ?_
              refine W_block ?_
              refine W_regionE (c := 60) (c' := 67) (by kernel_rfl) rfl ?_
              refine Runs_p rfl (Valid.movek (A := Ab.Own 80 1 _ _) rfl rfl) rfl rfl ?_
              refine Runs_p rfl (Valid.movek (A := Ab.Own 80 1 _ _) rfl rfl) rfl rfl ?_
              refine Runs_p rfl (Valid.eltaddr1 0 rfl Try.underlying22 sz3 (Reads.own rfl) rfl (by omega) (by omega)) rfl rfl ?_
              refine Runs_p rfl (Valid.loadelt rfl ag3 rfl) rfl rfl ?_
              refine Runs_p rfl (Valid.lit (el := 3) [_] rfl rfl (fun _ => by kernel_rfl) rfl (by decide)) rfl rfl ?_
              refine Runs_w rfl (Valid.app rfl Try.underlying22 ti3 (by decide) rfl rfl (Reads.sl rfl) (by first | exact one_map (fun _ => rfl) | exact one_cons rfl one_nil | exact one_app (one_map (fun _ => rfl)) (one_cons rfl one_nil) | exact one_app (one_map (fun _ => rfl)) (one_map (fun _ => rfl)) | exact one_rep rfl | exact one_app (one_rep rfl) (one_map (fun _ => rfl)) | (intro u hu; simp at hu; rcases hu with rfl | hu <;> first | rfl | (subst hu; rfl))) (by simp only [maxLen]; omega) (by omega)) rfl rfl ?_
              refine Runs_p rfl (Valid.assignk (A := Ab.Own 520 1 _ _) rfl rfl) rfl rfl ?_
              refine Runs_nil ?_
              refine blockQ_n ?_
              refine LoopQ.next (j + 1) [(80, 520)] (by omega) (by omega) ⟨⟨(leq_own rfl rfl rfl (by first | rfl | omega | (rw [← pad_s, ← hp0, List.map_append]; rfl)) (by first | rfl | omega | (rw [← pad_s, ← hp0, List.map_append]; rfl))), trivial⟩, ⟨(leq_is rfl rfl rfl), (leq_is rfl rfl rfl), trivial⟩, ⟨hp_row rfl (by first | rfl | omega | (rw [← pad_s, ← hp0, List.map_append]; rfl)) (by first | rfl | omega | (rw [← pad_s, ← hp0, List.map_append]; rfl)), trivial⟩, trivial, rfl, ⟨supg rfl, trivial⟩, ⟨supg rfl, supg rfl, trivial⟩, ⟨suph rfl rfl, trivial⟩, trivial, rfl, rfl⟩
              done)
          · try simp only [decide_eq_false_iff_not] at hb3
            all_goals (
              refine W_exit ?_
              refine thenQ_e ?_
              refine loopQ_e ?_
              refine blockQ_x ?_
              refine thenQ_n ?_
              refine W_seq ?_
              have hpl := pad_len m j
              have hp10 : (pad m j).length = 10 := by omega
              obtain ⟨hA, hC⟩ := alike2 (k := K) hp10
              have happ : (pad m j ++ pad m j).length = 20 := by rw [List.length_append]; omega
              have hT2 := tb_ok (m := pad m j ++ pad m j) (k := K) (by omega) (by omega) (by omega) (by omega) (app_m (pad_m h1 hsg j))
              rw [hC, ← hA] at hT2
              have hl3 : (tb (pad m j ++ pad m j) K 0).length ≤ 258 := lnV_len' _ _
              refine W_regionE (c := 60) (c' := 73) (by kernel_rfl) rfl ?_
              refine Runs_p rfl (Valid.movek (A := Ab.Own 80 1 _ _) rfl rfl) rfl rfl ?_
              refine Runs_w rfl (Valid.appnil rfl Try.underlying22 ti3 (by decide) rfl (Reads.own rfl) (by first | exact one_map (fun _ => rfl) | exact one_cons rfl one_nil | exact one_app (one_map (fun _ => rfl)) (one_cons rfl one_nil) | exact one_app (one_map (fun _ => rfl)) (one_map (fun _ => rfl)) | exact one_rep rfl | exact one_app (one_rep rfl) (one_map (fun _ => rfl)) | (intro u hu; simp at hu; rcases hu with rfl | hu <;> first | rfl | (subst hu; rfl))) (by simp only [maxLen]; omega) (by omega)) rfl rfl ?_
              refine Runs_p rfl (Valid.movek (A := Ab.Own 80 1 _ _) rfl rfl) rfl rfl ?_
              refine Runs_w rfl (Valid.app rfl Try.underlying22 ti3 (by decide) rfl rfl (Reads.own rfl) (by first | exact one_map (fun _ => rfl) | exact one_cons rfl one_nil | exact one_app (one_map (fun _ => rfl)) (one_cons rfl one_nil) | exact one_app (one_map (fun _ => rfl)) (one_map (fun _ => rfl)) | exact one_rep rfl | exact one_app (one_rep rfl) (one_map (fun _ => rfl)) | (intro u hu; simp at hu; rcases hu with rfl | hu <;> first | rfl | (subst hu; rfl))) (by simp only [maxLen]; omega) (by omega)) rfl rfl ?_
              refine Runs_p rfl (Valid.movek (A := Is _) rfl rfl) rfl rfl ?_
              refine Runs_p rfl (Valid.call rfl (tb_t (m := pad m j ++ pad m j) (by omega) (by rw [List.map_append]) (by omega) hT2 rfl rfl rfl rfl) ⟨argle_sl (Reads.own rfl), argle rfl, trivial⟩) rfl rfl ?_
              refine Runs_p rfl (Valid.movek (A := Tup [SlA 1 _ _, Sl 1 _ _, Is _]) rfl rfl) rfl rfl ?_
              refine Runs_p rfl (Valid.extract _ rfl rfl rfl) rfl rfl ?_
              refine Runs_p rfl (Valid.extract _ rfl rfl rfl) rfl rfl ?_
              refine Runs_p rfl (Valid.extract _ rfl rfl rfl) rfl rfl ?_
              refine Runs_p rfl (Valid.assignk (A := SlA 1 _ _) rfl rfl) rfl rfl ?_
              refine Runs_p rfl (Valid.assignk (A := Sl 1 _ _) rfl rfl) rfl rfl ?_
              refine Runs_p rfl (Valid.assignk (A := Is _) rfl rfl) rfl rfl ?_
              refine Runs_nil ?_
              refine thenQ_n ?_
              refine W_seq ?_
              refine W_drawE (c := 73) (c' := 98) (by kernel_rfl) rfl ?_
              refine Runs_p rfl (Valid.movek (A := Is _) rfl rfl) rfl rfl ?_
              refine Runs_p rfl (Valid.movek (A := Is _) rfl rfl) rfl rfl ?_
              refine Runs_cnd rfl rfl (Grd.is rfl) [] (fun hg => trivial) (fun hg => Valid.movek (A := Is _) rfl rfl) (by rfl) rfl ?_
              refine Runs_cnd rfl rfl (Grd.is rfl) [(85, _)] (fun hg => ⟨cnd_at rfl (by first | exact hg | exact hg.1 | exact hg.1.1 | exact hg.1.1.1), trivial⟩) (fun hg => Valid.eql rfl rfl rfl) (by rfl) rfl ?_
              refine Runs_p rfl (Valid.pickand rfl rfl rfl (fun h => by first | exact h | exact ⟨hg, h⟩) rfl) rfl rfl ?_
              refine Runs_p rfl (Valid.movek (A := Is _) rfl rfl) rfl rfl ?_
              refine Runs_cnd rfl rfl (Grd.is rfl) [] (fun hg => trivial) (fun hg => Valid.movek (A := SlA 1 _ _) rfl rfl) (by rfl) rfl ?_
              refine Runs_cnd rfl rfl (Grd.is rfl) [(89, _)] (fun hg => ⟨cnd_at rfl (by first | exact hg | exact hg.1 | exact hg.1.1 | exact hg.1.1.1), trivial⟩) (fun hg => Valid.lenA rfl Try.underlying27 (ReadsA.sla rfl)) (by rfl) rfl ?_
              refine Runs_cnd rfl rfl (Grd.is rfl) [(90, _)] (fun hg => ⟨cnd_at rfl (by first | exact hg | exact hg.1 | exact hg.1.1 | exact hg.1.1.1), trivial⟩) (fun hg => Valid.eql rfl rfl rfl) (by rfl) rfl ?_
              refine Runs_p rfl (Valid.pickand rfl rfl rfl (fun h => by first | exact h | exact ⟨hg, h⟩) rfl) rfl rfl ?_
              refine Runs_p rfl (Valid.movek (A := Is _) rfl rfl) rfl rfl ?_
              refine Runs_cnd rfl rfl (Grd.is rfl) [] (fun hg => trivial) (fun hg => Valid.movek (A := SlA 1 _ _) rfl rfl) (by rfl) rfl ?_
              refine Runs_cnd rfl rfl (Grd.is rfl) [(94, _)] (fun hg => ⟨cnd_at rfl (by first | exact hg | exact hg.1 | exact hg.1.1 | exact hg.1.1.1), trivial⟩) (fun hg => Valid.eltM (F := Fl) [] rfl Try.underlying27 sz22 (ReadsA.sla rfl) rfl (by (try simp only [decide_eq_true_eq, Bool.and_eq_true] at hg); first | omega | (simp only [Int.toNat_natCast, toNat_add, toNat_add1, List.length_append, List.length_cons, List.length_nil, List.length_replicate]; omega)) rfl) (by rfl) rfl ?_
              refine Runs_cnd rfl rfl (Grd.is rfl) [(95, _)] (fun hg => ⟨cnd_at rfl (by first | exact hg | exact hg.1 | exact hg.1.1 | exact hg.1.1.1), trivial⟩) (fun hg => Valid.loadeltSl rfl ag22 rfl rfl) (by rfl) rfl ?_
              refine Runs_cnd rfl rfl (Grd.is rfl) [] (fun hg => trivial) (fun hg => Valid.movek (A := SlA 1 _ _) rfl rfl) (by rfl) rfl ?_
              refine Runs_cnd rfl rfl (Grd.is rfl) [(97, _)] (fun hg => ⟨cnd_at rfl (by first | exact hg | exact hg.1 | exact hg.1.1 | exact hg.1.1.1), trivial⟩) (fun hg => Valid.eltM (F := Fl) [] rfl Try.underlying27 sz22 (ReadsA.sla rfl) rfl (by (try simp only [decide_eq_true_eq, Bool.and_eq_true] at hg); first | omega | (simp only [Int.toNat_natCast, toNat_add, toNat_add1, List.length_append, List.length_cons, List.length_nil, List.length_replicate]; omega)) rfl) (by rfl) rfl ?_
              refine Runs_cnd rfl rfl (Grd.is rfl) [(98, _)] (fun hg => ⟨cnd_at rfl (by first | exact hg | exact hg.1 | exact hg.1.1 | exact hg.1.1.1), trivial⟩) (fun hg => Valid.loadeltSl rfl ag22 rfl rfl) (by rfl) rfl ?_
              refine Runs_cnd rfl rfl (Grd.is rfl) [(96, _), (99, _)] (fun hg => ⟨cnd_at rfl (by first | exact hg | exact hg.1 | exact hg.1.1 | exact hg.1.1.1), cnd_at rfl (by first | exact hg | exact hg.1 | exact hg.1.1 | exact hg.1.1.1), trivial⟩) (fun hg => Valid.call rfl (ksame (tb (pad m j ++ pad m j) K 0) (by (try simp only [decide_eq_true_eq, Bool.and_eq_true] at hg); omega)) ⟨argle_sl (Reads.sl rfl), argle_sl (Reads.sl rfl), trivial⟩) (by rfl) rfl ?_
              refine Runs_p rfl (Valid.pickand rfl rfl rfl (fun h => by first | exact h | exact ⟨hg, h⟩) rfl) rfl rfl ?_
              refine Runs_p rfl (Valid.movek (A := Is _) rfl rfl) rfl rfl ?_
              refine Runs_cnd rfl rfl (Grd.is rfl) [] (fun hg => trivial) (fun hg => Valid.movek (A := Sl 1 _ _) rfl rfl) (by rfl) rfl ?_
              refine Runs_cnd rfl rfl (Grd.is rfl) [] (fun hg => trivial) (fun hg => Valid.lit (el := 3) (([0, 0] : List Int).map (Value.int .i64)) rfl rfl (fun _ => by kernel_rfl) rfl (by decide)) (by rfl) rfl ?_
              refine Runs_cnd rfl rfl (Grd.is rfl) [(103, _), (104, _)] (fun hg => ⟨cnd_at rfl (by first | exact hg | exact hg.1 | exact hg.1.1 | exact hg.1.1.1), cnd_at rfl (by first | exact hg | exact hg.1 | exact hg.1.1 | exact hg.1.1.1), trivial⟩) (fun hg => Valid.call rfl (ksame [0, 0] (by (try simp only [decide_eq_true_eq, Bool.and_eq_true] at hg); decide)) ⟨argle_sl (Reads.sl rfl), argle_sl (Reads.sl rfl), trivial⟩) (by rfl) rfl ?_
              refine Runs_p rfl (Valid.pickand rfl rfl rfl (fun h => by first | exact h | exact ⟨hg, h⟩) rfl) rfl rfl ?_
              refine Runs_p rfl (Valid.assignk (A := Is _) rfl rfl) rfl rfl ?_
              refine Runs_nil ?_
              refine ⟨_, _, rfl, rfl, by kernel_rfl, ?_⟩
              refine thenQ_n ?_
              refine W_ret ?_
              refine finQ_r ?_
              refine ResOk.one rfl (RVal.is rfl rfl (by first | rfl | (exfalso; simp at hb1; done) | (exfalso; simp at hb2; done) | (exfalso; simp at hb3; done) | (exfalso; simp at hb4; done) | (exfalso; simp at hb5; done) | (exfalso; simp at hb6; done) | (exfalso; simp at hb7; done) | (exfalso; simp at hb8; done) | (exfalso; simp at hb9; done) | (exfalso; simp at hb10; done) | (exfalso; simp at hb11; done) | (exfalso; simp at hb12; done) | (exfalso; simp at hb13; done)))
              done)
          done)
      done)
end Ke
end Go.Proofs.Ytdcenocljnlipaa
