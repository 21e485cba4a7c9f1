/-
  WALKS of stage 11: the law ChooseBest.
-/
import Derived.Test.YtdcenocljnlipaaRows
import Derived.Test.YtdcenocljnlipaaMgc
import Derived.Test.YtdcenocljnlipaaWa
import Derived.Test.YtdcenocljnlipaaWb
import Derived.Test.YtdcenocljnlipaaWm
import Derived.Test.YtdcenocljnlipaaWc
import Derived.Test.YtdcenocljnlipaaWd
import Derived.Test.YtdcenocljnlipaaWe
import Derived.Test.YtdcenocljnlipaaWf
import Derived.Test.YtdcenocljnlipaaWg
import Derived.Test.YtdcenocljnlipaaWk
import Derived.Test.YtdcenocljnlipaaOa
import Derived.Test.YtdcenocljnlipaaOb
import Derived.Test.YtdcenocljnlipaaOc
import Derived.Test.YtdcenocljnlipaaOd
import Derived.Test.YtdcenocljnlipaaOf
import Derived.Test.YtdcenocljnlipaaOi
import Derived.Test.YtdcenocljnlipaaWh
import Derived.Test.YtdcenocljnlipaaCm
import Derived.Test.YtdcenocljnlipaaKa
import Derived.Test.YtdcenocljnlipaaKb
import Derived.Test.YtdcenocljnlipaaKl
import Derived.Test.YtdcenocljnlipaaKj
import Derived.Test.YtdcenocljnlipaaKc
import Derived.Test.YtdcenocljnlipaaKd
import Derived.Test.YtdcenocljnlipaaKn
import Derived.Test.YtdcenocljnlipaaKm
namespace Go.Proofs.Ytdcenocljnlipaa
open Go.RowKit
namespace Kg
open Ab Wa Wb Wm Wc Wd We Wf Wg Wk Oa Ob Oc Od Of Oi Wh Cm Ka Kb Kl Kj Kc Kd Kn Km
theorem ag22 (w : World) : (isAgg 22).run Try.prog w = .ok false w := by kernel_rfl
theorem ag3 (w : World) : (isAgg 3).run Try.prog w = .ok false w := by kernel_rfl
theorem sz22 (w : World) : (sizeOf 22).run Try.prog w = .ok 1 w := by kernel_rfl
theorem sz3 (w : World) : (sizeOf 3).run Try.prog w = .ok 1 w := by kernel_rfl
theorem ti3 : TI Try.prog 3 1 8 := .mk' (z := (Value.int .i64 0)) (by kernel_rfl) rfl
theorem tzv3 : (Try.prog.info? 3).map (fun i => (i.zero, i.size, i.bytes)) = some (some ((Value.int .i64) 0), 1, 8) := by kernel_rfl
theorem ch_at {m : List Int} {n i : Nat} : ∀ k, i < k → (chA m n k).getD i 0 = if (btV (tb m n 1) (gp m i)).1 < (btV (tb m n 0) (gp m i)).1 then 1 else 0
  | 0, h => by omega
  | k + 1, h => by
    have hl := chA_len m n k
    rw [chA_s, List.getD_eq_getElem?_getD]
    by_cases c : i = k
    · subst c
      rw [List.getElem?_append_right (by omega), hl, Nat.sub_self]; rfl
    · rw [List.getElem?_append_left (by omega), ← List.getD_eq_getElem?_getD, ch_at k (by omega)]
/-- all of them there -/
def alB (b : Bool) (w : List Int) : Nat → Bool
  | 0 => b
  | i + 1 => alB b w i && decide (0 < w.getD i 0)
theorem alB_t {b : Bool} {w : List Int} : ∀ i, alB b w i = true → b = true ∧ ∀ j, j < i → 0 < w.getD j 0
  | 0, h => ⟨h, fun j hj => by omega⟩
  | i + 1, h => by
    rw [alB, Bool.and_eq_true, decide_eq_true_eq] at h
    obtain ⟨h1, h2⟩ := alB_t i h.1
    refine ⟨h1, fun j hj => ?_⟩
    by_cases c : j = i
    · rw [c]; exact h.2
    · exact h2 j (by omega)
theorem ones_same {w : List Int} (h : ∀ j, j < w.length → 0 < w.getD j 0) : ones w = w := by
  refine ext_gd (ones_len w) (fun i hi => ?_)
  rw [ones_len] at hi
  have := h i hi
  rw [ones_at hi]; omega

theorem pickt_s {x y : Int} (t : Int) (h : x = y) (hy : 0 ≤ y ∧ y < t) (ht2 : t ≤ 1000) : FPure Try.prog 9 [Is (.int .i64 x), Is (.int .i64 t)] (Is (.int .i64 y)) := by
  subst h
  have h1 := pick11_s x t (by omega) (by omega) (by omega) (by omega)
  rwa [pick_self hy] at h1

set_option maxRecDepth 100000 in
set_option maxHeartbeats 1000000 in
theorem best_w (raw : List Int) (hraw : In64 raw) (lraw : raw.length ≤ 9223372036854775807) (n : Int) (wn : -9223372036854775808 ≤ n ∧ n ≤ 9223372036854775807) (lens : List Int) (hlens : In64 lens) (llens : lens.length ≤ 9223372036854775807) :
    FPure Try.prog 4 [Sl 1 raw.length (raw.map (Value.int .i64)), Is (.int .i64 (n : Int)), Sl 1 lens.length (lens.map (Value.int .i64))] (Is (.bool true)) := by
  refine FPure.of Try.func4 Try.ntmps4 rfl (by kernel_rfl) rfl rfl rfl ?_
  refine W_seq ?_
  refine W_regionE (c := 1) (c' := 2) (by kernel_rfl) rfl ?_
  refine Runs_p rfl (Valid.assignk (A := Is _) rfl rfl) rfl rfl ?_
  refine Runs_nil ?_
  refine thenQ_n ?_
  refine W_seq ?_
  refine W_regionE (c := 2) (c' := 4) (by kernel_rfl) rfl ?_
  refine Runs_p rfl (Valid.call rfl (awake11_s) trivial) rfl rfl ?_
  refine Runs_p rfl (Valid.assignk (A := Is _) rfl rfl) rfl rfl ?_
  refine Runs_nil ?_
  refine thenQ_n ?_
  refine W_seq ?_
  have hpk := pickV_range n 19 (by decide)
  obtain ⟨K, hK⟩ : ∃ K : Nat, 2 + pickV n 19 = (K : Int) := ⟨(2 + pickV n 19).toNat, by omega⟩
  refine W_regionE (c := 4) (c' := 8) (by kernel_rfl) rfl ?_
  refine Runs_p rfl (Valid.movek (A := Is _) rfl rfl) rfl rfl ?_
  refine Runs_p rfl (Valid.call rfl (pick11_s _ _ wn.1 wn.2 (by decide) (by decide)) ⟨argle rfl, argle rfl, trivial⟩) rfl rfl ?_
  refine Runs_p rfl (Valid.add rfl rfl rfl (room64 (by omega) (by omega))) rfl rfl ?_
  refine Runs_p rfl (Valid.assignk (A := Is _) rfl rfl) rfl rfl ?_
  refine Runs_nil ?_
  refine thenQ_n ?_
  refine W_seq ?_
  rw [hK]
  refine W_regionE (c := 8) (c' := 12) (by kernel_rfl) rfl ?_
  refine Runs_p rfl (Valid.movek (A := Sl 1 _ _) rfl rfl) rfl rfl ?_
  refine Runs_p rfl (Valid.movek (A := Is _) rfl rfl) rfl rfl ?_
  refine Runs_p rfl (Valid.call rfl (sym_s raw K 80 (by assumption) (by omega) (by omega) (by omega) (by decide)) ⟨argle_sl (Reads.sl rfl), argle rfl, argle rfl, trivial⟩) rfl rfl ?_
  refine Runs_p rfl (Valid.assignk (A := Sl 1 _ _) rfl rfl) rfl rfl ?_
  refine Runs_nil ?_
  refine thenQ_n ?_
  refine W_seq ?_
  have hsl := sym_len raw (K : Int) 80
  have hsg := sym_rg raw (K : Int) 80 (by omega)
  generalize symV raw (K : Int) 80 = m at *
  refine W_regionE (c := 12) (c' := 22) (by kernel_rfl) rfl ?_
  refine Runs_p rfl (Valid.movek (A := Sl 1 _ _) rfl rfl) rfl rfl ?_
  refine Runs_p rfl (Valid.movek (A := Is _) rfl rfl) rfl rfl ?_
  refine Runs_p rfl (Valid.call rfl (tables_s _ _ (by omega)) ⟨argle_sl (Reads.sl rfl), argle rfl, trivial⟩) rfl rfl ?_
  refine Runs_p rfl (Valid.movek (A := Tup [SlA 1 _ _, Sl 1 _ _, Is _]) rfl rfl) rfl rfl ?_
  refine Runs_p rfl (Valid.extract _ rfl rfl rfl) rfl rfl ?_
  refine Runs_p rfl (Valid.extract _ rfl rfl rfl) rfl rfl ?_
  refine Runs_p rfl (Valid.extract _ rfl rfl rfl) rfl rfl ?_
  refine Runs_p rfl (Valid.assignk (A := SlA 1 _ _) rfl rfl) rfl rfl ?_
  refine Runs_p rfl (Valid.assignk (A := Sl 1 _ _) rfl rfl) rfl rfl ?_
  refine Runs_p rfl (Valid.assignk (A := Is _) rfl rfl) rfl rfl ?_
  refine Runs_nil ?_
  refine thenQ_n ?_
  refine W_seq ?_
  refine W_seq ?_
  refine W_regionE (c := 22) (c' := 25) (by kernel_rfl) rfl ?_
  refine Runs_p rfl (Valid.movek (A := Sl 1 _ _) rfl rfl) rfl rfl ?_
  refine Runs_p rfl (Valid.len rfl Try.underlying22 (Reads.sl rfl)) rfl rfl ?_
  refine Runs_p rfl (Valid.eql rfl rfl rfl) rfl rfl ?_
  refine Runs_nil ?_
  refine thenQ_n ?_
  refine W_cond _ rfl (fun hb1 => ?_) (fun hb1 => ?_)
  · try simp only [decide_eq_true_eq] at hb1
    all_goals (
      refine W_seq ?_
      have hte : tbV m (K : Int) = ([], [], 1) := tb_e (fun h => by obtain ⟨a1, a2, a3, a4⟩ := h; have a5 := List.length_pos_iff.2 a3; omega)
      rw [hte]
      refine W_regionE (c := 25) (c' := 31) (by kernel_rfl) rfl ?_
      refine Runs_p rfl (Valid.movek (A := Is _) rfl rfl) rfl rfl ?_
      refine Runs_p rfl (Valid.movek (A := Is _) rfl rfl) rfl rfl ?_
      refine Runs_cnd rfl rfl (Grd.is rfl) [] (fun hg => trivial) (fun hg => Valid.movek (A := Is _) rfl rfl) (by rfl) rfl ?_
      refine Runs_cnd rfl rfl (Grd.is rfl) [(47, _)] (fun hg => ⟨cnd_at rfl (by first | exact hg | exact hg.1 | exact hg.1.1 | exact hg.1.1.1), trivial⟩) (fun hg => Valid.eql rfl rfl rfl) (by rfl) rfl ?_
      refine Runs_p rfl (Valid.pickand rfl rfl rfl (fun h => by first | exact h | exact ⟨hg, h⟩) rfl) rfl rfl ?_
      refine Runs_p rfl (Valid.assignk (A := Is _) rfl rfl) rfl rfl ?_
      refine Runs_nil ?_
      refine thenQ_n ?_
      refine W_ret ?_
      refine thenQ_r ?_
      refine finQ_r ?_
      refine ResOk.one rfl (RVal.is rfl rfl (by first | rfl | (simp; omega) | (simp [q5]; done) | (exfalso; simp at hb1; done) | (exfalso; simp at hb2; done) | (exfalso; simp at hb3; done) | (exfalso; simp at hb4; done) | (exfalso; simp at hb5; done) | (exfalso; simp at hb6; done) | (exfalso; simp at hb7; done) | (exfalso; simp at hb8; done) | (exfalso; simp at hb9; done) | (exfalso; simp at hb10; done) | (exfalso; simp at hb11; done) | (exfalso; simp at hb12; done) | (exfalso; simp at hb13; done)))
      done)
  · try simp only [decide_eq_false_iff_not] at hb1
    all_goals (
      refine W_skip ?_
      refine thenQ_n ?_
      refine W_seq ?_
      have hT := tb_ok (m := m) (k := K) (by omega) (by omega) (by omega) (by omega) hsg
      rw [hT]
      dsimp only
      obtain ⟨t1, t2, t3, t4, t5⟩ := tb_all (M := m) (k := K) (f := 0) (by omega) (by omega) (by omega)
      obtain ⟨u1, u2, u3, u4, u5⟩ := tb_all (M := m) (k := K) (f := 1) (by omega) (by omega) (by omega)
      have e0l : (([tb m K 0, tb m K 1] : List (List Int)).getD (0 : Int).toNat []).length = K := t1
      have e1l : (([tb m K 0, tb m K 1] : List (List Int)).getD (1 : Int).toNat []).length = K := u1
      have hng : ng m = (m.length + 9) / 10 := rfl
      have hgl : (gps m).length = ng m := gpA_len m _
      have hcl : (ch m K).length = ng m := chA_len m K _
      have hcg : (ch m K).length = (gps m).length := by omega
      have hap : (tb m K 0 ++ [20]).length = K + 1 := by rw [List.length_append, t1]; rfl
      have hi20 : In64 (tb m K 0 ++ [20]) := fun x hx => by
        rcases List.mem_append.1 hx with h | h
        · exact t2 x h
        · simp at h; omega
      refine W_regionE (c := 25) (c' := 28) (by kernel_rfl) rfl ?_
      refine Runs_p rfl (Valid.movek (A := Sl 1 _ _) rfl rfl) rfl rfl ?_
      refine Runs_p rfl (Valid.call rfl (grps_s _ (by omega)) ⟨argle_sl (Reads.sl rfl), trivial⟩) rfl rfl ?_
      refine Runs_p rfl (Valid.assignk (A := SlA 1 _ _) rfl rfl) rfl rfl ?_
      refine Runs_nil ?_
      refine thenQ_n ?_
      refine W_seq ?_
      refine W_seq ?_
      refine W_regionE (c := 28) (c' := 82) (by kernel_rfl) rfl ?_
      refine Runs_p rfl (Valid.movek (A := Is _) rfl rfl) rfl rfl ?_
      refine Runs_p rfl (Valid.neq rfl rfl rfl) rfl rfl ?_
      refine Runs_p rfl (Valid.movek (A := Is _) rfl rfl) rfl rfl ?_
      refine Runs_yesp rfl rfl (Grd.is rfl) (by first | decide | (simp; done)) (Valid.movek (A := SlA 1 _ _) rfl rfl) rfl rfl ?_
      refine Runs_yesp rfl rfl (Grd.is rfl) (by first | decide | (simp; done)) (Valid.lenA rfl Try.underlying27 (ReadsA.sla rfl)) rfl rfl ?_
      refine Runs_yesp rfl rfl (Grd.is rfl) (by first | decide | (simp; done)) (Valid.neq rfl rfl rfl) rfl rfl ?_
      refine Runs_p rfl (Valid.pickf (A := Is _) rfl rfl rfl) rfl rfl ?_
      refine Runs_p rfl (Valid.movek (A := Is _) rfl rfl) rfl rfl ?_
      refine Runs_yesp rfl rfl (Grd.is rfl) (by first | decide | (simp; done)) (Valid.movek (A := Sl 1 _ _) rfl rfl) rfl rfl ?_
      refine Runs_yesp rfl rfl (Grd.is rfl) (by first | decide | (simp; done)) (Valid.len rfl Try.underlying22 (Reads.sl rfl)) rfl rfl ?_
      refine Runs_yesp rfl rfl (Grd.is rfl) (by first | decide | (simp; done)) (Valid.movek (A := SlA 1 _ _) rfl rfl) rfl rfl ?_
      refine Runs_yesp rfl rfl (Grd.is rfl) (by first | decide | (simp; done)) (Valid.lenA rfl Try.underlying27 (ReadsA.sla rfl)) rfl rfl ?_
      refine Runs_yesp rfl rfl (Grd.is rfl) (by first | decide | (simp; done)) (Valid.weak (Valid.neq rfl rfl rfl) (A' := Is (.bool false)) (fun _ _ _ h => h.trans (by simp [hcg])) rfl) rfl rfl ?_
      refine Runs_p rfl (Valid.pickf (A := Is _) rfl rfl rfl) rfl rfl ?_
      refine Runs_p rfl (Valid.movek (A := Is _) rfl rfl) rfl rfl ?_
      refine Runs_yesp rfl rfl (Grd.is rfl) (by first | decide | (simp; done)) (Valid.movek (A := SlA 1 _ _) rfl rfl) rfl rfl ?_
      refine Runs_yesp rfl rfl (Grd.is rfl) (by first | decide | (simp; done)) (Valid.eltM (F := Fl) [] rfl Try.underlying27 sz22 (ReadsA.sla rfl) rfl (by first | omega | (simp only [List.length_cons, List.length_nil]; omega)) (by first | rfl | (simp; done) | omega)) rfl rfl ?_
      refine Runs_yesp rfl rfl (Grd.is rfl) (by first | decide | (simp; done)) (Valid.loadeltSl rfl ag22 rfl rfl) rfl rfl ?_
      refine Runs_yesp rfl rfl (Grd.is rfl) (by first | decide | (simp; done)) (Valid.len rfl Try.underlying22 (Reads.sl rfl)) rfl rfl ?_
      refine Runs_yesp rfl rfl (Grd.is rfl) (by first | decide | (simp; done)) (Valid.movek (A := Is _) rfl rfl) rfl rfl ?_
      refine Runs_yesp rfl rfl (Grd.is rfl) (by first | decide | (simp; done)) (Valid.weak (Valid.neq rfl rfl rfl) (A' := Is (.bool false)) (fun _ _ _ h => h.trans (by simp [t1])) rfl) rfl rfl ?_
      refine Runs_p rfl (Valid.pickf (A := Is _) rfl rfl rfl) rfl rfl ?_
      refine Runs_p rfl (Valid.movek (A := Is _) rfl rfl) rfl rfl ?_
      refine Runs_yesp rfl rfl (Grd.is rfl) (by first | decide | (simp; done)) (Valid.movek (A := SlA 1 _ _) rfl rfl) rfl rfl ?_
      refine Runs_yesp rfl rfl (Grd.is rfl) (by first | decide | (simp; done)) (Valid.eltM (F := Fl) [] rfl Try.underlying27 sz22 (ReadsA.sla rfl) rfl (by first | omega | (simp only [List.length_cons, List.length_nil]; omega)) (by first | rfl | (simp; done) | omega)) rfl rfl ?_
      refine Runs_yesp rfl rfl (Grd.is rfl) (by first | decide | (simp; done)) (Valid.loadeltSl rfl ag22 rfl rfl) rfl rfl ?_
      refine Runs_yesp rfl rfl (Grd.is rfl) (by first | decide | (simp; done)) (Valid.len rfl Try.underlying22 (Reads.sl rfl)) rfl rfl ?_
      refine Runs_yesp rfl rfl (Grd.is rfl) (by first | decide | (simp; done)) (Valid.movek (A := Is _) rfl rfl) rfl rfl ?_
      refine Runs_yesp rfl rfl (Grd.is rfl) (by first | decide | (simp; done)) (Valid.weak (Valid.neq rfl rfl rfl) (A' := Is (.bool false)) (fun _ _ _ h => h.trans (by simp [u1])) rfl) rfl rfl ?_
      refine Runs_p rfl (Valid.pickf (A := Is _) rfl rfl rfl) rfl rfl ?_
      refine Runs_p rfl (Valid.movek (A := Is _) rfl rfl) rfl rfl ?_
      refine Runs_yesp rfl rfl (Grd.is rfl) (by first | decide | (simp; done)) (Valid.movek (A := SlA 1 _ _) rfl rfl) rfl rfl ?_
      refine Runs_yesp rfl rfl (Grd.is rfl) (by first | decide | (simp; done)) (Valid.eltM (F := Fl) [] rfl Try.underlying27 sz22 (ReadsA.sla rfl) rfl (by first | omega | (simp only [List.length_cons, List.length_nil]; omega)) (by first | rfl | (simp; done) | omega)) rfl rfl ?_
      refine Runs_yesp rfl rfl (Grd.is rfl) (by first | decide | (simp; done)) (Valid.loadeltSl rfl ag22 rfl rfl) rfl rfl ?_
      refine Runs_yesp rfl rfl (Grd.is rfl) (by first | decide | (simp; done)) (Valid.call rfl (chk_t (l := tb m K 0) rfl rfl t2 (by omega) t3) ⟨argle_sl (Reads.sl rfl), trivial⟩) rfl rfl ?_
      refine Runs_yesp rfl rfl (Grd.is rfl) (by first | decide | (simp; done)) (Valid.neq rfl rfl rfl) rfl rfl ?_
      refine Runs_p rfl (Valid.pickf (A := Is _) rfl rfl rfl) rfl rfl ?_
      refine Runs_p rfl (Valid.movek (A := Is _) rfl rfl) rfl rfl ?_
      refine Runs_yesp rfl rfl (Grd.is rfl) (by first | decide | (simp; done)) (Valid.movek (A := SlA 1 _ _) rfl rfl) rfl rfl ?_
      refine Runs_yesp rfl rfl (Grd.is rfl) (by first | decide | (simp; done)) (Valid.eltM (F := Fl) [] rfl Try.underlying27 sz22 (ReadsA.sla rfl) rfl (by first | omega | (simp only [List.length_cons, List.length_nil]; omega)) (by first | rfl | (simp; done) | omega)) rfl rfl ?_
      refine Runs_yesp rfl rfl (Grd.is rfl) (by first | decide | (simp; done)) (Valid.loadeltSl rfl ag22 rfl rfl) rfl rfl ?_
      refine Runs_yesp rfl rfl (Grd.is rfl) (by first | decide | (simp; done)) (Valid.call rfl (chk_t (l := tb m K 1) rfl rfl u2 (by omega) u3) ⟨argle_sl (Reads.sl rfl), trivial⟩) rfl rfl ?_
      refine Runs_yesp rfl rfl (Grd.is rfl) (by first | decide | (simp; done)) (Valid.neq rfl rfl rfl) rfl rfl ?_
      refine Runs_p rfl (Valid.pickf (A := Is _) rfl rfl rfl) rfl rfl ?_
      refine Runs_p rfl (Valid.movek (A := Is _) rfl rfl) rfl rfl ?_
      refine Runs_yesp rfl rfl (Grd.is rfl) (by first | decide | (simp; done)) (Valid.movek (A := SlA 1 _ _) rfl rfl) rfl rfl ?_
      refine Runs_yesp rfl rfl (Grd.is rfl) (by first | decide | (simp; done)) (Valid.eltM (F := Fl) [] rfl Try.underlying27 sz22 (ReadsA.sla rfl) rfl (by first | omega | (simp only [List.length_cons, List.length_nil]; omega)) (by first | rfl | (simp; done) | omega)) rfl rfl ?_
      refine Runs_yesp rfl rfl (Grd.is rfl) (by first | decide | (simp; done)) (Valid.loadeltSl rfl ag22 rfl rfl) rfl rfl ?_
      refine Runs_yesw rfl rfl (Grd.is rfl) (by first | decide | (simp; done)) (Valid.appnil rfl Try.underlying22 ti3 (by decide) rfl (Reads.sl rfl) (by first | exact one_map (fun _ => rfl) | exact one_cons rfl one_nil | exact one_app (one_map (fun _ => rfl)) (one_cons rfl one_nil) | exact one_app (one_map (fun _ => rfl)) (one_map (fun _ => rfl)) | exact one_rep rfl | exact one_app (one_rep rfl) (one_map (fun _ => rfl)) | (intro u hu; simp at hu; rcases hu with rfl | hu <;> first | rfl | (subst hu; rfl))) (by simp only [maxLen]; omega) (by omega)) rfl rfl ?_
      refine Runs_yesp rfl rfl (Grd.is rfl) (by first | decide | (simp; done)) (Valid.lit (el := 3) [_] rfl rfl (fun _ => by kernel_rfl) rfl (by decide)) rfl rfl ?_
      refine Runs_yesw rfl rfl (Grd.is rfl) (by first | decide | (simp; done)) (Valid.app rfl Try.underlying22 ti3 (by decide) rfl rfl (Reads.sl rfl) (by first | exact one_map (fun _ => rfl) | exact one_cons rfl one_nil | exact one_app (one_map (fun _ => rfl)) (one_cons rfl one_nil) | exact one_app (one_map (fun _ => rfl)) (one_map (fun _ => rfl)) | exact one_rep rfl | exact one_app (one_rep rfl) (one_map (fun _ => rfl)) | (intro u hu; simp at hu; rcases hu with rfl | hu <;> first | rfl | (subst hu; rfl))) (by simp only [maxLen]; omega) (by omega)) rfl rfl ?_
      refine Runs_yesp rfl rfl (Grd.is rfl) (by first | decide | (simp; done)) (Valid.call rfl (chk_t (l := tb m K 0 ++ [20]) (by simp) (by simp) hi20 (by omega) t4) ⟨argle_sl (Reads.own rfl), trivial⟩) rfl rfl ?_
      refine Runs_yesp rfl rfl (Grd.is rfl) (by first | decide | (simp; done)) (Valid.neq rfl rfl rfl) rfl rfl ?_
      refine Runs_p rfl (Valid.pickf (A := Is _) rfl rfl rfl) rfl rfl ?_
      refine Runs_nil ?_
      refine thenQ_n ?_
      refine W_cond _ rfl (fun hb2 => ?_) (fun hb2 => ?_)
      · try simp only [decide_eq_true_eq, not_true_eq_false, ne_eq] at hb2
        all_goals (
          exfalso
          first | omega | (simp at hb2; omega)
          
          done)
      · try simp only [decide_eq_false_iff_not, not_true_eq_false, not_false_eq_true, ne_eq] at hb2
        all_goals (
          refine W_skip ?_
          refine thenQ_n ?_
          refine W_seq ?_
          refine W_regionE (c := 82) (c' := 85) (by kernel_rfl) rfl ?_
          refine Runs_p rfl (Valid.movek (A := Is _) rfl rfl) rfl rfl ?_
          refine Runs_w rfl (Valid.makebuf (Value.int .i64) 0 rfl Try.underlying22 tzv3 rfl rfl rfl (by omega) (by omega) (by omega)) rfl rfl ?_
          refine Runs_p rfl (Valid.assignk (A := Buf 664 _) rfl rfl) rfl rfl ?_
          refine Runs_nil ?_
          refine thenQ_n ?_
          refine W_seq ?_
          refine W_seq ?_
          refine W_regionE (c := 85) (c' := 86) (by kernel_rfl) rfl ?_
          refine Runs_p rfl (Valid.assignk (A := Is _) rfl rfl) rfl rfl ?_
          refine Runs_nil ?_
          refine thenQ_n ?_
          refine W_block ?_
          refine W_loopx (G := Nat) (fun (i : Nat) => i ≤ ng m) [(2, Sl 1 _ _), (7, Is _), (8, Is _), (10, SlA 1 _ _), (11, Sl 1 _ _), (13, SlA 1 _ _)] (fun (i : Nat) => [(15, Is (.int .i64 (i : Int))), (14, Buf 664 K)]) [] (fun (i : Nat) => [(664, .buf 3 ((ctA m K 0 i).map (Value.int .i64)))]) 86 (fun (i : Nat) => ng m - i) (0) [] (by first | trivial | omega | (simp; omega)) ⟨⟨(leq_is rfl rfl (by first | rfl | omega)), (leq_buf rfl rfl rfl (by first | rfl | omega)), trivial⟩, ⟨(leq_sl (Reads.sl rfl) rfl rfl rfl), (leq_is rfl rfl rfl), (leq_is rfl rfl rfl), (leq_sla (ReadsA.sla rfl) rfl rfl rfl), (leq_sl (Reads.sl rfl) rfl rfl rfl), (leq_sla (ReadsA.sla rfl) rfl rfl rfl), trivial⟩, ⟨hp_buf rfl (by first | rfl | omega), trivial⟩, trivial, rfl, ⟨supg rfl, supg rfl, trivial⟩, ⟨supg rfl, supg rfl, supg rfl, supg rfl, supg rfl, supg rfl, trivial⟩, ⟨suph rfl rfl, trivial⟩, trivial, rfl, rfl⟩ ?_
          intro i hI1
          have hcl2 := ctA_len m K 0 i
          refine W_seq ?_
          refine W_seq ?_
          refine W_regionE (c := 86) (c' := 90) (by kernel_rfl) rfl ?_
          refine Runs_p rfl (Valid.movek (A := Is _) rfl rfl) rfl rfl ?_
          refine Runs_p rfl (Valid.movek (A := SlA 1 _ _) rfl rfl) rfl rfl ?_
          refine Runs_p rfl (Valid.lenA rfl Try.underlying27 (ReadsA.sla rfl)) rfl rfl ?_
          refine Runs_p rfl (Valid.lss rfl rfl rfl) rfl rfl ?_
          refine Runs_nil ?_
          refine thenQ_n ?_
          refine W_cond _ rfl (fun hb3 => ?_) (fun hb3 => ?_)
          · try simp only [decide_eq_true_eq] at hb3
            all_goals (
              refine W_skip ?_
              refine thenQ_n ?_
              refine W_seq ?_
              refine W_block ?_
              refine W_seq ?_
              have hgi : (gps m).getD (i : Int).toNat [] = gp m i := by
                rw [Int.toNat_natCast, gps, gpA, List.getD_eq_getElem?_getD, List.getElem?_map, List.getElem?_range (by omega)]; rfl
              have hgil : ((gps m).getD (i : Int).toNat []).length = (gp m i).length := by rw [hgi]
              have hgi2 : ((gps m).getD i []).length = (gp m i).length := hgil
              have hg1 := gp_1 (m := m) (k := i) (by omega)
              have hgr : ∀ x ∈ gp m i, 0 ≤ x ∧ x < (K : Int) := fun x hx => hsg x (gp_mem hx)
              have hA := bt_1 t3 (g := gp m i) (by rw [t1]; exact hgr)
              have hB := bt_1 u3 (g := gp m i) (by rw [u1]; exact hgr)
              have hci : (ch m K).getD i 0 = if (btV (tb m K 1) (gp m i)).1 < (btV (tb m K 0) (gp m i)).1 then 1 else 0 := ch_at _ (by omega)
              generalize hAe : (btV (tb m K 0) (gp m i)).1 = A at *
              generalize hBe : (btV (tb m K 1) (gp m i)).1 = B at *
              have hcl2 := ctA_len m K 0 i
              have hcb := ctA_bd m K 0 i (by omega)
              refine W_drawE (c := 90) (c' := 103) (by kernel_rfl) rfl ?_
              refine Runs_p rfl (Valid.movek (A := SlA 1 _ _) rfl rfl) rfl rfl ?_
              refine Runs_p rfl (Valid.eltM (F := Fl) [] rfl Try.underlying27 sz22 (ReadsA.sla rfl) rfl (by first | omega | (simp only [List.length_cons, List.length_nil]; omega)) (by first | rfl | (simp; done) | omega)) rfl rfl ?_
              refine Runs_p rfl (Valid.loadeltSl rfl ag22 rfl rfl) rfl rfl ?_
              refine Runs_p rfl (Valid.movek (A := SlA 1 _ _) rfl rfl) rfl rfl ?_
              refine Runs_p rfl (Valid.movek (A := Is _) rfl rfl) rfl rfl ?_
              refine Runs_p rfl (Valid.eltM (F := Fl) [] rfl Try.underlying27 sz22 (ReadsA.sla rfl) rfl (by omega) rfl) rfl rfl ?_
              refine Runs_p rfl (Valid.loadeltSl rfl ag22 rfl rfl) rfl rfl ?_
              refine Runs_p rfl (Valid.call rfl (bt_n (l := tb m K 0) (g := gp m i) (x := ([tb m K 0, tb m K 1] : List (List Int)).getD (0 : Int).toNat []) (y := (gps m).getD (i : Int).toNat []) rfl hgi t2 (by omega) (by omega) hA) ⟨argle_sl (Reads.sl rfl), argle_sl (Reads.sl rfl), trivial⟩) rfl rfl ?_
              refine Runs_p rfl (Valid.movek (A := Tup [Is _, Is _]) rfl rfl) rfl rfl ?_
              refine Runs_p rfl (Valid.extract _ rfl rfl rfl) rfl rfl ?_
              refine Runs_p rfl (Valid.extract _ rfl rfl rfl) rfl rfl ?_
              refine Runs_p rfl (Valid.assignk (A := Is _) rfl rfl) rfl rfl ?_
              refine Runs_p rfl (Valid.assignk (A := Is _) rfl rfl) rfl rfl ?_
              refine Runs_nil ?_
              refine ⟨_, _, rfl, rfl, by kernel_rfl, ?_⟩
              refine thenQ_n ?_
              refine W_seq ?_
              refine W_drawE (c := 103) (c' := 116) (by kernel_rfl) rfl ?_
              refine Runs_p rfl (Valid.movek (A := SlA 1 _ _) rfl rfl) rfl rfl ?_
              refine Runs_p rfl (Valid.eltM (F := Fl) [] rfl Try.underlying27 sz22 (ReadsA.sla rfl) rfl (by first | omega | (simp only [List.length_cons, List.length_nil]; omega)) (by first | rfl | (simp; done) | omega)) rfl rfl ?_
              refine Runs_p rfl (Valid.loadeltSl rfl ag22 rfl rfl) rfl rfl ?_
              refine Runs_p rfl (Valid.movek (A := SlA 1 _ _) rfl rfl) rfl rfl ?_
              refine Runs_p rfl (Valid.movek (A := Is _) rfl rfl) rfl rfl ?_
              refine Runs_p rfl (Valid.eltM (F := Fl) [] rfl Try.underlying27 sz22 (ReadsA.sla rfl) rfl (by omega) rfl) rfl rfl ?_
              refine Runs_p rfl (Valid.loadeltSl rfl ag22 rfl rfl) rfl rfl ?_
              refine Runs_p rfl (Valid.call rfl (bt_n (l := tb m K 1) (g := gp m i) (x := ([tb m K 0, tb m K 1] : List (List Int)).getD (1 : Int).toNat []) (y := (gps m).getD (i : Int).toNat []) rfl hgi u2 (by omega) (by omega) hB) ⟨argle_sl (Reads.sl rfl), argle_sl (Reads.sl rfl), trivial⟩) rfl rfl ?_
              refine Runs_p rfl (Valid.movek (A := Tup [Is _, Is _]) rfl rfl) rfl rfl ?_
              refine Runs_p rfl (Valid.extract _ rfl rfl rfl) rfl rfl ?_
              refine Runs_p rfl (Valid.extract _ rfl rfl rfl) rfl rfl ?_
              refine Runs_p rfl (Valid.assignk (A := Is _) rfl rfl) rfl rfl ?_
              refine Runs_p rfl (Valid.assignk (A := Is _) rfl rfl) rfl rfl ?_
              refine Runs_nil ?_
              refine ⟨_, _, rfl, rfl, by kernel_rfl, ?_⟩
              refine thenQ_n ?_
              refine W_seq ?_
              refine W_seq ?_
              refine W_regionE (c := 116) (c' := 160) (by kernel_rfl) rfl ?_
              refine Runs_p rfl (Valid.movek (A := Is _) rfl rfl) rfl rfl ?_
              refine Runs_p rfl (Valid.neq rfl rfl rfl) rfl rfl ?_
              refine Runs_p rfl (Valid.movek (A := Is _) rfl rfl) rfl rfl ?_
              refine Runs_cnd rfl rfl (Grd.is rfl) [] (fun hg => trivial) (fun hg => Valid.movek (A := Is _) rfl rfl) (by rfl) rfl ?_
              refine Runs_cnd rfl rfl (Grd.is rfl) [(139, _)] (fun hg => ⟨cnd_at rfl (by first | exact hg | exact hg.1 | exact hg.1.1 | exact hg.1.1.1), trivial⟩) (fun hg => Valid.neq rfl rfl rfl) (by rfl) rfl ?_
              refine Runs_p rfl (Valid.pickor rfl rfl rfl rfl (fun h => by first | exact h | exact ⟨hg, h⟩)) rfl rfl ?_
              refine Runs_p rfl (Valid.movek (A := Is _) rfl rfl) rfl rfl ?_
              refine Runs_cnd rfl rfl (Grd.is rfl) [] (fun hg => trivial) (fun hg => Valid.movek (A := Sl 1 _ _) rfl rfl) (by rfl) rfl ?_
              refine Runs_cnd rfl rfl (Grd.is rfl) [] (fun hg => trivial) (fun hg => Valid.movek (A := Is _) rfl rfl) (by rfl) rfl ?_
              refine Runs_cnd rfl rfl (Grd.is rfl) [(143, _), (144, _)] (fun hg => ⟨cnd_at rfl (by first | exact hg | exact hg.1 | exact hg.1.1 | exact hg.1.1.1), cnd_at rfl (by first | exact hg | exact hg.1 | exact hg.1.1 | exact hg.1.1.1), trivial⟩) (fun hg => Valid.eltaddr1 0 rfl Try.underlying22 sz3 (Reads.sl rfl) rfl (by (try simp only [decide_eq_false_iff_not, Bool.or_eq_false_iff, not_true_eq_false, not_false_eq_true, ne_eq] at hg); first | omega | (simp only [Int.toNat_natCast, toNat_add, toNat_add1, List.length_append, List.length_cons, List.length_nil, List.length_replicate]; omega)) rfl) (by rfl) rfl ?_
              refine Runs_cnd rfl rfl (Grd.is rfl) [(145, _)] (fun hg => ⟨cnd_at rfl (by first | exact hg | exact hg.1 | exact hg.1.1 | exact hg.1.1.1), trivial⟩) (fun hg => Valid.loadelt rfl ag3 rfl) (by rfl) rfl ?_
              refine Runs_cnd rfl rfl (Grd.is rfl) [(146, _)] (fun hg => ⟨cnd_at rfl (by first | exact hg | exact hg.1 | exact hg.1.1 | exact hg.1.1.1), trivial⟩) (fun hg => Valid.lss rfl rfl rfl) (by rfl) rfl ?_
              refine Runs_p rfl (Valid.pickor rfl rfl rfl rfl (fun h => by first | exact h | exact ⟨hg, h⟩)) rfl rfl ?_
              refine Runs_p rfl (Valid.movek (A := Is _) rfl rfl) rfl rfl ?_
              refine Runs_cnd rfl rfl (Grd.is rfl) [] (fun hg => trivial) (fun hg => Valid.movek (A := Sl 1 _ _) rfl rfl) (by rfl) rfl ?_
              refine Runs_cnd rfl rfl (Grd.is rfl) [] (fun hg => trivial) (fun hg => Valid.movek (A := Is _) rfl rfl) (by rfl) rfl ?_
              refine Runs_cnd rfl rfl (Grd.is rfl) [(150, _), (151, _)] (fun hg => ⟨cnd_at rfl (by first | exact hg | exact hg.1 | exact hg.1.1 | exact hg.1.1.1), cnd_at rfl (by first | exact hg | exact hg.1 | exact hg.1.1 | exact hg.1.1.1), trivial⟩) (fun hg => Valid.eltaddr1 0 rfl Try.underlying22 sz3 (Reads.sl rfl) rfl (by (try simp only [Int.toNat_natCast, decide_eq_false_iff_not, Bool.or_eq_false_iff, not_true_eq_false, not_false_eq_true, ne_eq] at hg); first | omega | (simp only [Int.toNat_natCast, toNat_add, toNat_add1, List.length_append, List.length_cons, List.length_nil, List.length_replicate]; omega)) rfl) (by rfl) rfl ?_
              refine Runs_cnd rfl rfl (Grd.is rfl) [(152, _)] (fun hg => ⟨cnd_at rfl (by first | exact hg | exact hg.1 | exact hg.1.1 | exact hg.1.1.1), trivial⟩) (fun hg => Valid.loadelt rfl ag3 rfl) (by rfl) rfl ?_
              refine Runs_cnd rfl rfl (Grd.is rfl) [(153, _)] (fun hg => ⟨cnd_at rfl (by first | exact hg | exact hg.1 | exact hg.1.1 | exact hg.1.1.1), trivial⟩) (fun hg => Valid.gtr rfl rfl rfl) (by rfl) rfl ?_
              refine Runs_p rfl (Valid.pickor rfl rfl rfl rfl (fun h => by first | exact h | exact ⟨hg, h⟩)) rfl rfl ?_
              refine Runs_p rfl (Valid.movek (A := Is _) rfl rfl) rfl rfl ?_
              refine Runs_cnd rfl rfl (Grd.is rfl) [] (fun hg => trivial) (fun hg => Valid.movek (A := Sl 1 _ _) rfl rfl) (by rfl) rfl ?_
              refine Runs_cnd rfl rfl (Grd.is rfl) [] (fun hg => trivial) (fun hg => Valid.movek (A := Is _) rfl rfl) (by rfl) rfl ?_
              refine Runs_cnd rfl rfl (Grd.is rfl) [(157, _), (158, _)] (fun hg => ⟨cnd_at rfl (by first | exact hg | exact hg.1 | exact hg.1.1 | exact hg.1.1.1), cnd_at rfl (by first | exact hg | exact hg.1 | exact hg.1.1 | exact hg.1.1.1), trivial⟩) (fun hg => Valid.eltaddr1 0 rfl Try.underlying22 sz3 (Reads.sl rfl) rfl (by (try simp only [Int.toNat_natCast, decide_eq_false_iff_not, Bool.or_eq_false_iff, not_true_eq_false, not_false_eq_true, ne_eq] at hg); first | omega | (simp only [Int.toNat_natCast, toNat_add, toNat_add1, List.length_append, List.length_cons, List.length_nil, List.length_replicate]; omega)) rfl) (by rfl) rfl ?_
              refine Runs_cnd rfl rfl (Grd.is rfl) [(159, _)] (fun hg => ⟨cnd_at rfl (by first | exact hg | exact hg.1 | exact hg.1.1 | exact hg.1.1.1), trivial⟩) (fun hg => Valid.loadelt rfl ag3 rfl) (by rfl) rfl ?_
              refine Runs_cnd rfl rfl (Grd.is rfl) [(160, _)] (fun hg => ⟨cnd_at rfl (by first | exact hg | exact hg.1 | exact hg.1.1 | exact hg.1.1.1), trivial⟩) (fun hg => Valid.eql rfl rfl rfl) (by rfl) rfl ?_
              refine Runs_cnd rfl rfl (Grd.is rfl) [(161, _)] (fun hg => ⟨cnd_at rfl (by first | exact hg | exact hg.1 | exact hg.1.1 | exact hg.1.1.1), trivial⟩) (fun hg => Valid.movek (A := Is _) rfl rfl) (by rfl) rfl ?_
              refine Runs_cnd rfl rfl (Grd.cnd rfl) [] (fun hg => trivial) (fun hg => Valid.movek (A := Is _) rfl rfl) (by rfl) rfl ?_
              refine Runs_cnd rfl rfl (Grd.cnd rfl) [] (fun hg => trivial) (fun hg => Valid.movek (A := Is _) rfl rfl) (by rfl) rfl ?_
              refine Runs_cnd rfl rfl (Grd.cnd rfl) [(163, _), (164, _)] (fun hg => ⟨cnd_at rfl (by first | exact hg | exact hg.1 | exact hg.1.1 | exact hg.1.1.1), cnd_at rfl (by first | exact hg | exact hg.1 | exact hg.1.1 | exact hg.1.1.1), trivial⟩) (fun hg => Valid.lss rfl rfl rfl) (by rfl) rfl ?_
              refine Runs_cnd rfl rfl (Grd.is rfl) [(162, _)] (fun hg => ⟨cnd_at rfl (by first | exact hg | exact hg.1 | exact hg.1.1 | exact hg.1.1.1), trivial⟩) (fun hg => Valid.pickand rfl rfl rfl (fun h => by first | exact h | exact ⟨hg, h⟩) rfl) (by rfl) rfl ?_
              refine Runs_p rfl (Valid.pickor rfl rfl rfl rfl (fun h => by first | exact h | exact ⟨hg, h⟩)) rfl rfl ?_
              refine Runs_p rfl (Valid.movek (A := Is _) rfl rfl) rfl rfl ?_
              refine Runs_cnd rfl rfl (Grd.is rfl) [] (fun hg => trivial) (fun hg => Valid.movek (A := Sl 1 _ _) rfl rfl) (by rfl) rfl ?_
              refine Runs_cnd rfl rfl (Grd.is rfl) [] (fun hg => trivial) (fun hg => Valid.movek (A := Is _) rfl rfl) (by rfl) rfl ?_
              refine Runs_cnd rfl rfl (Grd.is rfl) [(169, _), (170, _)] (fun hg => ⟨cnd_at rfl (by first | exact hg | exact hg.1 | exact hg.1.1 | exact hg.1.1.1), cnd_at rfl (by first | exact hg | exact hg.1 | exact hg.1.1 | exact hg.1.1.1), trivial⟩) (fun hg => Valid.eltaddr1 0 rfl Try.underlying22 sz3 (Reads.sl rfl) rfl (by (try simp only [Int.toNat_natCast, decide_eq_false_iff_not, Bool.and_eq_false_iff, Bool.or_eq_false_iff, not_true_eq_false, not_false_eq_true, ne_eq] at hg); first | omega | (simp only [Int.toNat_natCast, toNat_add, toNat_add1, List.length_append, List.length_cons, List.length_nil, List.length_replicate]; omega)) rfl) (by rfl) rfl ?_
              refine Runs_cnd rfl rfl (Grd.is rfl) [(171, _)] (fun hg => ⟨cnd_at rfl (by first | exact hg | exact hg.1 | exact hg.1.1 | exact hg.1.1.1), trivial⟩) (fun hg => Valid.loadelt rfl ag3 rfl) (by rfl) rfl ?_
              refine Runs_cnd rfl rfl (Grd.is rfl) [(172, _)] (fun hg => ⟨cnd_at rfl (by first | exact hg | exact hg.1 | exact hg.1.1 | exact hg.1.1.1), trivial⟩) (fun hg => Valid.eql rfl rfl rfl) (by rfl) rfl ?_
              refine Runs_cnd rfl rfl (Grd.is rfl) [(173, _)] (fun hg => ⟨cnd_at rfl (by first | exact hg | exact hg.1 | exact hg.1.1 | exact hg.1.1.1), trivial⟩) (fun hg => Valid.movek (A := Is _) rfl rfl) (by rfl) rfl ?_
              refine Runs_cnd rfl rfl (Grd.cnd rfl) [] (fun hg => trivial) (fun hg => Valid.movek (A := Is _) rfl rfl) (by rfl) rfl ?_
              refine Runs_cnd rfl rfl (Grd.cnd rfl) [] (fun hg => trivial) (fun hg => Valid.movek (A := Is _) rfl rfl) (by rfl) rfl ?_
              refine Runs_cnd rfl rfl (Grd.cnd rfl) [(175, _), (176, _)] (fun hg => ⟨cnd_at rfl (by first | exact hg | exact hg.1 | exact hg.1.1 | exact hg.1.1.1), cnd_at rfl (by first | exact hg | exact hg.1 | exact hg.1.1 | exact hg.1.1.1), trivial⟩) (fun hg => Valid.leq rfl rfl rfl) (by rfl) rfl ?_
              refine Runs_cnd rfl rfl (Grd.is rfl) [(174, _)] (fun hg => ⟨cnd_at rfl (by first | exact hg | exact hg.1 | exact hg.1.1 | exact hg.1.1.1), trivial⟩) (fun hg => Valid.pickand rfl rfl rfl (fun h => by first | exact h | exact ⟨hg, h⟩) rfl) (by rfl) rfl ?_
              refine Runs_p rfl (Valid.pickor rfl rfl rfl rfl (fun h => by first | exact h | exact ⟨hg, h⟩)) rfl rfl ?_
              refine Runs_nil ?_
              refine thenQ_n ?_
              refine W_cond _ rfl (fun hb4 => ?_) (fun hb4 => ?_)
              · try simp only [Int.toNat_natCast, decide_eq_true_eq, Bool.and_eq_true, Bool.or_eq_true, not_true_eq_false, ne_eq] at hb4
                all_goals (
                  exfalso
                  simp only [false_or] at hb4
                  by_cases hlt : B < A
                  · rw [if_pos hlt] at hci; omega
                  · rw [if_neg hlt] at hci; omega
                  
                  done)
              · try simp only [Int.toNat_natCast, decide_eq_false_iff_not, Bool.and_eq_false_iff, Bool.or_eq_false_iff, not_true_eq_false, not_false_eq_true, ne_eq] at hb4
                all_goals (
                  refine W_skip ?_
                  refine thenQ_n ?_
                  refine W_seq ?_
                  refine W_regionE (c := 160) (c' := 161) (by kernel_rfl) rfl ?_
                  refine Runs_p rfl (Valid.assignk (A := Is _) rfl rfl) rfl rfl ?_
                  refine Runs_nil ?_
                  refine thenQ_n ?_
                  refine W_block ?_
                  refine W_loopx (G := Nat) (fun (j : Nat) => j ≤ (gp m i).length ∧ (¬ (i : Int) % 2 = 0 → j = 0)) [(2, Sl 1 _ _), (7, Is _), (8, Is _), (10, SlA 1 _ _), (11, Sl 1 _ _), (13, SlA 1 _ _), (15, Is _)] (fun (j : Nat) => [(20, Is (.int .i64 (j : Int))), (14, Buf 664 K)]) [] (fun (j : Nat) => [(664, .buf 3 ((incA (ctA m K 0 i) (gp m i) j).map (Value.int .i64)))]) 161 (fun (j : Nat) => (gp m i).length - j) (0) [] (⟨by omega, fun _ => rfl⟩) ⟨⟨(leq_is rfl rfl (by first | rfl | omega)), (leq_buf rfl rfl rfl (by first | rfl | omega)), trivial⟩, ⟨(leq_sl (Reads.sl rfl) rfl rfl rfl), (leq_is rfl rfl rfl), (leq_is rfl rfl rfl), (leq_sla (ReadsA.sla rfl) rfl rfl rfl), (leq_sl (Reads.sl rfl) rfl rfl rfl), (leq_sla (ReadsA.sla rfl) rfl rfl rfl), (leq_is rfl rfl rfl), trivial⟩, ⟨hp_buf rfl (by first | rfl | omega), trivial⟩, trivial, rfl, ⟨supg rfl, supg rfl, trivial⟩, ⟨supg rfl, supg rfl, supg rfl, supg rfl, supg rfl, supg rfl, supg rfl, trivial⟩, ⟨suph rfl rfl, trivial⟩, trivial, rfl, rfl⟩ ?_
                  intro j hI2
                  refine W_seq ?_
                  refine W_seq ?_
                  refine W_regionE (c := 161) (c' := 173) (by kernel_rfl) rfl ?_
                  refine Runs_p rfl (Valid.movek (A := Is _) rfl rfl) rfl rfl ?_
                  refine Runs_p rfl (Valid.movek (A := SlA 1 _ _) rfl rfl) rfl rfl ?_
                  refine Runs_p rfl (Valid.movek (A := Is _) rfl rfl) rfl rfl ?_
                  refine Runs_p rfl (Valid.eltM (F := Fl) [] rfl Try.underlying27 sz22 (ReadsA.sla rfl) rfl (by omega) rfl) rfl rfl ?_
                  refine Runs_p rfl (Valid.loadeltSl rfl ag22 rfl rfl) rfl rfl ?_
                  refine Runs_p rfl (Valid.len rfl Try.underlying22 (Reads.sl rfl)) rfl rfl ?_
                  refine Runs_p rfl (Valid.lss rfl rfl rfl) rfl rfl ?_
                  refine Runs_p rfl (Valid.movek (A := Is _) rfl rfl) rfl rfl ?_
                  refine Runs_cnd rfl rfl (Grd.is rfl) [] (fun hg => trivial) (fun hg => Valid.movek (A := Is _) rfl rfl) (by rfl) rfl ?_
                  refine Runs_cnd rfl rfl (Grd.is rfl) [(188, _)] (fun hg => ⟨cnd_at rfl (by first | exact hg | exact hg.1 | exact hg.1.1 | exact hg.1.1.1), trivial⟩) (fun hg => Valid.rem rfl rfl rfl (by (try simp only [Int.toNat_natCast, decide_eq_true_eq] at hg); first | omega | (simp only [Int.toNat_natCast, toNat_add, toNat_add1, List.length_append, List.length_cons, List.length_nil, List.length_replicate]; omega)) (by (try simp only [Int.toNat_natCast, decide_eq_true_eq] at hg); first | omega | (simp only [Int.toNat_natCast, toNat_add, toNat_add1, List.length_append, List.length_cons, List.length_nil, List.length_replicate]; omega))) (by rfl) rfl ?_
                  refine Runs_cnd rfl rfl (Grd.is rfl) [(189, _)] (fun hg => ⟨cnd_at rfl (by first | exact hg | exact hg.1 | exact hg.1.1 | exact hg.1.1.1), trivial⟩) (fun hg => Valid.eql rfl rfl rfl) (by rfl) rfl ?_
                  refine Runs_p rfl (Valid.pickand rfl rfl rfl (fun h => by first | exact h | exact ⟨hg, h⟩) rfl) rfl rfl ?_
                  refine Runs_nil ?_
                  refine thenQ_n ?_
                  refine W_cond _ rfl (fun hb5 => ?_) (fun hb5 => ?_)
                  · try simp only [Int.toNat_natCast, decide_eq_true_eq, Bool.and_eq_true] at hb5
                    all_goals (
                      refine W_skip ?_
                      refine thenQ_n ?_
                      refine W_seq ?_
                      refine W_block ?_
                      have hjg := hgr _ (getD_mem' (w := gp m i) (i := j) (by omega))
                      have hps := pick_self hjg
                      have hgij : ((gps m).getD (i : Int).toNat []).getD (j : Int).toNat 0 = (gp m i).getD j 0 := by rw [hgi, Int.toNat_natCast]
                      have hps2 : pickV (((gps m).getD (i : Int).toNat []).getD (j : Int).toNat 0) (K : Int) = (gp m i).getD j 0 := by rw [hgij]; exact hps
                      have hil := incA_len (ctA m K 0 i) (gp m i) j
                      have hib := incA_bd hcb j (all := gp m i) _ (getD_mem' (w := incA (ctA m K 0 i) (gp m i) j) (i := ((gp m i).getD j 0).toNat) (by omega))
                      refine W_regionE (c := 173) (c' := 188) (by kernel_rfl) rfl ?_
                      refine Runs_p rfl (Valid.movek (A := Buf 664 _) rfl rfl) rfl rfl ?_
                      refine Runs_p rfl (Valid.movek (A := SlA 1 _ _) rfl rfl) rfl rfl ?_
                      refine Runs_p rfl (Valid.movek (A := Is _) rfl rfl) rfl rfl ?_
                      refine Runs_p rfl (Valid.eltM (F := Fl) [] rfl Try.underlying27 sz22 (ReadsA.sla rfl) rfl (by omega) rfl) rfl rfl ?_
                      refine Runs_p rfl (Valid.loadeltSl rfl ag22 rfl rfl) rfl rfl ?_
                      refine Runs_p rfl (Valid.movek (A := Is _) rfl rfl) rfl rfl ?_
                      refine Runs_p rfl (Valid.eltaddr1 0 rfl Try.underlying22 sz3 (Reads.sl rfl) rfl (by omega) rfl) rfl rfl ?_
                      refine Runs_p rfl (Valid.loadelt rfl ag3 rfl) rfl rfl ?_
                      refine Runs_p rfl (Valid.movek (A := Is _) rfl rfl) rfl rfl ?_
                      refine Runs_p rfl (Valid.call rfl (pickt_s (K : Int) hgij hjg (by omega)) ⟨argle rfl, argle rfl, trivial⟩) rfl rfl ?_
                      refine Runs_p rfl (Valid.idxB rfl Try.underlying22 sz3 rfl rfl (by omega)) rfl rfl ?_
                      refine Runs_p rfl (Valid.loadB 0 rfl ag3 rfl rfl (by omega)) rfl rfl ?_
                      refine Runs_p rfl (Valid.add rfl rfl rfl (room64 (by omega) (by omega))) rfl rfl ?_
                      refine Runs_p rfl (Valid.idxB rfl Try.underlying22 sz3 rfl rfl (by omega)) rfl rfl ?_
                      refine Runs_op rfl (Valid.storeB _ rfl sz3 rfl rfl (by omega) rfl (One.is rfl rfl rfl)) rfl ?_
                      refine Runs_nil ?_
                      refine blockQ_n ?_
                      refine thenQ_n ?_
                      refine W_regionE (c := 188) (c' := 191) (by kernel_rfl) rfl ?_
                      refine Runs_p rfl (Valid.movek (A := Is _) rfl rfl) rfl rfl ?_
                      refine Runs_p rfl (Valid.add rfl rfl rfl (room64 (by omega) (by omega))) rfl rfl ?_
                      refine Runs_p rfl (Valid.assignk (A := Is _) rfl rfl) rfl rfl ?_
                      refine Runs_nil ?_
                      refine LoopQ.next (j + 1) [] (⟨by omega, fun h => by omega⟩) (by omega) ⟨⟨(leq_is rfl rfl (by first | rfl | omega)), (leq_buf rfl rfl rfl (by first | rfl | omega)), trivial⟩, ⟨(leq_sl (Reads.sl rfl) rfl rfl rfl), (leq_is rfl rfl rfl), (leq_is rfl rfl rfl), (leq_sla (ReadsA.sla rfl) rfl rfl rfl), (leq_sl (Reads.sl rfl) rfl rfl rfl), (leq_sla (ReadsA.sla rfl) rfl rfl rfl), (leq_is rfl rfl rfl), trivial⟩, ⟨hp_buf rfl (by first | rfl | omega), trivial⟩, trivial, rfl, ⟨supg rfl, supg rfl, trivial⟩, ⟨supg rfl, supg rfl, supg rfl, supg rfl, supg rfl, supg rfl, supg rfl, trivial⟩, ⟨suph rfl rfl, trivial⟩, trivial, rfl, rfl⟩
                      done)
                  · try simp only [Int.toNat_natCast, decide_eq_false_iff_not, Bool.and_eq_false_iff] at hb5
                    all_goals (
                      refine W_exit ?_
                      refine thenQ_e ?_
                      refine loopQ_e ?_
                      refine blockQ_x ?_
                      refine blockQ_n ?_
                      refine thenQ_n ?_
                      refine W_regionE (c := 173) (c' := 176) (by kernel_rfl) rfl ?_
                      refine Runs_p rfl (Valid.movek (A := Is _) rfl rfl) rfl rfl ?_
                      refine Runs_p rfl (Valid.add rfl rfl rfl (room64 (by omega) (by omega))) rfl rfl ?_
                      refine Runs_p rfl (Valid.assignk (A := Is _) rfl rfl) rfl rfl ?_
                      refine Runs_nil ?_
                      refine LoopQ.next (i + 1) [] (by omega) (by omega) ⟨⟨(leq_is rfl rfl (by first | rfl | omega | (refine congrArg (List.map (Value.int .i64)) ?_; by_cases hpar : (i : Int) % 2 = 0; (· rw [ctA_y hpar, show (gp m i).length = j by omega]); (· rw [ctA_n hpar, show j = 0 by omega]; rfl)))), (leq_buf rfl rfl rfl (by first | rfl | omega | (refine congrArg (List.map (Value.int .i64)) ?_; by_cases hpar : (i : Int) % 2 = 0; (· rw [ctA_y hpar, show (gp m i).length = j by omega]); (· rw [ctA_n hpar, show j = 0 by omega]; rfl)))), trivial⟩, ⟨(leq_sl (Reads.sl rfl) rfl rfl rfl), (leq_is rfl rfl rfl), (leq_is rfl rfl rfl), (leq_sla (ReadsA.sla rfl) rfl rfl rfl), (leq_sl (Reads.sl rfl) rfl rfl rfl), (leq_sla (ReadsA.sla rfl) rfl rfl rfl), trivial⟩, ⟨hp_buf rfl (by first | rfl | omega | (refine congrArg (List.map (Value.int .i64)) ?_; by_cases hpar : (i : Int) % 2 = 0; (· rw [ctA_y hpar, show (gp m i).length = j by omega]); (· rw [ctA_n hpar, show j = 0 by omega]; rfl))), trivial⟩, trivial, rfl, ⟨supg rfl, supg rfl, trivial⟩, ⟨supg rfl, supg rfl, supg rfl, supg rfl, supg rfl, supg rfl, trivial⟩, ⟨suph rfl rfl, trivial⟩, trivial, rfl, rfl⟩
                      done)
                  done)
              done)
          · try simp only [decide_eq_false_iff_not] at hb3
            all_goals (
              refine W_exit ?_
              refine thenQ_e ?_
              refine loopQ_e ?_
              refine blockQ_x ?_
              refine thenQ_n ?_
              refine W_seq ?_
              obtain rfl : i = ng m := by omega
              rw [show ctA m K 0 (ng m) = ctF m K 0 from rfl]
              have hfl := ctF_len m K 0
              refine W_regionE (c := 90) (c' := 94) (by kernel_rfl) rfl ?_
              refine Runs_p rfl (Valid.movek (A := Sl 1 _ _) rfl rfl) rfl rfl ?_
              refine Runs_p rfl (Valid.movek (A := Is _) rfl rfl) rfl rfl ?_
              refine Runs_p rfl (Valid.call rfl (lens_s lens K (by assumption) (by omega) (by omega)) ⟨argle_sl (Reads.sl rfl), argle rfl, trivial⟩) rfl rfl ?_
              refine Runs_p rfl (Valid.assignk (A := Sl 1 _ _) rfl rfl) rfl rfl ?_
              refine Runs_nil ?_
              refine thenQ_n ?_
              refine W_seq ?_
              obtain ⟨hl2, hl60⟩ := lenS_2 lens (min lens.length K)
              have hok := lenS_ok lens (min lens.length K)
              have hli := OkL.in64 hok
              have hlv : lenV lens K = lenS lens (min lens.length K) := rfl
              rw [hlv]
              generalize lenS lens (min lens.length K) = l at *
              refine W_regionE (c := 94) (c' := 99) (by kernel_rfl) rfl ?_
              refine Runs_p rfl (Valid.movek (A := Sl 1 _ _) rfl rfl) rfl rfl ?_
              refine Runs_p rfl (Valid.len rfl Try.underlying22 (Reads.sl rfl)) rfl rfl ?_
              refine Runs_p rfl (Valid.movek (A := Is _) rfl rfl) rfl rfl ?_
              refine Runs_p rfl (Valid.eql rfl rfl rfl) rfl rfl ?_
              refine Runs_p rfl (Valid.assignk (A := Is _) rfl rfl) rfl rfl ?_
              refine Runs_nil ?_
              refine thenQ_n ?_
              refine W_seq ?_
              refine W_seq ?_
              refine W_regionE (c := 99) (c' := 100) (by kernel_rfl) rfl ?_
              refine Runs_p rfl (Valid.assignk (A := Is _) rfl rfl) rfl rfl ?_
              refine Runs_nil ?_
              refine thenQ_n ?_
              refine W_block ?_
              refine W_loopx (G := Nat) (fun (p : Nat) => p ≤ K) [(7, Is _), (8, Is _), (10, SlA 1 _ _), (21, Sl 1 _ _)] (fun (p : Nat) => [(23, Is (.int .i64 (p : Int))), (22, Is (.bool (alB (decide ((l.length : Int) = (K : Int))) (ctF m K 0) p))), (14, Buf 664 K)]) [] (fun (p : Nat) => [(664, .buf 3 ((ctF m K 0).map (Value.int .i64)))]) 100 (fun (p : Nat) => K - p) (0) [] (by first | trivial | omega | (simp; omega)) ⟨⟨(leq_is rfl rfl (by first | rfl | omega)), (leq_is rfl rfl (by first | rfl | omega)), (leq_buf rfl rfl rfl (by first | rfl | omega)), trivial⟩, ⟨(leq_is rfl rfl rfl), (leq_is rfl rfl rfl), (leq_sla (ReadsA.sla rfl) rfl rfl rfl), (leq_sl (Reads.sl rfl) rfl rfl rfl), trivial⟩, ⟨hp_buf rfl (by first | rfl | omega), trivial⟩, trivial, rfl, ⟨supg rfl, supg rfl, supg rfl, trivial⟩, ⟨supg rfl, supg rfl, supg rfl, supg rfl, trivial⟩, ⟨suph rfl rfl, trivial⟩, trivial, rfl, rfl⟩ ?_
              intro p hI3
              refine W_seq ?_
              refine W_seq ?_
              refine W_regionE (c := 100) (c' := 103) (by kernel_rfl) rfl ?_
              refine Runs_p rfl (Valid.movek (A := Is _) rfl rfl) rfl rfl ?_
              refine Runs_p rfl (Valid.movek (A := Is _) rfl rfl) rfl rfl ?_
              refine Runs_p rfl (Valid.lss rfl rfl rfl) rfl rfl ?_
              refine Runs_nil ?_
              refine thenQ_n ?_
              refine W_cond _ rfl (fun hb6 => ?_) (fun hb6 => ?_)
              · try simp only [decide_eq_true_eq] at hb6
                all_goals (
                  refine W_skip ?_
                  refine thenQ_n ?_
                  refine W_seq ?_
                  refine W_block ?_
                  refine W_regionE (c := 103) (c' := 112) (by kernel_rfl) rfl ?_
                  refine Runs_p rfl (Valid.movek (A := Is _) rfl rfl) rfl rfl ?_
                  refine Runs_p rfl (Valid.movek (A := Is _) rfl rfl) rfl rfl ?_
                  refine Runs_cnds (t := 14) rfl rfl (Grd.is rfl) [] (fun hg => trivial) (fun hg => Valid.movek (A := Buf 664 _) rfl rfl) (by simp [Op.operands]) rfl rfl ?_
                  refine Runs_cnd rfl rfl (Grd.is rfl) [] (fun hg => trivial) (fun hg => Valid.movek (A := Is _) rfl rfl) (by rfl) rfl ?_
                  refine Runs_cnds (t := 222) rfl rfl (Grd.is rfl) [(222, _), (223, _)] (fun hg => ⟨cnd_at rfl (by first | exact hg | exact hg.1 | exact hg.1.1 | exact hg.1.1.1), cnd_at rfl (by first | exact hg | exact hg.1 | exact hg.1.1 | exact hg.1.1.1), trivial⟩) (fun hg => Valid.idxB rfl Try.underlying22 sz3 rfl rfl (by (try simp only [Int.toNat_natCast, toNat_add, toNat_add1, decide_eq_true_eq, decide_eq_false_iff_not, Bool.and_eq_true, Bool.or_eq_true, Bool.and_eq_false_iff, Bool.or_eq_false_iff, Bool.not_eq_true', Bool.not_eq_false', Bool.true_eq_false, Bool.false_eq_true, not_true_eq_false, not_false_eq_true, ne_eq] at hg); first | omega | (simp only [Int.toNat_natCast, toNat_add, toNat_add1, List.length_append, List.length_cons, List.length_nil, List.length_replicate]; omega))) (by simp [Op.operands]) rfl rfl ?_
                  refine Runs_cnd rfl rfl (Grd.is rfl) [(224, _)] (fun hg => ⟨cnd_at rfl (by first | exact hg | exact hg.1 | exact hg.1.1 | exact hg.1.1.1), trivial⟩) (fun hg => Valid.loadB 0 rfl ag3 rfl rfl (by omega)) (by rfl) rfl ?_
                  refine Runs_cnd rfl rfl (Grd.is rfl) [(225, _)] (fun hg => ⟨cnd_at rfl (by first | exact hg | exact hg.1 | exact hg.1.1 | exact hg.1.1.1), trivial⟩) (fun hg => Valid.gtr rfl rfl rfl) (by rfl) rfl ?_
                  refine Runs_p rfl (Valid.pickand rfl rfl rfl (fun h => by first | exact h | exact ⟨hg, h⟩) rfl) rfl rfl ?_
                  refine Runs_p rfl (Valid.assignk (A := Is _) rfl rfl) rfl rfl ?_
                  refine Runs_nil ?_
                  refine blockQ_n ?_
                  refine thenQ_n ?_
                  refine W_regionE (c := 112) (c' := 115) (by kernel_rfl) rfl ?_
                  refine Runs_p rfl (Valid.movek (A := Is _) rfl rfl) rfl rfl ?_
                  refine Runs_p rfl (Valid.add rfl rfl rfl (room64 (by omega) (by omega))) rfl rfl ?_
                  refine Runs_p rfl (Valid.assignk (A := Is _) rfl rfl) rfl rfl ?_
                  refine Runs_nil ?_
                  refine LoopQ.next (p + 1) [] (by omega) (by omega) ⟨⟨(leq_is rfl rfl (by first | rfl | omega)), (leq_is rfl rfl (by first | rfl | omega)), (leq_buf rfl rfl rfl (by first | rfl | omega)), trivial⟩, ⟨(leq_is rfl rfl rfl), (leq_is rfl rfl rfl), (leq_sla (ReadsA.sla rfl) rfl rfl rfl), (leq_sl (Reads.sl rfl) rfl rfl rfl), trivial⟩, ⟨hp_buf rfl (by first | rfl | omega), trivial⟩, trivial, rfl, ⟨supg rfl, supg rfl, supg rfl, trivial⟩, ⟨supg rfl, supg rfl, supg rfl, supg rfl, trivial⟩, ⟨suph rfl rfl, trivial⟩, trivial, rfl, rfl⟩
                  done)
              · try simp only [decide_eq_false_iff_not] at hb6
                all_goals (
                  refine W_exit ?_
                  refine thenQ_e ?_
                  refine loopQ_e ?_
                  refine blockQ_x ?_
                  refine thenQ_n ?_
                  refine W_seq ?_
                  refine W_seq ?_
                  refine W_regionE (c := 103) (c' := 105) (by kernel_rfl) rfl ?_
                  refine Runs_p rfl (Valid.movek (A := Is _) rfl rfl) rfl rfl ?_
                  refine Runs_p rfl (Valid.not rfl rfl) rfl rfl ?_
                  refine Runs_nil ?_
                  refine thenQ_n ?_
                  refine W_cond _ rfl (fun hb7 => ?_) (fun hb7 => ?_)
                  · try simp only [Bool.not_eq_true'] at hb7
                    all_goals (
                      refine W_seq ?_
                      refine W_regionE (c := 105) (c' := 107) (by kernel_rfl) rfl ?_
                      refine Runs_p rfl (Valid.movek (A := Is _) rfl rfl) rfl rfl ?_
                      refine Runs_p rfl (Valid.assignk (A := Is _) rfl rfl) rfl rfl ?_
                      refine Runs_nil ?_
                      refine thenQ_n ?_
                      refine W_ret ?_
                      refine thenQ_r ?_
                      refine finQ_r ?_
                      refine ResOk.one rfl (RVal.is rfl rfl (by first | rfl | (simp; omega) | (simp [q5]; done) | (exfalso; simp at hb1; done) | (exfalso; simp at hb2; done) | (exfalso; simp at hb3; done) | (exfalso; simp at hb4; done) | (exfalso; simp at hb5; done) | (exfalso; simp at hb6; done) | (exfalso; simp at hb7; done) | (exfalso; simp at hb8; done) | (exfalso; simp at hb9; done) | (exfalso; simp at hb10; done) | (exfalso; simp at hb11; done) | (exfalso; simp at hb12; done) | (exfalso; simp at hb13; done)))
                      done)
                  · try simp only [Bool.not_eq_false'] at hb7
                    all_goals (
                      refine W_skip ?_
                      refine thenQ_n ?_
                      refine W_seq ?_
                      obtain ⟨hlk, hall⟩ := alB_t p (by first | assumption | simpa using hb6)
                      have hon := ones_same (w := ctF m K 0) (fun j hj => hall j (by omega))
                      have hlk2 : l.length = K := by have h9 := of_decide_eq_true hlk; omega
                      obtain ⟨best, X, Y, q1, q2, q3, q4, q5⟩ := least_f (w := ctF m K 0) (l := l) (ctF_bnd K 0 (by omega)) (by omega) (by omega) (by omega) hok
                      rw [hon] at q1 q3 q4
                      have hbt : tb m K 0 = best := by rw [tb, q1]
                      rw [← hbt] at q3
                      refine W.ent ?_ (Ent.freezeBuf 14 664 _ rfl rfl (by first | (rw [List.length_map]; omega) | omega))
                      refine W_regionE (c := 105) (c' := 115) (by kernel_rfl) rfl ?_
                      refine Runs_p rfl (Valid.movek (A := SlA 1 _ _) rfl rfl) rfl rfl ?_
                      refine Runs_p rfl (Valid.eltM (F := Fl) [] rfl Try.underlying27 sz22 (ReadsA.sla rfl) rfl (by first | omega | (simp only [List.length_cons, List.length_nil]; omega)) (by first | rfl | (simp; done) | omega)) rfl rfl ?_
                      refine Runs_p rfl (Valid.loadeltSl rfl ag22 rfl rfl) rfl rfl ?_
                      refine Runs_p rfl (Valid.movek (A := Sl 1 _ _) rfl rfl) rfl rfl ?_
                      refine Runs_p rfl (Valid.call rfl (co_t (l := tb m K 0) (w := ctF m K 0) rfl rfl (by omega) (by omega) rfl (by omega) q3) ⟨argle_sl (Reads.sl rfl), argle_sl (Reads.sl rfl), trivial⟩) rfl rfl ?_
                      refine Runs_p rfl (Valid.movek (A := Tup [Is _, Is _]) rfl rfl) rfl rfl ?_
                      refine Runs_p rfl (Valid.extract _ rfl rfl rfl) rfl rfl ?_
                      refine Runs_p rfl (Valid.extract _ rfl rfl rfl) rfl rfl ?_
                      refine Runs_p rfl (Valid.assignk (A := Is _) rfl rfl) rfl rfl ?_
                      refine Runs_p rfl (Valid.assignk (A := Is _) rfl rfl) rfl rfl ?_
                      refine Runs_nil ?_
                      refine thenQ_n ?_
                      refine W_seq ?_
                      refine W_regionE (c := 115) (c' := 123) (by kernel_rfl) rfl ?_
                      refine Runs_p rfl (Valid.movek (A := Sl 1 _ _) rfl rfl) rfl rfl ?_
                      refine Runs_p rfl (Valid.movek (A := Sl 1 _ _) rfl rfl) rfl rfl ?_
                      refine Runs_p rfl (Valid.call rfl (co_t (l := l) (w := ctF m K 0) rfl rfl (by omega) (by omega) rfl (by omega) q4) ⟨argle_sl (Reads.sl rfl), argle_sl (Reads.sl rfl), trivial⟩) rfl rfl ?_
                      refine Runs_p rfl (Valid.movek (A := Tup [Is _, Is _]) rfl rfl) rfl rfl ?_
                      refine Runs_p rfl (Valid.extract _ rfl rfl rfl) rfl rfl ?_
                      refine Runs_p rfl (Valid.extract _ rfl rfl rfl) rfl rfl ?_
                      refine Runs_p rfl (Valid.assignk (A := Is _) rfl rfl) rfl rfl ?_
                      refine Runs_p rfl (Valid.assignk (A := Is _) rfl rfl) rfl rfl ?_
                      refine Runs_nil ?_
                      refine thenQ_n ?_
                      refine W_seq ?_
                      refine W_regionE (c := 123) (c' := 138) (by kernel_rfl) rfl ?_
                      refine Runs_p rfl (Valid.movek (A := Is _) rfl rfl) rfl rfl ?_
                      refine Runs_p rfl (Valid.movek (A := Is _) rfl rfl) rfl rfl ?_
                      refine Runs_cnd rfl rfl (Grd.is rfl) [] (fun hg => trivial) (fun hg => Valid.movek (A := Is _) rfl rfl) (by rfl) rfl ?_
                      refine Runs_cnd rfl rfl (Grd.is rfl) [(247, _)] (fun hg => ⟨cnd_at rfl (by first | exact hg | exact hg.1 | exact hg.1.1 | exact hg.1.1.1), trivial⟩) (fun hg => Valid.eql rfl rfl rfl) (by rfl) rfl ?_
                      refine Runs_p rfl (Valid.pickand rfl rfl rfl (fun h => by first | exact h | exact ⟨hg, h⟩) rfl) rfl rfl ?_
                      refine Runs_p rfl (Valid.movek (A := Is _) rfl rfl) rfl rfl ?_
                      refine Runs_cnd rfl rfl (Grd.is rfl) [] (fun hg => trivial) (fun hg => Valid.movek (A := Is _) rfl rfl) (by rfl) rfl ?_
                      refine Runs_cnd rfl rfl (Grd.is rfl) [(251, _)] (fun hg => ⟨cnd_at rfl (by first | exact hg | exact hg.1 | exact hg.1.1 | exact hg.1.1.1), trivial⟩) (fun hg => Valid.eql rfl rfl rfl) (by rfl) rfl ?_
                      refine Runs_p rfl (Valid.pickand rfl rfl rfl (fun h => by first | exact h | exact ⟨hg, h⟩) rfl) rfl rfl ?_
                      refine Runs_p rfl (Valid.movek (A := Is _) rfl rfl) rfl rfl ?_
                      refine Runs_cnd rfl rfl (Grd.is rfl) [] (fun hg => trivial) (fun hg => Valid.movek (A := Is _) rfl rfl) (by rfl) rfl ?_
                      refine Runs_cnd rfl rfl (Grd.is rfl) [] (fun hg => trivial) (fun hg => Valid.movek (A := Is _) rfl rfl) (by rfl) rfl ?_
                      refine Runs_cnd rfl rfl (Grd.is rfl) [(255, _), (256, _)] (fun hg => ⟨cnd_at rfl (by first | exact hg | exact hg.1 | exact hg.1.1 | exact hg.1.1.1), cnd_at rfl (by first | exact hg | exact hg.1 | exact hg.1.1 | exact hg.1.1.1), trivial⟩) (fun hg => Valid.leq rfl rfl rfl) (by rfl) rfl ?_
                      refine Runs_p rfl (Valid.pickand rfl rfl rfl (fun h => by first | exact h | exact ⟨hg, h⟩) rfl) rfl rfl ?_
                      refine Runs_p rfl (Valid.assignk (A := Is _) rfl rfl) rfl rfl ?_
                      refine Runs_nil ?_
                      refine thenQ_n ?_
                      refine W_ret ?_
                      refine finQ_r ?_
                      refine ResOk.one rfl (RVal.is rfl rfl (by first | rfl | (simp; omega) | (simp [q5]; done) | (exfalso; simp at hb1; done) | (exfalso; simp at hb2; done) | (exfalso; simp at hb3; done) | (exfalso; simp at hb4; done) | (exfalso; simp at hb5; done) | (exfalso; simp at hb6; done) | (exfalso; simp at hb7; done) | (exfalso; simp at hb8; done) | (exfalso; simp at hb9; done) | (exfalso; simp at hb10; done) | (exfalso; simp at hb11; done) | (exfalso; simp at hb12; done) | (exfalso; simp at hb13; done)))
                      done)
                  done)
              done)
          done)
      done)
end Kg
end Go.Proofs.Ytdcenocljnlipaa
