/-
  WALKS of stage 10: Lengths.
-/
import Derived.Test.YtdcenocljnlipaaRows
import Derived.Test.YtdcenocljnlipaaMgc
import Derived.Test.YtdcenocljnlipaaWa
import Derived.Test.YtdcenocljnlipaaWb
import Derived.Test.YtdcenocljnlipaaWm
import Derived.Test.YtdcenocljnlipaaWc
import Derived.Test.YtdcenocljnlipaaWd
import Derived.Test.YtdcenocljnlipaaWe
import Derived.Test.YtdcenocljnlipaaWf
import Derived.Test.YtdcenocljnlipaaWg
import Derived.Test.YtdcenocljnlipaaOa
import Derived.Test.YtdcenocljnlipaaOb
import Derived.Test.YtdcenocljnlipaaOc
import Derived.Test.YtdcenocljnlipaaOd
import Derived.Test.YtdcenocljnlipaaOf
namespace Go.Proofs.Ytdcenocljnlipaa
open Go.RowKit
namespace Wh
open Ab Wa Wb Wm Wc Wd We Wf Wg Oa Ob Oc Od Of
theorem ag3 (w : World) : (isAgg 3).run Try.prog w = .ok false w := by kernel_rfl
theorem sz3 (w : World) : (sizeOf 3).run Try.prog w = .ok 1 w := by kernel_rfl
theorem tzv3 : (Try.prog.info? 3).map (fun i => (i.zero, i.size, i.bytes)) = some (some ((Value.int .i64) 0), 1, 8) := by kernel_rfl
def nowA (w : List Int) : Nat → List Int
  | 0 => List.replicate w.length 0
  | k + 1 => (nowA w k).set k (max (w.getD k 0) 1)
theorem nowA_len (w : List Int) : ∀ k, (nowA w k).length = w.length
  | 0 => List.length_replicate
  | k + 1 => by rw [nowA, List.length_set, nowA_len w k]
theorem nowA_at (w : List Int) {i : Nat} (hi : i < w.length) : ∀ k, i < k → k ≤ w.length → (nowA w k).getD i 0 = max (w.getD i 0) 1
  | 0, h, _ => by omega
  | k + 1, h, hk => by
    rw [nowA, gd_set' (by rw [nowA_len]; omega)]
    by_cases e : i = k
    · rw [if_pos e, e]
    · rw [if_neg e, nowA_at w hi k (by omega) (by omega)]
theorem ext_gd {l m : List Int} (hl : l.length = m.length) (h : ∀ i, i < l.length → l.getD i 0 = m.getD i 0) : l = m := by
  apply List.ext_getElem hl
  intro i h1 h2
  have := h i h1
  rwa [List.getD_eq_getElem?_getD, List.getD_eq_getElem?_getD, List.getElem?_eq_getElem h1, List.getElem?_eq_getElem h2] at this
theorem nowA_all (w : List Int) : nowA w w.length = ones w := ext_gd (by rw [nowA_len, ones_len]) (fun i hi => by rw [nowA_len] at hi; rw [nowA_at w hi _ hi (Nat.le_refl _), ones_at hi])
def hfA (v : List Int) : Nat → List Int
  | 0 => v
  | k + 1 => (hfA v k).set k ((hfA v k).getD k 0 / 2 + 1)
theorem hfA_len (v : List Int) : ∀ k, (hfA v k).length = v.length
  | 0 => rfl
  | k + 1 => by rw [hfA, List.length_set, hfA_len v k]
theorem hfA_at (v : List Int) {i : Nat} (hi : i < v.length) : ∀ k, k ≤ v.length → (hfA v k).getD i 0 = if i < k then v.getD i 0 / 2 + 1 else v.getD i 0
  | 0, _ => by rw [if_neg (by omega)]; rfl
  | k + 1, hk => by
    rw [hfA, gd_set' (by rw [hfA_len]; omega)]
    by_cases e : i = k
    · subst e
      rw [if_pos rfl, if_pos (by omega), hfA_at v hi i (by omega), if_neg (by omega)]
    · rw [if_neg e, hfA_at v hi k (by omega)]
      by_cases c : i < k
      · rw [if_pos c, if_pos (by omega)]
      · rw [if_neg c, if_neg (by omega)]
theorem halve_at (v : List Int) {i : Nat} (hi : i < v.length) : (halve v).getD i 0 = v.getD i 0 / 2 + 1 := by
  unfold halve
  rw [List.getD_eq_getElem?_getD, List.getD_eq_getElem?_getD, List.getElem?_map, List.getElem?_eq_getElem hi]; rfl
theorem hfA_all (v : List Int) : hfA v v.length = halve v := ext_gd (by rw [hfA_len, halve_len]) (fun i hi => by rw [hfA_len] at hi; rw [hfA_at v hi _ (Nat.le_refl _), if_pos hi, halve_at v hi])
def lnV (w : List Int) (most : Int) : List Int × Int := if 2 ≤ w.length ∧ w.length ≤ 258 ∧ 9 ≤ most ∧ most ≤ 20 ∧ bnd w then (lenW w most, 0) else ([], 1)
theorem lnV_y {w : List Int} {most : Int} (h : 2 ≤ w.length ∧ w.length ≤ 258 ∧ 9 ≤ most ∧ most ≤ 20 ∧ bnd w) : lnV w most = (lenW w most, 0) := by rw [lnV, if_pos h]
theorem lnV_n {w : List Int} {most : Int} (h : ¬ (2 ≤ w.length ∧ w.length ≤ 258 ∧ 9 ≤ most ∧ most ≤ 20 ∧ bnd w)) : lnV w most = ([], 1) := by rw [lnV, if_neg h]
theorem ones_le {w : List Int} (h : bnd w) : ∀ x ∈ ones w, x ≤ 1048577 := fun x hx => by
  obtain ⟨y, hy, rfl⟩ := List.mem_map.1 hx
  have := h y hy
  unfold okW at this; omega
theorem ws_bd {v : List Int} (h : ∀ x ∈ v, x ≤ 1048577) (hl : v.length ≤ 258) : ws (jq v v.length) ≤ 1000000000000 := by
  rw [ws_jq]
  have := sum_bd h
  omega
theorem at_bd {v : List Int} (hp : Pos v) (h : ∀ x ∈ v, x ≤ 1048577) {k : Nat} (hk : k < v.length) : 1 ≤ v.getD k 0 ∧ v.getD k 0 ≤ 1048577 := ⟨hp _ (getD_mem' hk), h _ (getD_mem' hk)⟩

theorem smax_t {l : List Int} {n : Nat} (hn : n = l.length) (h1 : 1 ≤ l.length) (hl : l.length ≤ 1000) : FPure Try.prog 39 [Sl 1 n (l.map (Value.int .i64))] (Is (.int .i64 (mxL l))) := by
  subst hn
  exact smax_s l h1 (by omega)

set_option maxRecDepth 100000 in
set_option maxHeartbeats 1000000 in
theorem lengths_s (w : List Int) (most : Int) (hl : w.length ≤ 1000) :
    FPure Try.prog 23 [Sl 1 w.length (w.map (Value.int .i64)), Is (.int .i64 most)] (Tup [Sl 1 (lnV w most).1.length ((lnV w most).1.map (Value.int .i64)), Is (.int .i64 (lnV w most).2)]) := by
  refine FPure.of Try.func23 Try.ntmps23 rfl (by kernel_rfl) rfl rfl rfl ?_
  refine W_seq ?_
  refine W_regionE (c := 1) (c' := 3) (by kernel_rfl) rfl ?_
  refine Runs_p rfl (Valid.assignk (A := Is (.slice none 0 0)) rfl rfl) rfl rfl ?_
  refine Runs_p rfl (Valid.assignk (A := Is _) rfl rfl) rfl rfl ?_
  refine Runs_nil ?_
  refine thenQ_n ?_
  refine W_seq ?_
  refine W_seq ?_
  refine W_regionE (c := 3) (c' := 19) (by kernel_rfl) rfl ?_
  refine Runs_p rfl (Valid.movek (A := Sl 1 _ _) rfl rfl) rfl rfl ?_
  refine Runs_p rfl (Valid.len rfl Try.underlying22 (Reads.sl rfl)) rfl rfl ?_
  refine Runs_p rfl (Valid.lss rfl rfl rfl) rfl rfl ?_
  refine Runs_p rfl (Valid.movek (A := Is _) rfl rfl) rfl rfl ?_
  refine Runs_cnd rfl rfl (Grd.is rfl) [] (fun hg => trivial) (fun hg => Valid.movek (A := Sl 1 _ _) rfl rfl) (by rfl) rfl ?_
  refine Runs_cnd rfl rfl (Grd.is rfl) [(15, _)] (fun hg => ⟨cnd_at rfl (by first | exact hg | exact hg.1 | exact hg.1.1 | exact hg.1.1.1), trivial⟩) (fun hg => Valid.len rfl Try.underlying22 (Reads.sl rfl)) (by rfl) rfl ?_
  refine Runs_cnd rfl rfl (Grd.is rfl) [(16, _)] (fun hg => ⟨cnd_at rfl (by first | exact hg | exact hg.1 | exact hg.1.1 | exact hg.1.1.1), trivial⟩) (fun hg => Valid.gtr rfl rfl rfl) (by rfl) rfl ?_
  refine Runs_p rfl (Valid.pickor rfl rfl rfl rfl (fun h => by first | exact h | exact ⟨hg, h⟩)) rfl rfl ?_
  refine Runs_p rfl (Valid.movek (A := Is _) rfl rfl) rfl rfl ?_
  refine Runs_cnd rfl rfl (Grd.is rfl) [] (fun hg => trivial) (fun hg => Valid.movek (A := Is _) rfl rfl) (by rfl) rfl ?_
  refine Runs_cnd rfl rfl (Grd.is rfl) [(20, _)] (fun hg => ⟨cnd_at rfl (by first | exact hg | exact hg.1 | exact hg.1.1 | exact hg.1.1.1), trivial⟩) (fun hg => Valid.lss rfl rfl rfl) (by rfl) rfl ?_
  refine Runs_p rfl (Valid.pickor rfl rfl rfl rfl (fun h => by first | exact h | exact ⟨hg, h⟩)) rfl rfl ?_
  refine Runs_p rfl (Valid.movek (A := Is _) rfl rfl) rfl rfl ?_
  refine Runs_cnd rfl rfl (Grd.is rfl) [] (fun hg => trivial) (fun hg => Valid.movek (A := Is _) rfl rfl) (by rfl) rfl ?_
  refine Runs_cnd rfl rfl (Grd.is rfl) [(24, _)] (fun hg => ⟨cnd_at rfl (by first | exact hg | exact hg.1 | exact hg.1.1 | exact hg.1.1.1), trivial⟩) (fun hg => Valid.gtr rfl rfl rfl) (by rfl) rfl ?_
  refine Runs_p rfl (Valid.pickor rfl rfl rfl rfl (fun h => by first | exact h | exact ⟨hg, h⟩)) rfl rfl ?_
  refine Runs_nil ?_
  refine thenQ_n ?_
  refine W_cond _ rfl (fun hb1 => ?_) (fun hb1 => ?_)
  · try simp only [decide_eq_true_eq, Bool.or_eq_true] at hb1
    all_goals (
      refine W_seq ?_
      refine W_regionE (c := 19) (c' := 21) (by kernel_rfl) rfl ?_
      refine Runs_p rfl (Valid.assignk (A := Is (.slice none 0 0)) rfl rfl) rfl rfl ?_
      refine Runs_p rfl (Valid.assignk (A := Is _) rfl rfl) rfl rfl ?_
      refine Runs_nil ?_
      refine thenQ_n ?_
      refine W_ret ?_
      refine thenQ_r ?_
      refine finQ_r ?_
      refine ResOk.two rfl (RVal.sl (Reads.nil rfl) rfl (by first | (rw [lnV_n (fun h => by obtain ⟨a1, a2, a3, a4, a5⟩ := h; first | omega | (simp_all; done))]; done) | (rw [lnV_n (fun h => by obtain ⟨a1, a2, a3, a4, a5⟩ := h; first | omega | (simp_all; done))]; rfl) | (rw [lnV_y hok, ← hi5, lenR_n (by omega)]; done) | (rw [lnV_y hok, ← hi5, lenR_n (by omega)]; show w.length = (joinV v).length; omega) | (rw [lnV_y hok]; done)) (by first | (rw [lnV_n (fun h => by obtain ⟨a1, a2, a3, a4, a5⟩ := h; first | omega | (simp_all; done))]; done) | (rw [lnV_n (fun h => by obtain ⟨a1, a2, a3, a4, a5⟩ := h; first | omega | (simp_all; done))]; rfl) | (rw [lnV_y hok, ← hi5, lenR_n (by omega)]; done) | (rw [lnV_y hok, ← hi5, lenR_n (by omega)]; show w.length = (joinV v).length; omega) | (rw [lnV_y hok]; done))) (RVal.is rfl rfl (by first | (rw [lnV_n (fun h => by obtain ⟨a1, a2, a3, a4, a5⟩ := h; first | omega | (simp_all; done))]; done) | (rw [lnV_n (fun h => by obtain ⟨a1, a2, a3, a4, a5⟩ := h; first | omega | (simp_all; done))]; rfl) | (rw [lnV_y hok, ← hi5, lenR_n (by omega)]; done) | (rw [lnV_y hok, ← hi5, lenR_n (by omega)]; show w.length = (joinV v).length; omega) | (rw [lnV_y hok]; done)))
      done)
  · try simp only [decide_eq_false_iff_not, Bool.or_eq_false_iff] at hb1
    all_goals (
      refine W_skip ?_
      refine thenQ_n ?_
      refine W_seq ?_
      refine W_seq ?_
      refine W_regionE (c := 19) (c' := 22) (by kernel_rfl) rfl ?_
      refine Runs_p rfl (Valid.movek (A := Sl 1 _ _) rfl rfl) rfl rfl ?_
      refine Runs_p rfl (Valid.call rfl (bounded_s _ (by omega)) ⟨argle_sl (Reads.sl rfl), trivial⟩) rfl rfl ?_
      refine Runs_p rfl (Valid.not rfl rfl) rfl rfl ?_
      refine Runs_nil ?_
      refine thenQ_n ?_
      refine W_cond _ rfl (fun hb2 => ?_) (fun hb2 => ?_)
      · try simp only [decide_eq_false_iff_not, Bool.not_eq_true'] at hb2
        all_goals (
          refine W_seq ?_
          refine W_regionE (c := 22) (c' := 24) (by kernel_rfl) rfl ?_
          refine Runs_p rfl (Valid.assignk (A := Is (.slice none 0 0)) rfl rfl) rfl rfl ?_
          refine Runs_p rfl (Valid.assignk (A := Is _) rfl rfl) rfl rfl ?_
          refine Runs_nil ?_
          refine thenQ_n ?_
          refine W_ret ?_
          refine thenQ_r ?_
          refine finQ_r ?_
          refine ResOk.two rfl (RVal.sl (Reads.nil rfl) rfl (by first | (rw [lnV_n (fun h => by obtain ⟨a1, a2, a3, a4, a5⟩ := h; first | omega | (simp_all; done))]; done) | (rw [lnV_n (fun h => by obtain ⟨a1, a2, a3, a4, a5⟩ := h; first | omega | (simp_all; done))]; rfl) | (rw [lnV_y hok, ← hi5, lenR_n (by omega)]; done) | (rw [lnV_y hok, ← hi5, lenR_n (by omega)]; show w.length = (joinV v).length; omega) | (rw [lnV_y hok]; done)) (by first | (rw [lnV_n (fun h => by obtain ⟨a1, a2, a3, a4, a5⟩ := h; first | omega | (simp_all; done))]; done) | (rw [lnV_n (fun h => by obtain ⟨a1, a2, a3, a4, a5⟩ := h; first | omega | (simp_all; done))]; rfl) | (rw [lnV_y hok, ← hi5, lenR_n (by omega)]; done) | (rw [lnV_y hok, ← hi5, lenR_n (by omega)]; show w.length = (joinV v).length; omega) | (rw [lnV_y hok]; done))) (RVal.is rfl rfl (by first | (rw [lnV_n (fun h => by obtain ⟨a1, a2, a3, a4, a5⟩ := h; first | omega | (simp_all; done))]; done) | (rw [lnV_n (fun h => by obtain ⟨a1, a2, a3, a4, a5⟩ := h; first | omega | (simp_all; done))]; rfl) | (rw [lnV_y hok, ← hi5, lenR_n (by omega)]; done) | (rw [lnV_y hok, ← hi5, lenR_n (by omega)]; show w.length = (joinV v).length; omega) | (rw [lnV_y hok]; done)))
          done)
      · try simp only [decide_eq_true_eq, Bool.not_eq_false'] at hb2
        all_goals (
          refine W_skip ?_
          refine thenQ_n ?_
          refine W_seq ?_
          have hbw : bnd w := by simp_all
          have hok : 2 ≤ w.length ∧ w.length ≤ 258 ∧ 9 ≤ most ∧ most ≤ 20 ∧ bnd w := ⟨by omega, by omega, by omega, by omega, hbw⟩
          refine W_regionE (c := 22) (c' := 26) (by kernel_rfl) rfl ?_
          refine Runs_p rfl (Valid.movek (A := Sl 1 _ _) rfl rfl) rfl rfl ?_
          refine Runs_p rfl (Valid.len rfl Try.underlying22 (Reads.sl rfl)) rfl rfl ?_
          refine Runs_w rfl (Valid.makebuf (Value.int .i64) 0 rfl Try.underlying22 tzv3 rfl rfl rfl (by omega) (by omega) (by omega)) rfl rfl ?_
          refine Runs_p rfl (Valid.assignk (A := Buf 192 _) rfl rfl) rfl rfl ?_
          refine Runs_nil ?_
          refine thenQ_n ?_
          refine W_seq ?_
          refine W_seq ?_
          refine W_regionE (c := 26) (c' := 29) (by kernel_rfl) rfl ?_
          refine Runs_p rfl (Valid.movek (A := Sl 1 _ _) rfl rfl) rfl rfl ?_
          refine Runs_p rfl (Valid.len rfl Try.underlying22 (Reads.sl rfl)) rfl rfl ?_
          refine Runs_p rfl (Valid.movek (A := Is _) rfl rfl) rfl rfl ?_
          refine Runs_nil ?_
          refine thenQ_n ?_
          refine W_block ?_
          refine W_loopx (G := Nat) (fun (k : Nat) => k ≤ w.length) [(1, Is _), (33, Sl 1 _ _), (34, Is _)] (fun (k : Nat) => [(35, Is (.int .i64 (k : Int))), (6, Buf 192 w.length)]) [] (fun (k : Nat) => [(192, .buf 3 ((nowA w k).map (Value.int .i64)))]) 29 (fun (k : Nat) => w.length - k) (0) [] (by first | trivial | omega | (simp; omega)) ⟨⟨(leq_is rfl rfl (by first | rfl | omega)), (leq_buf rfl rfl rfl (by first | rfl | omega)), trivial⟩, ⟨(leq_is rfl rfl rfl), (leq_sl (Reads.sl rfl) rfl rfl rfl), (leq_is rfl rfl rfl), trivial⟩, ⟨hp_buf rfl (by first | rfl | omega), trivial⟩, trivial, rfl, ⟨supg rfl, supg rfl, trivial⟩, ⟨supg rfl, supg rfl, supg rfl, trivial⟩, ⟨suph rfl rfl, trivial⟩, trivial, rfl, rfl⟩ ?_
          intro k hI1
          have hnl := nowA_len w k
          refine W_seq ?_
          refine W_regionE (c := 29) (c' := 30) (by kernel_rfl) rfl ?_
          refine Runs_p rfl (Valid.lss rfl rfl rfl) rfl rfl ?_
          refine Runs_nil ?_
          refine thenQ_n ?_
          refine W_seq ?_
          refine W_cond _ rfl (fun hb3 => ?_) (fun hb3 => ?_)
          · try simp only [decide_eq_true_eq] at hb3
            all_goals (
              refine W_skip ?_
              refine thenQ_n ?_
              refine W_seq ?_
              refine W_block ?_
              refine W_seq ?_
              refine W_regionE (c := 30) (c' := 35) (by kernel_rfl) rfl ?_
              refine Runs_p rfl (Valid.movek (A := Is _) rfl rfl) rfl rfl ?_
              refine Runs_p rfl (Valid.eltaddr1 0 rfl Try.underlying22 sz3 (Reads.sl rfl) rfl (by omega) rfl) rfl rfl ?_
              refine Runs_p rfl (Valid.loadelt rfl ag3 rfl) rfl rfl ?_
              refine Runs_p rfl (Valid.assignk (A := Is _) rfl rfl) rfl rfl ?_
              refine Runs_p rfl (Valid.assignk (A := Is _) rfl rfl) rfl rfl ?_
              refine Runs_nil ?_
              refine thenQ_n ?_
              refine W_regionE (c := 35) (c' := 41) (by kernel_rfl) rfl ?_
              refine Runs_p rfl (Valid.movek (A := Buf 192 _) rfl rfl) rfl rfl ?_
              refine Runs_p rfl (Valid.movek (A := Is _) rfl rfl) rfl rfl ?_
              refine Runs_p rfl (Valid.movek (A := Is _) rfl rfl) rfl rfl ?_
              refine Runs_p rfl (Valid.max rfl rfl rfl) rfl rfl ?_
              refine Runs_p rfl (Valid.idxB rfl Try.underlying22 sz3 rfl rfl (by omega)) rfl rfl ?_
              refine Runs_op rfl (Valid.storeB _ rfl sz3 rfl rfl (by omega) rfl (One.is rfl rfl rfl)) rfl ?_
              refine Runs_nil ?_
              refine blockQ_n ?_
              refine thenQ_n ?_
              refine W_regionE (c := 41) (c' := 43) (by kernel_rfl) rfl ?_
              refine Runs_p rfl (Valid.add rfl rfl rfl (room64 (by omega) (by omega))) rfl rfl ?_
              refine Runs_p rfl (Valid.movek (A := Is _) rfl rfl) rfl rfl ?_
              refine Runs_nil ?_
              refine LoopQ.next (k + 1) [] (by omega) (by omega) ⟨⟨(leq_is rfl rfl (by first | rfl | omega)), (leq_buf rfl rfl rfl (by first | rfl | omega)), trivial⟩, ⟨(leq_is rfl rfl rfl), (leq_sl (Reads.sl rfl) rfl rfl rfl), (leq_is rfl rfl rfl), trivial⟩, ⟨hp_buf rfl (by first | rfl | omega), trivial⟩, trivial, rfl, ⟨supg rfl, supg rfl, trivial⟩, ⟨supg rfl, supg rfl, supg rfl, trivial⟩, ⟨suph rfl rfl, trivial⟩, trivial, rfl, rfl⟩
              done)
          · try simp only [decide_eq_false_iff_not] at hb3
            all_goals (
              refine W_exit ?_
              refine thenQ_e ?_
              refine loopQ_e ?_
              refine blockQ_x ?_
              refine thenQ_n ?_
              refine W_seq ?_
              obtain rfl : k = w.length := by omega
              rw [nowA_all w]
              have hp1 := ones_pos w
              have hn1 := hp1.nn
              have hl1 := ones_len w
              have hb1_ := ones_le hbw
              have hs1 := ws_bd hb1_ (by omega)
              have hg1 := sum_ge hp1
              refine W_regionE (c := 30) (c' := 33) (by kernel_rfl) rfl ?_
              refine Runs_p rfl (Valid.movek (A := Buf 192 _) rfl rfl) rfl rfl ?_
              refine Runs_w rfl (Valid.callm [(1, 192)] rfl (.inl ⟨rfl, rfl⟩) (join_s (ones w) (by assumption) (by omega) (by omega) (by omega)) ⟨(leq_buf rfl rfl rfl (by first | rfl | omega)), trivial⟩ ⟨⟨_, rfl, .buf rfl⟩, trivial⟩ (up_pure rfl) (hpup_cons (j := 192) rfl cup_buf hpup_nil) (by kernel_rfl) (by kernel_rfl) (by kernel_rfl) (by kernel_rfl) (by kernel_rfl) (by kernel_rfl) (by kernel_rfl) (by kernel_rfl) (by kernel_rfl)) rfl rfl ?_
              refine Runs_p rfl (Valid.assignk (A := Sl 1 _ _) rfl rfl) rfl rfl ?_
              refine Runs_nil ?_
              refine thenQ_n ?_
              refine W_seq ?_
              refine W_block ?_
              refine W_loopx (G := List Int × Nat) (fun (g_ : List Int × Nat) => match g_ with | ⟨v, f⟩ => v.length = w.length ∧ Pos v ∧ (∀ x ∈ v, x ≤ 1048577) ∧ v.sum ≤ (f : Int) ∧ lenR f v most = lenW w most) [(1, Is _)] (fun (g_ : List Int × Nat) => match g_ with | ⟨v, f⟩ => [(6, Buf 192 w.length), (9, Sl 1 w.length ((joinV v).map (Value.int .i64)))]) [] (fun (g_ : List Int × Nat) => match g_ with | ⟨v, f⟩ => [(192, .buf 3 ((v).map (Value.int .i64)))]) 33 (fun (g_ : List Int × Nat) => match g_ with | ⟨v, f⟩ => f) (⟨ones w, (ones w).sum.toNat⟩) [] (⟨hl1, hp1, hb1_, by omega, rfl⟩) ⟨⟨(leq_buf rfl rfl rfl (by first | rfl | omega)), (leq_sl (Reads.sl rfl) rfl (by first | rfl | omega) (by first | rfl | omega)), trivial⟩, ⟨(leq_is rfl rfl rfl), trivial⟩, ⟨hp_buf rfl (by first | rfl | omega), trivial⟩, trivial, rfl, ⟨supg rfl, supg rfl, trivial⟩, ⟨supg rfl, trivial⟩, ⟨suph rfl rfl, trivial⟩, trivial, rfl, rfl⟩ ?_
              intro ⟨v, f⟩ hI2
              obtain ⟨hi1, hi2, hi3, hi4, hi5⟩ := hI2
              have hjl := joinV_len (w := v) (by omega)
              have hvg := sum_ge hi2
              refine W_seq ?_
              refine W_seq ?_
              refine W_regionE (c := 33) (c' := 37) (by kernel_rfl) rfl ?_
              refine Runs_p rfl (Valid.movek (A := Sl 1 _ _) rfl rfl) rfl rfl ?_
              refine Runs_p rfl (Valid.call rfl (smax_t (l := joinV v) (by omega) (by omega) (by omega)) ⟨argle_sl (Reads.sl rfl), trivial⟩) rfl rfl ?_
              refine Runs_p rfl (Valid.movek (A := Is _) rfl rfl) rfl rfl ?_
              refine Runs_p rfl (Valid.gtr rfl rfl rfl) rfl rfl ?_
              refine Runs_nil ?_
              refine thenQ_n ?_
              refine W_cond _ rfl (fun hb4 => ?_) (fun hb4 => ?_)
              · try simp only [decide_eq_true_eq] at hb4
                all_goals (
                  refine W_skip ?_
                  refine thenQ_n ?_
                  refine W_block ?_
                  refine W_seq ?_
                  refine W_seq ?_
                  refine W_regionE (c := 37) (c' := 40) (by kernel_rfl) rfl ?_
                  refine Runs_p rfl (Valid.movek (A := Buf 192 _) rfl rfl) rfl rfl ?_
                  refine Runs_p rfl (Valid.lenB rfl Try.underlying22 rfl) rfl rfl ?_
                  refine Runs_p rfl (Valid.movek (A := Is _) rfl rfl) rfl rfl ?_
                  refine Runs_nil ?_
                  refine thenQ_n ?_
                  refine W_block ?_
                  refine W_loopx (G := Nat) (fun (j : Nat) => j ≤ v.length) [(1, Is _), (53, Is _)] (fun (j : Nat) => [(54, Is (.int .i64 (j : Int))), (6, Buf 192 w.length)]) [] (fun (j : Nat) => [(192, .buf 3 ((hfA v j).map (Value.int .i64)))]) 40 (fun (j : Nat) => v.length - j) (0) [] (by first | trivial | omega | (simp; omega)) ⟨⟨(leq_is rfl rfl (by first | rfl | omega)), (leq_buf rfl rfl rfl (by first | rfl | omega)), trivial⟩, ⟨(leq_is rfl rfl rfl), (leq_is rfl rfl rfl), trivial⟩, ⟨hp_buf rfl (by first | rfl | omega), trivial⟩, trivial, rfl, ⟨supg rfl, supg rfl, trivial⟩, ⟨supg rfl, supg rfl, trivial⟩, ⟨suph rfl rfl, trivial⟩, trivial, rfl, rfl⟩ ?_
                  intro j hI3
                  have hhfl := hfA_len v j
                  refine W_seq ?_
                  refine W_regionE (c := 40) (c' := 41) (by kernel_rfl) rfl ?_
                  refine Runs_p rfl (Valid.lss rfl rfl rfl) rfl rfl ?_
                  refine Runs_nil ?_
                  refine thenQ_n ?_
                  refine W_seq ?_
                  refine W_cond _ rfl (fun hb5 => ?_) (fun hb5 => ?_)
                  · try simp only [decide_eq_true_eq] at hb5
                    all_goals (
                      refine W_skip ?_
                      refine thenQ_n ?_
                      refine W_seq ?_
                      refine W_block ?_
                      refine W_seq ?_
                      refine W_regionE (c := 41) (c' := 43) (by kernel_rfl) rfl ?_
                      refine Runs_p rfl (Valid.movek (A := Is _) rfl rfl) rfl rfl ?_
                      refine Runs_p rfl (Valid.assignk (A := Is _) rfl rfl) rfl rfl ?_
                      refine Runs_nil ?_
                      refine thenQ_n ?_
                      have hvb := at_bd hi2 hi3 (k := j) (by omega)
                      have hva := hfA_at v (i := j) (by omega) j (by omega)
                      rw [if_neg (by omega)] at hva
                      refine W_regionE (c := 43) (c' := 53) (by kernel_rfl) rfl ?_
                      refine Runs_p rfl (Valid.movek (A := Buf 192 _) rfl rfl) rfl rfl ?_
                      refine Runs_p rfl (Valid.movek (A := Is _) rfl rfl) rfl rfl ?_
                      refine Runs_p rfl (Valid.movek (A := Buf 192 _) rfl rfl) rfl rfl ?_
                      refine Runs_p rfl (Valid.movek (A := Is _) rfl rfl) rfl rfl ?_
                      refine Runs_p rfl (Valid.idxB rfl Try.underlying22 sz3 rfl rfl (by omega)) rfl rfl ?_
                      refine Runs_p rfl (Valid.loadB 0 rfl ag3 rfl rfl (by omega)) rfl rfl ?_
                      refine Runs_p rfl (Valid.quo rfl rfl rfl (by first | omega | (simp only [Int.toNat_natCast]; omega)) (by omega) (room64 (by first | omega | (simp only [Int.toNat_natCast]; omega)) (by first | omega | (simp only [Int.toNat_natCast]; omega)))) rfl rfl ?_
                      refine Runs_p rfl (Valid.add rfl rfl rfl (room64 (by first | omega | (simp only [Int.toNat_natCast]; omega)) (by first | omega | (simp only [Int.toNat_natCast]; omega)))) rfl rfl ?_
                      refine Runs_p rfl (Valid.idxB rfl Try.underlying22 sz3 rfl rfl (by omega)) rfl rfl ?_
                      refine Runs_op rfl (Valid.storeB _ rfl sz3 rfl rfl (by omega) rfl (One.is rfl rfl rfl)) rfl ?_
                      refine Runs_nil ?_
                      refine blockQ_n ?_
                      refine thenQ_n ?_
                      refine W_regionE (c := 53) (c' := 55) (by kernel_rfl) rfl ?_
                      refine Runs_p rfl (Valid.add rfl rfl rfl (room64 (by omega) (by omega))) rfl rfl ?_
                      refine Runs_p rfl (Valid.movek (A := Is _) rfl rfl) rfl rfl ?_
                      refine Runs_nil ?_
                      refine LoopQ.next (j + 1) [] (by omega) (by omega) ⟨⟨(leq_is rfl rfl (by first | rfl | omega)), (leq_buf rfl rfl rfl (by first | rfl | omega)), trivial⟩, ⟨(leq_is rfl rfl rfl), (leq_is rfl rfl rfl), trivial⟩, ⟨hp_buf rfl (by first | rfl | omega), trivial⟩, trivial, rfl, ⟨supg rfl, supg rfl, trivial⟩, ⟨supg rfl, supg rfl, trivial⟩, ⟨suph rfl rfl, trivial⟩, trivial, rfl, rfl⟩
                      done)
                  · try simp only [decide_eq_false_iff_not] at hb5
                    all_goals (
                      refine W_exit ?_
                      refine thenQ_e ?_
                      refine loopQ_e ?_
                      refine blockQ_x ?_
                      refine thenQ_n ?_
                      obtain rfl : j = v.length := by omega
                      rw [hfA_all v]
                      have hhl := halve_len v
                      have hhp := halve_pos hi2
                      have hhn := hhp.nn
                      have hhb := halve_le hi3 (by decide)
                      have hhs := ws_bd hhb (by omega)
                      refine W_regionE (c := 41) (c' := 44) (by kernel_rfl) rfl ?_
                      refine Runs_p rfl (Valid.movek (A := Buf 192 _) rfl rfl) rfl rfl ?_
                      refine Runs_w rfl (Valid.callm [(1, 192)] rfl (.inl ⟨rfl, rfl⟩) (join_s (halve v) (by assumption) (by omega) (by omega) (by omega)) ⟨(leq_buf rfl rfl rfl (by first | rfl | omega)), trivial⟩ ⟨⟨_, rfl, .buf rfl⟩, trivial⟩ (up_pure rfl) (hpup_cons (j := 192) rfl cup_buf hpup_nil) (by kernel_rfl) (by kernel_rfl) (by kernel_rfl) (by kernel_rfl) (by kernel_rfl) (by kernel_rfl) (by kernel_rfl) (by kernel_rfl) (by kernel_rfl)) rfl rfl ?_
                      refine Runs_p rfl (Valid.assignk (A := Sl 1 _ _) rfl rfl) rfl rfl ?_
                      refine Runs_nil ?_
                      refine blockQ_n ?_
                      refine LoopQ.next (⟨halve v, f - 1⟩) [] (⟨by omega, hhp, hhb, by have := (halve_sum hi2).2 (deep_three hi2 (by omega) (by omega) (show 9 ≤ most by omega) (by omega)); omega, by rw [← hi5, ← lenR_y (by omega), show f - 1 + 1 = f by omega]⟩) (by first | omega | (dsimp only; omega)) ⟨⟨(leq_buf rfl rfl rfl (by first | rfl | omega)), (leq_sl (Reads.sl rfl) rfl (by first | rfl | omega) (by first | rfl | omega)), trivial⟩, ⟨(leq_is rfl rfl rfl), trivial⟩, ⟨hp_buf rfl (by first | rfl | omega), trivial⟩, trivial, rfl, ⟨supg rfl, supg rfl, trivial⟩, ⟨supg rfl, trivial⟩, ⟨suph rfl rfl, trivial⟩, trivial, rfl, rfl⟩
                      done)
                  done)
              · try simp only [decide_eq_false_iff_not] at hb4
                all_goals (
                  refine W_exit ?_
                  refine thenQ_e ?_
                  refine loopQ_e ?_
                  refine blockQ_x ?_
                  refine thenQ_n ?_
                  refine W_seq ?_
                  refine W_regionE (c := 37) (c' := 40) (by kernel_rfl) rfl ?_
                  refine Runs_p rfl (Valid.movek (A := Sl 1 _ _) rfl rfl) rfl rfl ?_
                  refine Runs_p rfl (Valid.assignk (A := Sl 1 _ _) rfl rfl) rfl rfl ?_
                  refine Runs_p rfl (Valid.assignk (A := Is _) rfl rfl) rfl rfl ?_
                  refine Runs_nil ?_
                  refine thenQ_n ?_
                  refine W_ret ?_
                  refine finQ_r ?_
                  refine ResOk.two rfl (RVal.sl (Reads.sl rfl) rfl (by first | (rw [lnV_n (fun h => by obtain ⟨a1, a2, a3, a4, a5⟩ := h; first | omega | (simp_all; done))]; done) | (rw [lnV_n (fun h => by obtain ⟨a1, a2, a3, a4, a5⟩ := h; first | omega | (simp_all; done))]; rfl) | (rw [lnV_y hok, ← hi5, lenR_n (by omega)]; done) | (rw [lnV_y hok, ← hi5, lenR_n (by omega)]; show w.length = (joinV v).length; omega) | (rw [lnV_y hok]; done)) (by first | (rw [lnV_n (fun h => by obtain ⟨a1, a2, a3, a4, a5⟩ := h; first | omega | (simp_all; done))]; done) | (rw [lnV_n (fun h => by obtain ⟨a1, a2, a3, a4, a5⟩ := h; first | omega | (simp_all; done))]; rfl) | (rw [lnV_y hok, ← hi5, lenR_n (by omega)]; done) | (rw [lnV_y hok, ← hi5, lenR_n (by omega)]; show w.length = (joinV v).length; omega) | (rw [lnV_y hok]; done))) (RVal.is rfl rfl (by first | (rw [lnV_n (fun h => by obtain ⟨a1, a2, a3, a4, a5⟩ := h; first | omega | (simp_all; done))]; done) | (rw [lnV_n (fun h => by obtain ⟨a1, a2, a3, a4, a5⟩ := h; first | omega | (simp_all; done))]; rfl) | (rw [lnV_y hok, ← hi5, lenR_n (by omega)]; done) | (rw [lnV_y hok, ← hi5, lenR_n (by omega)]; show w.length = (joinV v).length; omega) | (rw [lnV_y hok]; done)))
                  done)
              done)
          done)
      done)
end Wh
end Go.Proofs.Ytdcenocljnlipaa
