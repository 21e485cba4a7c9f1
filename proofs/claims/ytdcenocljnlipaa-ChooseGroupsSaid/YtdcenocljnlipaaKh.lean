/-
  WALKS of stage 11: the law ChooseGroups.
-/
import Derived.Test.YtdcenocljnlipaaRows
import Derived.Test.YtdcenocljnlipaaMgc
import Derived.Test.YtdcenocljnlipaaWa
import Derived.Test.YtdcenocljnlipaaWb
import Derived.Test.YtdcenocljnlipaaWm
import Derived.Test.YtdcenocljnlipaaWc
import Derived.Test.YtdcenocljnlipaaWd
import Derived.Test.YtdcenocljnlipaaWe
import Derived.Test.YtdcenocljnlipaaWf
import Derived.Test.YtdcenocljnlipaaWg
import Derived.Test.YtdcenocljnlipaaWk
import Derived.Test.YtdcenocljnlipaaOa
import Derived.Test.YtdcenocljnlipaaOb
import Derived.Test.YtdcenocljnlipaaOc
import Derived.Test.YtdcenocljnlipaaOd
import Derived.Test.YtdcenocljnlipaaOf
import Derived.Test.YtdcenocljnlipaaOi
import Derived.Test.YtdcenocljnlipaaWh
import Derived.Test.YtdcenocljnlipaaCm
import Derived.Test.YtdcenocljnlipaaKa
import Derived.Test.YtdcenocljnlipaaKb
import Derived.Test.YtdcenocljnlipaaKl
import Derived.Test.YtdcenocljnlipaaKj
import Derived.Test.YtdcenocljnlipaaKc
import Derived.Test.YtdcenocljnlipaaKd
import Derived.Test.YtdcenocljnlipaaKn
import Derived.Test.YtdcenocljnlipaaOe
import Derived.Test.YtdcenocljnlipaaOg
import Derived.Test.YtdcenocljnlipaaOh
import Derived.Test.YtdcenocljnlipaaOm
import Derived.Test.YtdcenocljnlipaaMha
namespace Go.Proofs.Ytdcenocljnlipaa
open Go.RowKit
namespace Kh
open Ab Bm Bt Wa Wb Wm Wc Wd We Wf Wg Wk Oa Ob Oc Od Of Oi Wh Cm Ka Kb Kl Kj Kc Kd Kn Oe Og Oh Bb
theorem ag22 (w : World) : (isAgg 22).run Try.prog w = .ok false w := by kernel_rfl
theorem ag3 (w : World) : (isAgg 3).run Try.prog w = .ok false w := by kernel_rfl
theorem sz22 (w : World) : (sizeOf 22).run Try.prog w = .ok 1 w := by kernel_rfl
theorem sz40 (w : World) : (sizeOf 40).run Try.prog w = .ok 2 w := by kernel_rfl
theorem ti3 : TI Try.prog 3 1 8 := .mk' (z := (Value.int .i64 0)) (by kernel_rfl) rfl
theorem zv40 (w : World) : (zeroValue 40).run Try.prog w = .ok (.agg #[(Value.string ⟨#[]⟩), (Value.int .i64 0)]) w := by kernel_rfl
theorem wb_len {l : List Int} (h : (sndV l).2 = 0) {x : Int} (hx : 0 ≤ x ∧ x < l.length) : ((wbits l x).length : Int) = l.getD x.toNat 0 := by
  have h1 : Om.OkL l := h
  have h2 := Om.wdV_at h1 (s := x.toNat) (by omega)
  have h3 := h1.good (s := x.toNat) (by omega)
  rw [wbits, num_len, h2, h3.2.2]; simp
theorem fl_len {l m : List Int} (h : (sndV l).2 = 0) (hm : ∀ x ∈ m, 0 ≤ x ∧ x < l.length) : ∀ k, k ≤ m.length → ((bsW l m k).flatten.length : Int) = btS l m k
  | 0, _ => by simp [bsW, btS]
  | k + 1, hk => by
    have ih := fl_len h hm k (by omega)
    have hw := wb_len h (hm _ (gmem (l := m) (k := k) (by omega)))
    rw [bsW_s (by omega), List.flatten_append, List.length_append, btS, ← ih, ← hw]
    simp
theorem bt_add {l m : List Int} (i : Nat) : ∀ j, j ≤ (gp m i).length → btS l m (10 * i) + btS l (gp m i) j = btS l m (10 * i + j)
  | 0, _ => by rw [btS]; simp
  | j + 1, hj => by
    have ih := bt_add (l := l) (m := m) i j (by omega)
    rw [btS, ← Nat.add_assoc, btS, ← gp_at (by omega), ← ih]; omega
theorem tk_add (m : List Int) (i : Nat) : m.take (10 * i) ++ gp m i = m.take (10 * (i + 1)) := by
  unfold gp
  rw [show 10 * (i + 1) = 10 * i + 10 by omega, List.take_add]
theorem pt_t {l m : List Int} {b : ByteArray} {k : Int} (hi : In64 l) (hl : l.length ≤ 1000) (hm : m.length ≤ 1000) (h : putV l m = ((b, k), 0)) : FPure Try.prog 22 [Sl 1 l.length (l.map (Value.int .i64)), Sl 1 m.length (m.map (Value.int .i64))] (Tup [Agg [Is (.string b), Is (.int .i64 k)], Is (.int .i64 0)]) := by
  have h1 := cput_s l hi (by omega) m (by omega)
  rw [h] at h1
  exact h1
theorem put_n {l m : List Int} (h : (sndV l).2 = 0) (hm : ∀ x ∈ m, 0 ≤ x ∧ x < l.length) : ∃ b, putV l m = ((b, btS l m m.length), 0) := by
  have h1 := pput_0 (m := m) h rfl (fun j hj => hm _ (gmem (l := m) hj))
  exact ⟨_, by rw [h1, fl_len h hm _ (Nat.le_refl _)]⟩

set_option maxRecDepth 100000 in
set_option maxHeartbeats 1000000 in
theorem groups_w (raw : List Int) (hraw : In64 raw) (lraw : raw.length ≤ 9223372036854775807) (lens : List Int) (hlens : In64 lens) (llens : lens.length ≤ 9223372036854775807) :
    FPure Try.prog 5 [Sl 1 raw.length (raw.map (Value.int .i64)), Sl 1 lens.length (lens.map (Value.int .i64))] (Is (.bool true)) := by
  refine FPure.of Try.func5 Try.ntmps5 rfl (by kernel_rfl) rfl rfl rfl ?_
  refine W_seq ?_
  refine W_regionE (c := 1) (c' := 2) (by kernel_rfl) rfl ?_
  refine Runs_p rfl (Valid.assignk (A := Is _) rfl rfl) rfl rfl ?_
  refine Runs_nil ?_
  refine thenQ_n ?_
  refine W_seq ?_
  refine W_regionE (c := 2) (c' := 4) (by kernel_rfl) rfl ?_
  refine Runs_p rfl (Valid.call rfl (awake11_s) trivial) rfl rfl ?_
  refine Runs_p rfl (Valid.assignk (A := Is _) rfl rfl) rfl rfl ?_
  refine Runs_nil ?_
  refine thenQ_n ?_
  refine W_seq ?_
  refine W_regionE (c := 4) (c' := 7) (by kernel_rfl) rfl ?_
  refine Runs_p rfl (Valid.movek (A := Sl 1 _ _) rfl rfl) rfl rfl ?_
  refine Runs_p rfl (Valid.call rfl (lens_s _ 40 (by assumption) (by omega) (by decide)) ⟨argle_sl (Reads.sl rfl), argle rfl, trivial⟩) rfl rfl ?_
  refine Runs_p rfl (Valid.assignk (A := Sl 1 _ _) rfl rfl) rfl rfl ?_
  refine Runs_nil ?_
  refine thenQ_n ?_
  refine W_seq ?_
  obtain ⟨hl2, hl60⟩ := lenS_2 lens (min lens.length 40)
  have hok := lenS_ok lens (min lens.length 40)
  have hli := OkL.in64 hok
  have hlv : lenV lens 40 = lenS lens (min lens.length 40) := rfl
  rw [hlv]
  generalize lenS lens (min lens.length 40) = l at *
  have hok : (sndV l).2 = 0 := hok
  refine W_regionE (c := 7) (c' := 12) (by kernel_rfl) rfl ?_
  refine Runs_p rfl (Valid.movek (A := Sl 1 _ _) rfl rfl) rfl rfl ?_
  refine Runs_p rfl (Valid.movek (A := Sl 1 _ _) rfl rfl) rfl rfl ?_
  refine Runs_p rfl (Valid.len rfl Try.underlying22 (Reads.sl rfl)) rfl rfl ?_
  refine Runs_p rfl (Valid.call rfl (sym_s raw (l.length : Int) 80 (by assumption) (by omega) (by omega) (by omega) (by decide)) ⟨argle_sl (Reads.sl rfl), argle rfl, argle rfl, trivial⟩) rfl rfl ?_
  refine Runs_p rfl (Valid.assignk (A := Sl 1 _ _) rfl rfl) rfl rfl ?_
  refine Runs_nil ?_
  refine thenQ_n ?_
  refine W_seq ?_
  have hsl := sym_len raw (l.length : Int) 80
  have hsg := sym_rg raw (l.length : Int) 80 (by omega)
  generalize symV raw (l.length : Int) 80 = m at *
  obtain ⟨_, _, hl3⟩ := snd_good hok
  obtain ⟨b, hpt⟩ := put_n hok hsg
  have hbm := bt_y hok hsg rfl
  have hbb := btS_bd (g := m) hl3
  refine W_regionE (c := 12) (c' := 15) (by kernel_rfl) rfl ?_
  refine Runs_p rfl (Valid.movek (A := Sl 1 _ _) rfl rfl) rfl rfl ?_
  refine Runs_p rfl (Valid.call rfl (grps_s _ (by omega)) ⟨argle_sl (Reads.sl rfl), trivial⟩) rfl rfl ?_
  refine Runs_p rfl (Valid.assignk (A := SlA 1 _ _) rfl rfl) rfl rfl ?_
  refine Runs_nil ?_
  refine thenQ_n ?_
  refine W_seq ?_
  refine W_regionE (c := 15) (c' := 16) (by kernel_rfl) rfl ?_
  refine Runs_p rfl (Valid.assignk (A := Is (.slice none 0 0)) rfl rfl) rfl rfl ?_
  refine Runs_nil ?_
  refine thenQ_n ?_
  refine W_seq ?_
  refine W_regionE (c := 16) (c' := 17) (by kernel_rfl) rfl ?_
  refine Runs_p rfl (Valid.assignk (A := Is _) rfl rfl) rfl rfl ?_
  refine Runs_nil ?_
  refine thenQ_n ?_
  refine W_seq ?_
  refine W_seq ?_
  have hng : ng m = (m.length + 9) / 10 := rfl
  have hgl : (gps m).length = ng m := gpA_len m _
  refine W_regionE (c := 17) (c' := 18) (by kernel_rfl) rfl ?_
  refine Runs_p rfl (Valid.assignk (A := Is _) rfl rfl) rfl rfl ?_
  refine Runs_nil ?_
  refine thenQ_n ?_
  refine W_block ?_
  refine W.ent ?_ (Ent.ownnil 9 3 1 rfl)
  refine W_loopx (G := Nat) (fun (i : Nat) => i ≤ ng m) [(5, Is _), (6, Sl 1 _ _), (7, Sl 1 _ _), (8, SlA 1 _ _)] (fun (i : Nat) => [(11, Is (.int .i64 (i : Int))), (9, Ab.Own 144 1 (min (10 * i) m.length) ((m.take (10 * i)).map (Value.int .i64))), (10, Is (.int .i64 (btS l m (min (10 * i) m.length))))]) [] (fun (i : Nat) => [(144, .row 3 1 (min (10 * i) m.length) ((m.take (10 * i)).map (Value.int .i64)))]) 19 (fun (i : Nat) => ng m - i) (0) [] (by first | trivial | omega | (simp; omega)) ⟨⟨(leq_is rfl rfl (by first | rfl | (simp; done) | (simp [btS]; done))), (leq_own rfl rfl rfl (by first | rfl | (simp; done) | (simp [btS]; done)) (by first | rfl | (simp; done) | (simp [btS]; done))), (leq_is rfl rfl (by first | rfl | (simp; done) | (simp [btS]; done))), trivial⟩, ⟨(leq_is rfl rfl rfl), (leq_sl (Reads.sl rfl) rfl rfl rfl), (leq_sl (Reads.sl rfl) rfl rfl rfl), (leq_sla (ReadsA.sla rfl) rfl rfl rfl), trivial⟩, ⟨hp_row rfl (by first | rfl | (simp; done) | (simp [btS]; done)) (by first | rfl | (simp; done) | (simp [btS]; done)), trivial⟩, trivial, rfl, ⟨supg rfl, supg rfl, supg rfl, trivial⟩, ⟨supg rfl, supg rfl, supg rfl, supg rfl, trivial⟩, ⟨suph rfl rfl, trivial⟩, trivial, rfl, rfl⟩ ?_
  intro i hI1
  refine W_seq ?_
  refine W_seq ?_
  refine W_regionE (c := 19) (c' := 23) (by kernel_rfl) rfl ?_
  refine Runs_p rfl (Valid.movek (A := Is _) rfl rfl) rfl rfl ?_
  refine Runs_p rfl (Valid.movek (A := SlA 1 _ _) rfl rfl) rfl rfl ?_
  refine Runs_p rfl (Valid.lenA rfl Try.underlying27 (ReadsA.sla rfl)) rfl rfl ?_
  refine Runs_p rfl (Valid.lss rfl rfl rfl) rfl rfl ?_
  refine Runs_nil ?_
  refine thenQ_n ?_
  refine W_cond _ rfl (fun hb1 => ?_) (fun hb1 => ?_)
  · try simp only [decide_eq_true_eq] at hb1
    all_goals (
      refine W_skip ?_
      refine thenQ_n ?_
      refine W_seq ?_
      refine W_block ?_
      refine W_seq ?_
      have hgi : (gps m).getD (i : Int).toNat [] = gp m i := by
        rw [Int.toNat_natCast, gps, gpA, List.getD_eq_getElem?_getD, List.getElem?_map, List.getElem?_range (by omega)]; rfl
      have hgil : ((gps m).getD (i : Int).toNat []).length = (gp m i).length := by rw [hgi]
      have hgi2 : ((gps m).getD i []).length = (gp m i).length := hgil
      have hgn := gp_len m i
      have hg1 := gp_1 (m := m) (k := i) (by omega)
      have hgr : ∀ x ∈ gp m i, 0 ≤ x ∧ x < (l.length : Int) := fun x hx => hsg x (gp_mem hx)
      have hA := bt_1 hok hgr
      have hAe := bt_y hok hgr rfl
      have hAd := bt_add (l := l) (m := m) i (gp m i).length (Nat.le_refl _)
      have hb1_ := hbb (10 * i)
      have hb3_ := hbb (min (10 * i) m.length)
      have hb4_ := btS_bd (g := gp m i) hl3 (gp m i).length
      have hb2_ := hbb (10 * i + (gp m i).length)
      refine W_regionE (c := 23) (c' := 30) (by kernel_rfl) rfl ?_
      refine Runs_p rfl (Valid.movek (A := Ab.Own 144 1 _ _) rfl rfl) rfl rfl ?_
      refine Runs_p rfl (Valid.movek (A := SlA 1 _ _) rfl rfl) rfl rfl ?_
      refine Runs_p rfl (Valid.movek (A := Is _) rfl rfl) rfl rfl ?_
      refine Runs_p rfl (Valid.eltM (F := Fl) [] rfl Try.underlying27 sz22 (ReadsA.sla rfl) rfl (by omega) rfl) rfl rfl ?_
      refine Runs_p rfl (Valid.loadeltSl rfl ag22 rfl rfl) rfl rfl ?_
      refine Runs_w rfl (Valid.app rfl Try.underlying22 ti3 (by decide) rfl rfl (Reads.sl rfl) (by first | exact one_map (fun _ => rfl) | exact one_cons rfl one_nil | exact one_app (one_map (fun _ => rfl)) (one_cons rfl one_nil) | exact one_app (one_map (fun _ => rfl)) (one_map (fun _ => rfl)) | exact one_rep rfl | exact one_app (one_rep rfl) (one_map (fun _ => rfl)) | (intro u hu; simp at hu; rcases hu with rfl | hu <;> first | rfl | (subst hu; rfl))) (by simp only [maxLen]; omega) (by omega)) rfl rfl ?_
      refine Runs_p rfl (Valid.assignk (A := Ab.Own 224 1 _ _) rfl rfl) rfl rfl ?_
      refine Runs_nil ?_
      refine thenQ_n ?_
      refine W_seq ?_
      rw [hgi]
      refine W_regionE (c := 30) (c' := 41) (by kernel_rfl) rfl ?_
      refine Runs_p rfl (Valid.movek (A := Sl 1 _ _) rfl rfl) rfl rfl ?_
      refine Runs_p rfl (Valid.movek (A := SlA 1 _ _) rfl rfl) rfl rfl ?_
      refine Runs_p rfl (Valid.movek (A := Is _) rfl rfl) rfl rfl ?_
      refine Runs_p rfl (Valid.eltM (F := Fl) [] rfl Try.underlying27 sz22 (ReadsA.sla rfl) rfl (by omega) rfl) rfl rfl ?_
      refine Runs_p rfl (Valid.loadeltSl rfl ag22 rfl rfl) rfl rfl ?_
      refine Runs_p rfl (Valid.call rfl (Kn.bt_n (l := l) (g := gp m i) (x := l) (y := (gps m).getD (i : Int).toNat []) rfl hgi hli (by omega) (by omega) hAe) ⟨argle_sl (Reads.sl rfl), argle_sl (Reads.sl rfl), trivial⟩) rfl rfl ?_
      refine Runs_p rfl (Valid.movek (A := Tup [Is _, Is _]) rfl rfl) rfl rfl ?_
      refine Runs_p rfl (Valid.extract _ rfl rfl rfl) rfl rfl ?_
      refine Runs_p rfl (Valid.extract _ rfl rfl rfl) rfl rfl ?_
      refine Runs_p rfl (Valid.assignk (A := Is _) rfl rfl) rfl rfl ?_
      refine Runs_p rfl (Valid.assignk (A := Is _) rfl rfl) rfl rfl ?_
      refine Runs_nil ?_
      refine thenQ_n ?_
      refine W_seq ?_
      refine W_seq ?_
      refine W_regionE (c := 41) (c' := 74) (by kernel_rfl) rfl ?_
      refine Runs_p rfl (Valid.movek (A := Is _) rfl rfl) rfl rfl ?_
      refine Runs_p rfl (Valid.neq rfl rfl rfl) rfl rfl ?_
      refine Runs_p rfl (Valid.movek (A := Is _) rfl rfl) rfl rfl ?_
      refine Runs_cnd rfl rfl (Grd.is rfl) [] (fun hg => trivial) (fun hg => Valid.movek (A := SlA 1 _ _) rfl rfl) (by rfl) rfl ?_
      refine Runs_cnd rfl rfl (Grd.is rfl) [] (fun hg => trivial) (fun hg => Valid.movek (A := Is _) rfl rfl) (by rfl) rfl ?_
      refine Runs_cnd rfl rfl (Grd.is rfl) [(51, _), (52, _)] (fun hg => ⟨cnd_at rfl (by first | exact hg | exact hg.1 | exact hg.1.1 | exact hg.1.1.1), cnd_at rfl (by first | exact hg | exact hg.1 | exact hg.1.1 | exact hg.1.1.1), trivial⟩) (fun hg => Valid.eltM (F := Fl) [] rfl Try.underlying27 sz22 (ReadsA.sla rfl) rfl (by (try simp only [decide_eq_false_iff_not, not_true_eq_false, not_false_eq_true, ne_eq] at hg); first | omega | (simp only [Int.toNat_natCast, toNat_add, toNat_add1, List.length_append, List.length_cons, List.length_nil, List.length_replicate]; omega)) rfl) (by rfl) rfl ?_
      refine Runs_cnd rfl rfl (Grd.is rfl) [(53, _)] (fun hg => ⟨cnd_at rfl (by first | exact hg | exact hg.1 | exact hg.1.1 | exact hg.1.1.1), trivial⟩) (fun hg => Valid.loadeltSl rfl ag22 rfl rfl) (by rfl) rfl ?_
      refine Runs_cnd rfl rfl (Grd.is rfl) [(54, _)] (fun hg => ⟨cnd_at rfl (by first | exact hg | exact hg.1 | exact hg.1.1 | exact hg.1.1.1), trivial⟩) (fun hg => Valid.len rfl Try.underlying22 (Reads.sl rfl)) (by rfl) rfl ?_
      refine Runs_cnd rfl rfl (Grd.is rfl) [(55, _)] (fun hg => ⟨cnd_at rfl (by first | exact hg | exact hg.1 | exact hg.1.1 | exact hg.1.1.1), trivial⟩) (fun hg => Valid.lss rfl rfl rfl) (by rfl) rfl ?_
      refine Runs_p rfl (Valid.pickor rfl rfl rfl rfl (fun h => by first | exact h | exact ⟨hg, h⟩)) rfl rfl ?_
      refine Runs_p rfl (Valid.movek (A := Is _) rfl rfl) rfl rfl ?_
      refine Runs_cnd rfl rfl (Grd.is rfl) [] (fun hg => trivial) (fun hg => Valid.movek (A := Is _) rfl rfl) (by rfl) rfl ?_
      refine Runs_cnd rfl rfl (Grd.is rfl) [(59, _)] (fun hg => ⟨cnd_at rfl (by first | exact hg | exact hg.1 | exact hg.1.1 | exact hg.1.1.1), trivial⟩) (fun hg => Valid.add rfl rfl rfl (room64 (by (try simp only [Int.toNat_natCast, decide_eq_false_iff_not, Bool.or_eq_false_iff, not_true_eq_false, not_false_eq_true, ne_eq] at hg); first | omega | (simp only [Int.toNat_natCast, toNat_add, toNat_add1, List.length_append, List.length_cons, List.length_nil, List.length_replicate]; omega)) (by (try simp only [Int.toNat_natCast, decide_eq_false_iff_not, Bool.or_eq_false_iff, not_true_eq_false, not_false_eq_true, ne_eq] at hg); first | omega | (simp only [Int.toNat_natCast, toNat_add, toNat_add1, List.length_append, List.length_cons, List.length_nil, List.length_replicate]; omega)))) (by rfl) rfl ?_
      refine Runs_cnd rfl rfl (Grd.is rfl) [] (fun hg => trivial) (fun hg => Valid.movek (A := SlA 1 _ _) rfl rfl) (by rfl) rfl ?_
      refine Runs_cnd rfl rfl (Grd.is rfl) [(61, _)] (fun hg => ⟨cnd_at rfl (by first | exact hg | exact hg.1 | exact hg.1.1 | exact hg.1.1.1), trivial⟩) (fun hg => Valid.lenA rfl Try.underlying27 (ReadsA.sla rfl)) (by rfl) rfl ?_
      refine Runs_cnd rfl rfl (Grd.is rfl) [(60, _), (62, _)] (fun hg => ⟨cnd_at rfl (by first | exact hg | exact hg.1 | exact hg.1.1 | exact hg.1.1.1), cnd_at rfl (by first | exact hg | exact hg.1 | exact hg.1.1 | exact hg.1.1.1), trivial⟩) (fun hg => Valid.lss rfl rfl rfl) (by rfl) rfl ?_
      refine Runs_cnd rfl rfl (Grd.is rfl) [(63, _)] (fun hg => ⟨cnd_at rfl (by first | exact hg | exact hg.1 | exact hg.1.1 | exact hg.1.1.1), trivial⟩) (fun hg => Valid.movek (A := Is _) rfl rfl) (by rfl) rfl ?_
      refine Runs_cnd rfl rfl (Grd.cnd rfl) [] (fun hg => trivial) (fun hg => Valid.movek (A := SlA 1 _ _) rfl rfl) (by rfl) rfl ?_
      refine Runs_cnd rfl rfl (Grd.cnd rfl) [] (fun hg => trivial) (fun hg => Valid.movek (A := Is _) rfl rfl) (by rfl) rfl ?_
      refine Runs_cnd rfl rfl (Grd.cnd rfl) [(65, _), (66, _)] (fun hg => ⟨cnd_at rfl (by first | exact hg | exact hg.1 | exact hg.1.1 | exact hg.1.1.1), cnd_at rfl (by first | exact hg | exact hg.1 | exact hg.1.1 | exact hg.1.1.1), trivial⟩) (fun hg => Valid.eltM (F := Fl) [] rfl Try.underlying27 sz22 (ReadsA.sla rfl) rfl (by (try simp only [Int.toNat_natCast, decide_eq_true_eq, decide_eq_false_iff_not, Bool.or_eq_false_iff, not_true_eq_false, not_false_eq_true, ne_eq] at hg); first | omega | (simp only [Int.toNat_natCast, toNat_add, toNat_add1, List.length_append, List.length_cons, List.length_nil, List.length_replicate]; omega)) rfl) (by rfl) rfl ?_
      refine Runs_cnd rfl rfl (Grd.cnd rfl) [(67, _)] (fun hg => ⟨cnd_at rfl (by first | exact hg | exact hg.1 | exact hg.1.1 | exact hg.1.1.1), trivial⟩) (fun hg => Valid.loadeltSl rfl ag22 rfl rfl) (by rfl) rfl ?_
      refine Runs_cnd rfl rfl (Grd.cnd rfl) [(68, _)] (fun hg => ⟨cnd_at rfl (by first | exact hg | exact hg.1 | exact hg.1.1 | exact hg.1.1.1), trivial⟩) (fun hg => Valid.len rfl Try.underlying22 (Reads.sl rfl)) (by rfl) rfl ?_
      refine Runs_cnd rfl rfl (Grd.cnd rfl) [(69, _)] (fun hg => ⟨cnd_at rfl (by first | exact hg | exact hg.1 | exact hg.1.1 | exact hg.1.1.1), trivial⟩) (fun hg => Valid.neq rfl rfl rfl) (by rfl) rfl ?_
      refine Runs_cnd rfl rfl (Grd.is rfl) [(64, _)] (fun hg => ⟨cnd_at rfl (by first | exact hg | exact hg.1 | exact hg.1.1 | exact hg.1.1.1), trivial⟩) (fun hg => Valid.pickand rfl rfl rfl (fun h => by first | exact h | exact ⟨hg, h⟩) rfl) (by rfl) rfl ?_
      refine Runs_p rfl (Valid.pickor rfl rfl rfl rfl (fun h => by first | exact h | exact ⟨hg, h⟩)) rfl rfl ?_
      refine Runs_p rfl (Valid.movek (A := Is _) rfl rfl) rfl rfl ?_
      refine Runs_cnd rfl rfl (Grd.is rfl) [] (fun hg => trivial) (fun hg => Valid.movek (A := SlA 1 _ _) rfl rfl) (by rfl) rfl ?_
      refine Runs_cnd rfl rfl (Grd.is rfl) [] (fun hg => trivial) (fun hg => Valid.movek (A := Is _) rfl rfl) (by rfl) rfl ?_
      refine Runs_cnd rfl rfl (Grd.is rfl) [(74, _), (75, _)] (fun hg => ⟨cnd_at rfl (by first | exact hg | exact hg.1 | exact hg.1.1 | exact hg.1.1.1), cnd_at rfl (by first | exact hg | exact hg.1 | exact hg.1.1 | exact hg.1.1.1), trivial⟩) (fun hg => Valid.eltM (F := Fl) [] rfl Try.underlying27 sz22 (ReadsA.sla rfl) rfl (by (try simp only [Int.toNat_natCast, decide_eq_false_iff_not, Bool.and_eq_false_iff, Bool.or_eq_false_iff, not_true_eq_false, not_false_eq_true, ne_eq] at hg); first | omega | (simp only [Int.toNat_natCast, toNat_add, toNat_add1, List.length_append, List.length_cons, List.length_nil, List.length_replicate]; omega)) rfl) (by rfl) rfl ?_
      refine Runs_cnd rfl rfl (Grd.is rfl) [(76, _)] (fun hg => ⟨cnd_at rfl (by first | exact hg | exact hg.1 | exact hg.1.1 | exact hg.1.1.1), trivial⟩) (fun hg => Valid.loadeltSl rfl ag22 rfl rfl) (by rfl) rfl ?_
      refine Runs_cnd rfl rfl (Grd.is rfl) [(77, _)] (fun hg => ⟨cnd_at rfl (by first | exact hg | exact hg.1 | exact hg.1.1 | exact hg.1.1.1), trivial⟩) (fun hg => Valid.len rfl Try.underlying22 (Reads.sl rfl)) (by rfl) rfl ?_
      refine Runs_cnd rfl rfl (Grd.is rfl) [(78, _)] (fun hg => ⟨cnd_at rfl (by first | exact hg | exact hg.1 | exact hg.1.1 | exact hg.1.1.1), trivial⟩) (fun hg => Valid.gtr rfl rfl rfl) (by rfl) rfl ?_
      refine Runs_p rfl (Valid.pickor rfl rfl rfl rfl (fun h => by first | exact h | exact ⟨hg, h⟩)) rfl rfl ?_
      refine Runs_nil ?_
      refine thenQ_n ?_
      refine W_cond _ rfl (fun hb2 => ?_) (fun hb2 => ?_)
      · try simp only [Int.toNat_natCast, decide_eq_true_eq, Bool.and_eq_true, Bool.or_eq_true, not_true_eq_false, ne_eq] at hb2
        all_goals (
          exfalso
          simp only [false_or] at hb2
          omega
          
          done)
      · try simp only [Int.toNat_natCast, decide_eq_false_iff_not, Bool.and_eq_false_iff, Bool.or_eq_false_iff, not_true_eq_false, not_false_eq_true, ne_eq] at hb2
        all_goals (
          refine W_skip ?_
          refine thenQ_n ?_
          refine W_regionE (c := 74) (c' := 78) (by kernel_rfl) rfl ?_
          refine Runs_p rfl (Valid.movek (A := Is _) rfl rfl) rfl rfl ?_
          refine Runs_p rfl (Valid.movek (A := Is _) rfl rfl) rfl rfl ?_
          refine Runs_p rfl (Valid.add rfl rfl rfl (room64 (by omega) (by omega))) rfl rfl ?_
          refine Runs_p rfl (Valid.assignk (A := Is _) rfl rfl) rfl rfl ?_
          refine Runs_nil ?_
          refine blockQ_n ?_
          refine thenQ_n ?_
          refine W_regionE (c := 78) (c' := 81) (by kernel_rfl) rfl ?_
          refine Runs_p rfl (Valid.movek (A := Is _) rfl rfl) rfl rfl ?_
          refine Runs_p rfl (Valid.add rfl rfl rfl (room64 (by omega) (by omega))) rfl rfl ?_
          refine Runs_p rfl (Valid.assignk (A := Is _) rfl rfl) rfl rfl ?_
          refine Runs_nil ?_
          refine LoopQ.next (i + 1) [(144, 224)] (by omega) (by omega) ⟨⟨(leq_is rfl rfl (by first | rfl | omega | (rw [← tk_add, List.map_append, hgi]; done) | (rw [← tk_add, List.map_append]; done) | (refine congrArg (Value.int .i64) ?_; rw [show min (10 * i) m.length = 10 * i by omega, show min (10 * (i + 1)) m.length = 10 * i + (gp m i).length by omega]; exact hAd))), (leq_own rfl rfl rfl (by first | rfl | omega | (rw [← tk_add, List.map_append, hgi]; done) | (rw [← tk_add, List.map_append]; done) | (refine congrArg (Value.int .i64) ?_; rw [show min (10 * i) m.length = 10 * i by omega, show min (10 * (i + 1)) m.length = 10 * i + (gp m i).length by omega]; exact hAd)) (by first | rfl | omega | (rw [← tk_add, List.map_append, hgi]; done) | (rw [← tk_add, List.map_append]; done) | (refine congrArg (Value.int .i64) ?_; rw [show min (10 * i) m.length = 10 * i by omega, show min (10 * (i + 1)) m.length = 10 * i + (gp m i).length by omega]; exact hAd))), (leq_is rfl rfl (by first | rfl | omega | (rw [← tk_add, List.map_append, hgi]; done) | (rw [← tk_add, List.map_append]; done) | (refine congrArg (Value.int .i64) ?_; rw [show min (10 * i) m.length = 10 * i by omega, show min (10 * (i + 1)) m.length = 10 * i + (gp m i).length by omega]; exact hAd))), trivial⟩, ⟨(leq_is rfl rfl rfl), (leq_sl (Reads.sl rfl) rfl rfl rfl), (leq_sl (Reads.sl rfl) rfl rfl rfl), (leq_sla (ReadsA.sla rfl) rfl rfl rfl), trivial⟩, ⟨hp_row rfl (by first | rfl | omega | (rw [← tk_add, List.map_append, hgi]; done) | (rw [← tk_add, List.map_append]; done) | (refine congrArg (Value.int .i64) ?_; rw [show min (10 * i) m.length = 10 * i by omega, show min (10 * (i + 1)) m.length = 10 * i + (gp m i).length by omega]; exact hAd)) (by first | rfl | omega | (rw [← tk_add, List.map_append, hgi]; done) | (rw [← tk_add, List.map_append]; done) | (refine congrArg (Value.int .i64) ?_; rw [show min (10 * i) m.length = 10 * i by omega, show min (10 * (i + 1)) m.length = 10 * i + (gp m i).length by omega]; exact hAd)), trivial⟩, trivial, rfl, ⟨supg rfl, supg rfl, supg rfl, trivial⟩, ⟨supg rfl, supg rfl, supg rfl, supg rfl, trivial⟩, ⟨suph rfl rfl, trivial⟩, trivial, rfl, rfl⟩
          done)
      done)
  · try simp only [decide_eq_false_iff_not] at hb1
    all_goals (
      refine W_exit ?_
      refine thenQ_e ?_
      refine loopQ_e ?_
      refine blockQ_x ?_
      refine thenQ_n ?_
      refine W_seq ?_
      obtain rfl : i = ng m := by omega
      have htk : m.take (10 * ng m) = m := List.take_of_length_le (by omega)
      have hmn : min (10 * ng m) m.length = m.length := by omega
      rw [htk, hmn]
      refine W_regionE (c := 23) (c' := 31) (by kernel_rfl) rfl ?_
      refine Runs_p rfl (Valid.movek (A := Sl 1 _ _) rfl rfl) rfl rfl ?_
      refine Runs_p rfl (Valid.movek (A := Sl 1 _ _) rfl rfl) rfl rfl ?_
      refine Runs_p rfl (Valid.call rfl (Kn.bt_n (l := l) (g := m) (x := l) (y := m) rfl rfl hli (by omega) (by omega) hbm) ⟨argle_sl (Reads.sl rfl), argle_sl (Reads.sl rfl), trivial⟩) rfl rfl ?_
      refine Runs_p rfl (Valid.movek (A := Tup [Is _, Is _]) rfl rfl) rfl rfl ?_
      refine Runs_p rfl (Valid.extract _ rfl rfl rfl) rfl rfl ?_
      refine Runs_p rfl (Valid.extract _ rfl rfl rfl) rfl rfl ?_
      refine Runs_p rfl (Valid.assignk (A := Is _) rfl rfl) rfl rfl ?_
      refine Runs_p rfl (Valid.assignk (A := Is _) rfl rfl) rfl rfl ?_
      refine Runs_nil ?_
      refine thenQ_n ?_
      refine W_seq ?_
      refine W_regionE (c := 31) (c' := 40) (by kernel_rfl) rfl ?_
      refine Runs_p rfl (Valid.movek (A := Sl 1 _ _) rfl rfl) rfl rfl ?_
      refine Runs_p rfl (Valid.movek (A := Sl 1 _ _) rfl rfl) rfl rfl ?_
      refine Runs_p rfl (Valid.call rfl (pt_t hli (by omega) (by omega) hpt) ⟨argle_sl (Reads.sl rfl), argle_sl (Reads.sl rfl), trivial⟩) rfl rfl ?_
      refine Runs_p rfl (Valid.movek (A := Tup [Agg [Is _, Is _], Is _]) rfl rfl) rfl rfl ?_
      refine Runs_p rfl (Valid.extract _ rfl rfl rfl) rfl rfl ?_
      refine Runs_p rfl (Valid.extract _ rfl rfl rfl) rfl rfl ?_
      refine Runs_w rfl (Valid.alloc [(Value.string ⟨#[]⟩), (Value.int .i64 0)] rfl zv40 rfl) rfl rfl ?_
      refine Runs_op rfl (Valid.storeagg (l := [_, _]) rfl sz40 rfl rfl (Nat.le_of_ble_eq_true rfl) rfl ⟨(One.is rfl rfl rfl), (One.is rfl rfl rfl), trivial⟩) rfl ?_
      refine Runs_p rfl (Valid.assignk (A := Is _) rfl rfl) rfl rfl ?_
      refine Runs_nil ?_
      refine thenQ_n ?_
      refine W_seq ?_
      refine W_regionE (c := 40) (c' := 66) (by kernel_rfl) rfl ?_
      refine Runs_p rfl (Valid.movek (A := Is _) rfl rfl) rfl rfl ?_
      refine Runs_p rfl (Valid.movek (A := Is _) rfl rfl) rfl rfl ?_
      refine Runs_cnd rfl rfl (Grd.is rfl) [] (fun hg => trivial) (fun hg => Valid.movek (A := Is _) rfl rfl) (by rfl) rfl ?_
      refine Runs_cnd rfl rfl (Grd.is rfl) [(98, _)] (fun hg => ⟨cnd_at rfl (by first | exact hg | exact hg.1 | exact hg.1.1 | exact hg.1.1.1), trivial⟩) (fun hg => Valid.eql rfl rfl rfl) (by rfl) rfl ?_
      refine Runs_p rfl (Valid.pickand rfl rfl rfl (fun h => by first | exact h | exact ⟨hg, h⟩) rfl) rfl rfl ?_
      refine Runs_p rfl (Valid.movek (A := Is _) rfl rfl) rfl rfl ?_
      refine Runs_cnd rfl rfl (Grd.is rfl) [] (fun hg => trivial) (fun hg => Valid.movek (A := Is _) rfl rfl) (by rfl) rfl ?_
      refine Runs_cnd rfl rfl (Grd.is rfl) [(102, _)] (fun hg => ⟨cnd_at rfl (by first | exact hg | exact hg.1 | exact hg.1.1 | exact hg.1.1.1), trivial⟩) (fun hg => Valid.eql rfl rfl rfl) (by rfl) rfl ?_
      refine Runs_p rfl (Valid.pickand rfl rfl rfl (fun h => by first | exact h | exact ⟨hg, h⟩) rfl) rfl rfl ?_
      refine Runs_p rfl (Valid.movek (A := Is _) rfl rfl) rfl rfl ?_
      refine Runs_cnd rfl rfl (Grd.is rfl) [] (fun hg => trivial) (fun hg => Valid.moveS rfl (Reads.own rfl)) (by rfl) rfl ?_
      refine Runs_cnd rfl rfl (Grd.is rfl) [] (fun hg => trivial) (fun hg => Valid.movek (A := Sl 1 _ _) rfl rfl) (by rfl) rfl ?_
      refine Runs_cnd rfl rfl (Grd.is rfl) [(106, _), (107, _)] (fun hg => ⟨cnd_at rfl (by first | exact hg | exact hg.1 | exact hg.1.1 | exact hg.1.1.1), cnd_at rfl (by first | exact hg | exact hg.1 | exact hg.1.1 | exact hg.1.1.1), trivial⟩) (fun hg => Valid.call rfl (ksame m (by (try simp only [decide_eq_true_eq, Bool.and_eq_true] at hg); omega)) ⟨argle_sl (Reads.sl rfl), argle_sl (Reads.sl rfl), trivial⟩) (by rfl) rfl ?_
      refine Runs_p rfl (Valid.pickand rfl rfl rfl (fun h => by first | exact h | exact ⟨hg, h⟩) rfl) rfl rfl ?_
      refine Runs_p rfl (Valid.movek (A := Is _) rfl rfl) rfl rfl ?_
      refine Runs_cnd rfl rfl (Grd.is rfl) [] (fun hg => trivial) (fun hg => Valid.movek (A := Is _) rfl rfl) (by rfl) rfl ?_
      refine Runs_cnd rfl rfl (Grd.is rfl) [] (fun hg => trivial) (fun hg => Valid.movek (A := Is _) rfl rfl) (by rfl) rfl ?_
      refine Runs_cnd rfl rfl (Grd.is rfl) [(111, _), (112, _)] (fun hg => ⟨cnd_at rfl (by first | exact hg | exact hg.1 | exact hg.1.1 | exact hg.1.1.1), cnd_at rfl (by first | exact hg | exact hg.1 | exact hg.1.1 | exact hg.1.1.1), trivial⟩) (fun hg => Valid.eql rfl rfl rfl) (by rfl) rfl ?_
      refine Runs_p rfl (Valid.pickand rfl rfl rfl (fun h => by first | exact h | exact ⟨hg, h⟩) rfl) rfl rfl ?_
      refine Runs_p rfl (Valid.movek (A := Is _) rfl rfl) rfl rfl ?_
      refine Runs_cnds (t := 16) rfl rfl (Grd.is rfl) [] (fun hg => trivial) (fun hg => Valid.fieldaddr (off' := 1) rfl rfl (fun _ _ => by kernel_rfl)) (by simp [Op.operands]) rfl rfl ?_
      refine Runs_cnd rfl rfl (Grd.is rfl) [(116, _)] (fun hg => ⟨cnd_at rfl (by first | exact hg | exact hg.1 | exact hg.1.1 | exact hg.1.1.1), trivial⟩) (fun hg => Valid.load _ rfl ag3 rfl rfl rfl) (by rfl) rfl ?_
      refine Runs_cnd rfl rfl (Grd.is rfl) [] (fun hg => trivial) (fun hg => Valid.movek (A := Is _) rfl rfl) (by rfl) rfl ?_
      refine Runs_cnd rfl rfl (Grd.is rfl) [(117, _), (118, _)] (fun hg => ⟨cnd_at rfl (by first | exact hg | exact hg.1 | exact hg.1.1 | exact hg.1.1.1), cnd_at rfl (by first | exact hg | exact hg.1 | exact hg.1.1 | exact hg.1.1.1), trivial⟩) (fun hg => Valid.eql rfl rfl rfl) (by rfl) rfl ?_
      refine Runs_p rfl (Valid.pickand rfl rfl rfl (fun h => by first | exact h | exact ⟨hg, h⟩) rfl) rfl rfl ?_
      refine Runs_p rfl (Valid.assignk (A := Is _) rfl rfl) rfl rfl ?_
      refine Runs_nil ?_
      refine thenQ_n ?_
      refine W_ret ?_
      refine finQ_r ?_
      refine ResOk.one rfl (RVal.is rfl rfl (by first | rfl | (simp; done) | (simp; omega) | (exfalso; simp at hb1; done) | (exfalso; simp at hb2; done) | (exfalso; simp at hb3; done) | (exfalso; simp at hb4; done) | (exfalso; simp at hb5; done) | (exfalso; simp at hb6; done) | (exfalso; simp at hb7; done) | (exfalso; simp at hb8; done) | (exfalso; simp at hb9; done) | (exfalso; simp at hb10; done) | (exfalso; simp at hb11; done) | (exfalso; simp at hb12; done) | (exfalso; simp at hb13; done)))
      done)
end Kh
end Go.Proofs.Ytdcenocljnlipaa
