/-
  WALKS of stage 8: Put.
-/
import Derived.Test.YtdcenocljnlipaaRows
import Derived.Test.YtdcenocljnlipaaOa
import Derived.Test.YtdcenocljnlipaaOb
import Derived.Test.YtdcenocljnlipaaOc
import Derived.Test.YtdcenocljnlipaaOd
import Derived.Test.YtdcenocljnlipaaOe
import Derived.Test.YtdcenocljnlipaaOf
import Derived.Test.YtdcenocljnlipaaOg
import Derived.Test.YtdcenocljnlipaaMha
namespace Go.Proofs.Ytdcenocljnlipaa
open Go.RowKit
namespace Oh
open Ab Bm Bt Oa Ob Oc Od Oe Of Og Bb
theorem ag3 (w : World) : (isAgg 3).run Try.prog w = .ok false w := by kernel_rfl
theorem ag40 (w : World) : (isAgg 40).run Try.prog w = .ok true w := by kernel_rfl
theorem ag51 (w : World) : (isAgg 51).run Try.prog w = .ok false w := by kernel_rfl
theorem sz3 (w : World) : (sizeOf 3).run Try.prog w = .ok 1 w := by kernel_rfl
theorem sz40 (w : World) : (sizeOf 40).run Try.prog w = .ok 2 w := by kernel_rfl
theorem sz63 (w : World) : (sizeOf 63).run Try.prog w = .ok 2 w := by kernel_rfl
theorem ti40 : TI Try.prog 40 2 24 := .mk' (z := (.agg #[(Value.string ⟨#[]⟩), (Value.int .i64 0)])) (by kernel_rfl) rfl
theorem tm40 : (Try.prog.info? 40).map (fun i => (i.zero, i.size, i.bytes)) = some (some (.agg #[(Value.string ⟨#[]⟩), (Value.int .i64 0)]), 2, 24) := by kernel_rfl
theorem zv40 (w : World) : (zeroValue 40).run Try.prog w = .ok (.agg #[(Value.string ⟨#[]⟩), (Value.int .i64 0)]) w := by kernel_rfl
theorem setS_in {P : Int × Int → Prop} {n : Int} : ∀ (ss : List Nat) (w : List (Int × Int)) (x : Int), (∀ p ∈ w, P p) → (∀ j : Nat, j < ss.length → P (n, x + j)) → ∀ p ∈ setS w n x ss, P p
  | [], w, x, h, _ => h
  | s :: ss, w, x, h, h2 => by
    rw [setS]
    refine setS_in ss _ _ (fun p hp => ?_) (fun j hj => ?_)
    · rcases List.mem_or_eq_of_mem_set hp with h3 | h3
      · exact h p h3
      · subst h3
        have := h2 0 (by simp)
        simpa using this
    · have := h2 (j + 1) (by simp; omega)
      rw [show x + 1 + (j : Int) = x + ((j + 1 : Nat) : Int) by omega]
      exact this
theorem wdS_in (l : List Int) (hl : l.length ≤ 258) : ∀ n, ∀ p ∈ (wdS l n).1, (0 ≤ p.1 ∧ p.1 ≤ n) ∧ (0 ≤ p.2 ∧ p.2 ≤ (wdS l n).2)
  | 0, p, hp => by
    have : p = (0, 0) := by
      simp [wdS] at hp
      exact hp.2
    subst this
    simp [wdS]
  | n + 1, p, hp => by
    have hb := wdS_bd l hl n
    have ih := wdS_in l hl n
    refine setS_in (P := fun p => (0 ≤ p.1 ∧ p.1 ≤ ((n + 1 : Nat) : Int)) ∧ (0 ≤ p.2 ∧ p.2 ≤ (wdS l (n + 1)).2)) _ _ _ (fun q hq => ?_) (fun j hj => ?_) p hp
    · have := ih q hq
      have e : (wdS l (n + 1)).2 = 2 * (wdS l n).2 + ((olL l ((n : Int) + 1)).length : Int) := rfl
      rw [e]; omega
    · have e : (wdS l (n + 1)).2 = 2 * (wdS l n).2 + ((olL l ((n : Int) + 1)).length : Int) := rfl
      rw [e]
      simp only
      omega
theorem wdV_in {l : List Int} (h : (sndV l).2 = 0) : (wdV l).length = l.length ∧ ∀ i : Nat, (0 ≤ ((wdV l).getD i (0, 0)).1 ∧ ((wdV l).getD i (0, 0)).1 ≤ 20) ∧ (0 ≤ ((wdV l).getD i (0, 0)).2 ∧ ((wdV l).getD i (0, 0)).2 ≤ 270532608) := by
  obtain ⟨h1, h2⟩ := snd_bd h
  have hp := wdS_bd l h1 20
  have hp2 := pow20 (n := 20) (by omega)
  have e : wdV l = (wdS l 20).1 := by rw [wdV, if_pos h]
  refine ⟨by rw [e, wdS_len], fun i => ?_⟩
  rw [e, List.getD_eq_getElem?_getD]
  by_cases hi : i < (wdS l 20).1.length
  · rw [List.getElem?_eq_getElem hi]
    have := wdS_in l h1 20 _ (List.getElem_mem hi)
    simp only [Option.getD_some]
    omega
  · rw [List.getElem?_eq_none (by omega)]
    exact ⟨⟨by decide, by decide⟩, ⟨by decide, by decide⟩⟩
def wbits (l : List Int) (x : Int) : List Bool := num ((wdV l).getD x.toNat (0, 0)).2.toNat ((wdV l).getD x.toNat (0, 0)).1.toNat
def bsW (l m : List Int) (k : Nat) : List (List Bool) := (m.take k).map (wbits l)
theorem bsW_len {l m : List Int} {k : Nat} (h : k ≤ m.length) : (bsW l m k).length = k := by rw [bsW, List.length_map, List.length_take]; omega
theorem bsW_s {l m : List Int} {k : Nat} (h : k < m.length) : bsW l m (k + 1) = bsW l m k ++ [wbits l (m.getD k 0)] := by
  rw [bsW, List.take_succ_eq_append_getElem h, List.map_append, List.getD_eq_getElem?_getD, List.getElem?_eq_getElem h]; rfl
def inW (l : List Int) (x : Int) : Prop := 0 ≤ x ∧ x < l.length
instance (l : List Int) (x : Int) : Decidable (inW l x) := by unfold inW; infer_instance
def putV (l m : List Int) : (ByteArray × Int) × Int := if (sndV l).2 ≠ 0 then ((ByteArray.empty, 0), (sndV l).2) else if ∀ x ∈ m, inW l x then ((pack (bsW l m m.length).flatten, ((bsW l m m.length).flatten.length : Int)), 0) else ((ByteArray.empty, 0), 5)
theorem flat20 {l : List Int} (h : (sndV l).2 = 0) (m : List Int) : ∀ k, k ≤ m.length → (bsW l m k).flatten.length ≤ 20 * k
  | 0, _ => by simp [bsW]
  | k + 1, hk => by
    have ih := flat20 h m k (by omega)
    have := ((wdV_in h).2 (m.getD k 0).toNat).1
    rw [bsW_s (by omega), List.flatten_append, List.length_append]
    simp only [List.flatten_cons, List.flatten_nil, List.append_nil, wbits, num_len]
    omega

theorem pput_1 {l m : List Int} (h : ¬ (sndV l).2 = 0) : putV l m = ((ByteArray.empty, 0), (sndV l).2) := by rw [putV, if_pos h]
theorem pput_5 {l m : List Int} {k : Nat} (h : (sndV l).2 = 0) (hk : k < m.length) (hx : ¬ inW l (m.getD k 0)) : putV l m = ((ByteArray.empty, 0), 5) := by
  rw [putV, if_neg (by simpa using h), if_neg (fun h2 => hx (h2 _ (getD_mem' hk)))]
theorem pput_0 {l m : List Int} {k : Nat} (h : (sndV l).2 = 0) (hk : k = m.length) (hx : ∀ j, j < k → inW l (m.getD j 0)) : putV l m = ((pack (bsW l m k).flatten, ((bsW l m k).flatten.length : Int)), 0) := by
  subst hk
  have : ∀ x ∈ m, inW l x := fun x hx2 => by
    obtain ⟨j, hj, rfl⟩ := List.mem_iff_getElem.1 hx2
    have := hx j hj
    rwa [List.getD_eq_getElem?_getD, List.getElem?_eq_getElem hj] at this
  rw [putV, if_neg (by simpa using h), if_pos this]
theorem put_w {l : List Int} (h : (sndV l).2 = 0) (x : Int) : FPure Try.prog 36 [BV ByteArray.empty 0, Is (.int .u64 ((wdV l).getD x.toNat (0, 0)).2), Is (.int .i64 ((wdV l).getD x.toNat (0, 0)).1)] (Tup [BV (pack (wbits l x)) ((wbits l x).length : Int), Is (.int .i64 0)]) := by
  have hb := (wdV_in h).2 x.toNat
  have := put_f [] 0 ((wdV l).getD x.toNat (0, 0)).2 ((wdV l).getD x.toNat (0, 0)).1 ((wdV l).getD x.toNat (0, 0)).2.toNat ((wdV l).getD x.toNat (0, 0)).1.toNat rfl (by omega) (by omega) (by omega) (by omega) (by decide)
  exact this
theorem one_pc (l : List (ByteArray × Int)) : ∀ u ∈ pcells l, u.oneCell' = true := fun u hu => by
  obtain ⟨p, _, hp⟩ := List.mem_flatMap.1 hu
  simp at hp
  rcases hp with rfl | rfl <;> rfl
theorem not_inW {l : List Int} {x : Int} {n : Nat} (h : n = l.length) (hb : x < 0 ∨ (n : Int) ≤ x) : ¬ inW l x := fun h2 => by
  unfold inW at h2; omega
theorem bsW_c {l m : List Int} {k : Nat} (h : k < m.length) : pcells ((bsW l m k).map both) ++ pcells [(pack (wbits l (m.getD k 0)), ((wbits l (m.getD k 0)).length : Int))] = pcells ((bsW l m (k + 1)).map both) := by
  rw [bsW_s h, List.map_append, pcells_app]; rfl

set_option maxRecDepth 100000 in
set_option maxHeartbeats 1000000 in
theorem cput_s (l : List Int) (hin : In64 l) (hl : l.length ≤ 9223372036854775807) (m : List Int) (hm : m.length ≤ 1000000) :
    FPure Try.prog 22 [Sl 1 l.length (l.map (Value.int .i64)), Sl 1 m.length (m.map (Value.int .i64))] (Tup [Agg [Is (.string (putV l m).1.1), Is (.int .i64 (putV l m).1.2)], Is (.int .i64 (putV l m).2)]) := by
  refine FPure.of Try.func22 Try.ntmps22 rfl (by kernel_rfl) rfl rfl rfl ?_
  refine W_seq ?_
  refine W_regionE (c := 1) (c' := 3) (by kernel_rfl) rfl ?_
  refine Runs_w rfl (Valid.alloc [(Value.string ⟨#[]⟩), (Value.int .i64 0)] rfl zv40 rfl) rfl rfl ?_
  refine Runs_p rfl (Valid.assignk (A := Is _) rfl rfl) rfl rfl ?_
  refine Runs_nil ?_
  refine thenQ_n ?_
  refine W_seq ?_
  refine W_regionE (c := 3) (c' := 10) (by kernel_rfl) rfl ?_
  refine Runs_p rfl (Valid.movek (A := Sl 1 _ _) rfl rfl) rfl rfl ?_
  refine Runs_p rfl (Valid.call rfl (words_s _ (by assumption) (by omega)) ⟨argle_sl (Reads.sl rfl), trivial⟩) rfl rfl ?_
  refine Runs_p rfl (Valid.movek (A := Tup [Sl 2 _ _, Is _]) rfl rfl) rfl rfl ?_
  refine Runs_p rfl (Valid.extract _ rfl rfl rfl) rfl rfl ?_
  refine Runs_p rfl (Valid.extract _ rfl rfl rfl) rfl rfl ?_
  refine Runs_p rfl (Valid.assignk (A := Sl 2 _ _) rfl rfl) rfl rfl ?_
  refine Runs_p rfl (Valid.assignk (A := Is _) rfl rfl) rfl rfl ?_
  refine Runs_nil ?_
  refine thenQ_n ?_
  refine W_seq ?_
  refine W_seq ?_
  refine W_regionE (c := 10) (c' := 12) (by kernel_rfl) rfl ?_
  refine Runs_p rfl (Valid.movek (A := Is _) rfl rfl) rfl rfl ?_
  refine Runs_p rfl (Valid.neq rfl rfl rfl) rfl rfl ?_
  refine Runs_nil ?_
  refine thenQ_n ?_
  refine W_cond _ rfl (fun hb1 => ?_) (fun hb1 => ?_)
  · try simp only [decide_eq_true_eq, ne_eq] at hb1
    all_goals (
      refine W_seq ?_
      refine W_regionE (c := 12) (c' := 16) (by kernel_rfl) rfl ?_
      refine Runs_p rfl (Valid.build [] [(Value.string ⟨#[]⟩), (Value.int .i64 0)] rfl rfl (fun _ => by kernel_rfl)) rfl rfl ?_
      refine Runs_p rfl (Valid.movek (A := Is _) rfl rfl) rfl rfl ?_
      refine Runs_op rfl (Valid.storeagg (l := [_, _]) rfl sz40 rfl rfl (Nat.le_of_ble_eq_true rfl) rfl ⟨(One.is rfl rfl rfl), (One.is rfl rfl rfl), trivial⟩) rfl ?_
      refine Runs_p rfl (Valid.assignk (A := Is _) rfl rfl) rfl rfl ?_
      refine Runs_nil ?_
      refine thenQ_n ?_
      refine W_ret ?_
      refine thenQ_r ?_
      refine finQ_r ?_
      refine ResOk.two rfl (RVal.cellagg ag40 sz40 rfl rfl (Nat.le_of_ble_eq_true rfl) (argle (by first | (rw [pput_1 (by assumption)]; done) | (rw [pput_1 (by assumption)]; rfl) | (have h5 := pput_5 hok (by omega) (not_inW hw1 hb3); rw [h5]; done) | (have h5 := pput_5 hok (by omega) (not_inW hw1 hb3); rw [h5]; rfl) | (have h0 := pput_0 hok (by omega) hk2; rw [h0]; done) | (have h0 := pput_0 hok (by omega) hk2; rw [h0]; rfl)))) (RVal.is rfl rfl (by first | (rw [pput_1 (by assumption)]; done) | (rw [pput_1 (by assumption)]; rfl) | (have h5 := pput_5 hok (by omega) (not_inW hw1 hb3); rw [h5]; done) | (have h5 := pput_5 hok (by omega) (not_inW hw1 hb3); rw [h5]; rfl) | (have h0 := pput_0 hok (by omega) hk2; rw [h0]; done) | (have h0 := pput_0 hok (by omega) hk2; rw [h0]; rfl)))
      done)
  · try simp only [decide_eq_false_iff_not, ne_eq] at hb1
    all_goals (
      refine W_skip ?_
      refine thenQ_n ?_
      refine W_seq ?_
      have hok : (sndV l).2 = 0 := by first | assumption | omega
      obtain ⟨hs1, hs2⟩ := snd_bd hok
      obtain ⟨hw1, hw2⟩ := wdV_in hok
      refine W_regionE (c := 12) (c' := 16) (by kernel_rfl) rfl ?_
      refine Runs_p rfl (Valid.movek (A := Sl 1 _ _) rfl rfl) rfl rfl ?_
      refine Runs_p rfl (Valid.len rfl Try.underlying22 (Reads.sl rfl)) rfl rfl ?_
      refine Runs_w rfl (Valid.make0 rfl Try.underlying60 tm40 rfl rfl rfl (by omega) (by omega) (by omega)) rfl rfl ?_
      refine Runs_p rfl (Valid.assignk (A := Ab.Own 112 2 _ _) rfl rfl) rfl rfl ?_
      refine Runs_nil ?_
      refine thenQ_n ?_
      refine W_seq ?_
      refine W_seq ?_
      refine W_regionE (c := 16) (c' := 19) (by kernel_rfl) rfl ?_
      refine Runs_p rfl (Valid.movek (A := Sl 1 _ _) rfl rfl) rfl rfl ?_
      refine Runs_p rfl (Valid.len rfl Try.underlying22 (Reads.sl rfl)) rfl rfl ?_
      refine Runs_p rfl (Valid.movek (A := Is _) rfl rfl) rfl rfl ?_
      refine Runs_nil ?_
      refine thenQ_n ?_
      refine W_block ?_
      refine W_loopx (G := Nat) (fun (k : Nat) => k ≤ m.length ∧ ∀ j, j < k → inW l (m.getD j 0)) [(4, Ptr 8 0), (6, Sl 2 _ _), (25, Sl 1 _ _), (26, Is _)] (fun (k : Nat) => [(27, Is (.int .i64 (k : Int))), (8, Ab.Own 112 2 k (pcells ((bsW l m k).map both)))]) [(8, .var 40 [Is _, Is _])] (fun (k : Nat) => [(112, .row 40 2 k (pcells ((bsW l m k).map both)))]) 19 (fun (k : Nat) => m.length - k) (0) [] (⟨by omega, fun j hj => by omega⟩) ⟨⟨(leq_is rfl rfl (by first | rfl)), (leq_own rfl rfl rfl (by first | rfl) (by first | rfl)), trivial⟩, ⟨(leq_ptr rfl rfl rfl), (leq_sl (Reads.sl rfl) rfl rfl rfl), (leq_sl (Reads.sl rfl) rfl rfl rfl), (leq_is rfl rfl rfl), trivial⟩, ⟨hp_row rfl (by first | rfl) (by first | rfl), trivial⟩, ⟨hp_var rfl ⟨(leq_is rfl rfl rfl), (leq_is rfl rfl rfl), trivial⟩, trivial⟩, rfl, ⟨supg rfl, supg rfl, trivial⟩, ⟨supg rfl, supg rfl, supg rfl, supg rfl, trivial⟩, ⟨suph rfl rfl, trivial⟩, ⟨suph rfl rfl, trivial⟩, rfl, rfl⟩ ?_
      intro k hI1
      obtain ⟨hk1, hk2⟩ := hI1
      refine W_seq ?_
      refine W_regionE (c := 19) (c' := 20) (by kernel_rfl) rfl ?_
      refine Runs_p rfl (Valid.lss rfl rfl rfl) rfl rfl ?_
      refine Runs_nil ?_
      refine thenQ_n ?_
      refine W_seq ?_
      refine W_cond _ rfl (fun hb2 => ?_) (fun hb2 => ?_)
      · try simp only [decide_eq_true_eq] at hb2
        all_goals (
          refine W_skip ?_
          refine thenQ_n ?_
          refine W_seq ?_
          refine W_block ?_
          refine W_seq ?_
          refine W_regionE (c := 20) (c' := 23) (by kernel_rfl) rfl ?_
          refine Runs_p rfl (Valid.eltaddr1 0 rfl Try.underlying22 sz3 (Reads.sl rfl) rfl (by omega) rfl) rfl rfl ?_
          refine Runs_p rfl (Valid.loadelt rfl ag3 rfl) rfl rfl ?_
          refine Runs_p rfl (Valid.assignk (A := Is _) rfl rfl) rfl rfl ?_
          refine Runs_nil ?_
          refine thenQ_n ?_
          refine W_seq ?_
          refine W_seq ?_
          refine W_regionE (c := 23) (c' := 31) (by kernel_rfl) rfl ?_
          refine Runs_p rfl (Valid.movek (A := Is _) rfl rfl) rfl rfl ?_
          refine Runs_p rfl (Valid.lss rfl rfl rfl) rfl rfl ?_
          refine Runs_p rfl (Valid.movek (A := Is _) rfl rfl) rfl rfl ?_
          refine Runs_cnd rfl rfl (Grd.is rfl) [] (fun hg => trivial) (fun hg => Valid.movek (A := Is _) rfl rfl) (by rfl) rfl ?_
          refine Runs_cnd rfl rfl (Grd.is rfl) [] (fun hg => trivial) (fun hg => Valid.movek (A := Sl 2 _ _) rfl rfl) (by rfl) rfl ?_
          refine Runs_cnd rfl rfl (Grd.is rfl) [(35, _)] (fun hg => ⟨cnd_at rfl (by first | exact hg | exact hg.1 | exact hg.1.1 | exact hg.1.1.1), trivial⟩) (fun hg => Valid.len rfl Try.underlying57 (Reads.sl rfl)) (by rfl) rfl ?_
          refine Runs_cnd rfl rfl (Grd.is rfl) [(34, _), (36, _)] (fun hg => ⟨cnd_at rfl (by first | exact hg | exact hg.1 | exact hg.1.1 | exact hg.1.1.1), cnd_at rfl (by first | exact hg | exact hg.1 | exact hg.1.1 | exact hg.1.1.1), trivial⟩) (fun hg => Valid.geq rfl rfl rfl) (by rfl) rfl ?_
          refine Runs_p rfl (Valid.pickor rfl rfl rfl rfl (fun h => by first | exact h | exact ⟨hg, h⟩)) rfl rfl ?_
          refine Runs_nil ?_
          refine thenQ_n ?_
          refine W_cond _ rfl (fun hb3 => ?_) (fun hb3 => ?_)
          · try simp only [Int.toNat_natCast, decide_eq_true_eq, Bool.or_eq_true] at hb3
            all_goals (
              refine W_seq ?_
              refine W_regionE (c := 31) (c' := 34) (by kernel_rfl) rfl ?_
              refine Runs_p rfl (Valid.build [] [(Value.string ⟨#[]⟩), (Value.int .i64 0)] rfl rfl (fun _ => by kernel_rfl)) rfl rfl ?_
              refine Runs_op rfl (Valid.storeagg (l := [_, _]) rfl sz40 rfl rfl (Nat.le_of_ble_eq_true rfl) rfl ⟨(One.is rfl rfl rfl), (One.is rfl rfl rfl), trivial⟩) rfl ?_
              refine Runs_p rfl (Valid.assignk (A := Is _) rfl rfl) rfl rfl ?_
              refine Runs_nil ?_
              refine thenQ_n ?_
              refine W_ret ?_
              refine thenQ_r ?_
              refine blockQ_r ?_
              refine thenQ_r ?_
              refine loopQ_r ?_
              refine blockQ_r ?_
              refine thenQ_r ?_
              refine finQ_r ?_
              refine ResOk.two rfl (RVal.cellagg ag40 sz40 rfl rfl (Nat.le_of_ble_eq_true rfl) (argle (by first | (rw [pput_1 (by assumption)]; done) | (rw [pput_1 (by assumption)]; rfl) | (have h5 := pput_5 hok (by omega) (not_inW hw1 hb3); rw [h5]; done) | (have h5 := pput_5 hok (by omega) (not_inW hw1 hb3); rw [h5]; rfl) | (have h0 := pput_0 hok (by omega) hk2; rw [h0]; done) | (have h0 := pput_0 hok (by omega) hk2; rw [h0]; rfl)))) (RVal.is rfl rfl (by first | (rw [pput_1 (by assumption)]; done) | (rw [pput_1 (by assumption)]; rfl) | (have h5 := pput_5 hok (by omega) (not_inW hw1 hb3); rw [h5]; done) | (have h5 := pput_5 hok (by omega) (not_inW hw1 hb3); rw [h5]; rfl) | (have h0 := pput_0 hok (by omega) hk2; rw [h0]; done) | (have h0 := pput_0 hok (by omega) hk2; rw [h0]; rfl)))
              done)
          · try simp only [Int.toNat_natCast, decide_eq_false_iff_not, Bool.or_eq_false_iff] at hb3
            all_goals (
              refine W_skip ?_
              refine thenQ_n ?_
              refine W_seq ?_
              refine W_drawE (c := 31) (c' := 49) (by kernel_rfl) rfl ?_
              refine Runs_p rfl (Valid.build [] [(Value.string ⟨#[]⟩), (Value.int .i64 0)] rfl rfl (fun _ => by kernel_rfl)) rfl rfl ?_
              refine Runs_p rfl (Valid.movek (A := Sl 2 _ _) rfl rfl) rfl rfl ?_
              refine Runs_p rfl (Valid.movek (A := Is _) rfl rfl) rfl rfl ?_
              refine Runs_p rfl (Valid.eltE (f := (fun p : Int × Int => [Value.int .i64 p.1, Value.int .u64 p.2])) (0, 0) rfl (fun _ => rfl) Try.underlying57 sz63 (Reads.sl rfl) rfl (by first | omega | (simp only [Int.toNat_natCast]; omega)) rfl) rfl rfl ?_
              refine Runs_p rfl (Valid.fieldelt 1 rfl rfl (fun _ _ => by kernel_rfl)) rfl rfl ?_
              refine Runs_p rfl (Valid.loadelt rfl ag51 rfl) rfl rfl ?_
              refine Runs_p rfl (Valid.movek (A := Sl 2 _ _) rfl rfl) rfl rfl ?_
              refine Runs_p rfl (Valid.movek (A := Is _) rfl rfl) rfl rfl ?_
              refine Runs_p rfl (Valid.eltE (f := (fun p : Int × Int => [Value.int .i64 p.1, Value.int .u64 p.2])) (0, 0) rfl (fun _ => rfl) Try.underlying57 sz63 (Reads.sl rfl) rfl (by first | omega | (simp only [Int.toNat_natCast]; omega)) rfl) rfl rfl ?_
              refine Runs_p rfl (Valid.fieldelt 0 rfl rfl (fun _ _ => by kernel_rfl)) rfl rfl ?_
              refine Runs_p rfl (Valid.loadelt rfl ag3 rfl) rfl rfl ?_
              refine Runs_p rfl (Valid.call rfl (put_w hok (m.getD k 0)) ⟨argle rfl, argle rfl, argle rfl, trivial⟩) rfl rfl ?_
              refine Runs_p rfl (Valid.movek (A := Tup [Agg [Is _, Is _], Is _]) rfl rfl) rfl rfl ?_
              refine Runs_p rfl (Valid.extract _ rfl rfl rfl) rfl rfl ?_
              refine Runs_p rfl (Valid.extract _ rfl rfl rfl) rfl rfl ?_
              refine Runs_w rfl (Valid.alloc [(Value.string ⟨#[]⟩), (Value.int .i64 0)] rfl zv40 rfl) rfl rfl ?_
              refine Runs_op rfl (Valid.storeagg (l := [_, _]) rfl sz40 rfl rfl (Nat.le_of_ble_eq_true rfl) rfl ⟨(One.is rfl rfl rfl), (One.is rfl rfl rfl), trivial⟩) rfl ?_
              refine Runs_p rfl (Valid.assignk (A := Is _) rfl rfl) rfl rfl ?_
              refine Runs_nil ?_
              refine ⟨_, _, rfl, rfl, by kernel_rfl, ?_⟩
              refine thenQ_n ?_
              refine W_regionE (c := 49) (c' := 54) (by kernel_rfl) rfl ?_
              refine Runs_p rfl (Valid.movek (A := Ab.Own 112 2 _ _) rfl rfl) rfl rfl ?_
              refine Runs_p rfl (Valid.loadagg rfl ag40 sz40 rfl rfl (Nat.le_of_ble_eq_true rfl)) rfl rfl ?_
              refine Runs_p rfl (Valid.litP (el := 40) [(_, _)] rfl rfl (fun _ => by kernel_rfl) rfl (by decide)) rfl rfl ?_
              refine Runs_w rfl (Valid.app rfl Try.underlying60 ti40 (by decide) rfl rfl (Reads.sl rfl) (one_pc _) (by simp only [maxLen]; omega) (by omega)) rfl rfl ?_
              refine Runs_p rfl (Valid.assignk (A := Ab.Own 416 2 _ _) rfl rfl) rfl rfl ?_
              refine Runs_nil ?_
              refine blockQ_n ?_
              refine thenQ_n ?_
              refine W_regionE (c := 54) (c' := 56) (by kernel_rfl) rfl ?_
              refine Runs_p rfl (Valid.add rfl rfl rfl (room64 (by omega) (by omega))) rfl rfl ?_
              refine Runs_p rfl (Valid.movek (A := Is _) rfl rfl) rfl rfl ?_
              refine Runs_nil ?_
              refine LoopQ.next (k + 1) [(112, 416)] (⟨by omega, fun j hj => by by_cases e : j = k; (· subst e; exact ⟨by omega, by omega⟩); (· exact hk2 j (by omega))⟩) (by first | omega | (dsimp only; omega)) ⟨⟨(leq_is rfl rfl (by first | rfl | exact bsW_c (by omega))), (leq_own rfl rfl rfl (by first | rfl | exact bsW_c (by omega)) (by first | rfl | exact bsW_c (by omega))), trivial⟩, ⟨(leq_ptr rfl rfl rfl), (leq_sl (Reads.sl rfl) rfl rfl rfl), (leq_sl (Reads.sl rfl) rfl rfl rfl), (leq_is rfl rfl rfl), trivial⟩, ⟨hp_row rfl (by first | rfl | exact bsW_c (by omega)) (by first | rfl | exact bsW_c (by omega)), trivial⟩, ⟨hp_var rfl ⟨(leq_is rfl rfl rfl), (leq_is rfl rfl rfl), trivial⟩, trivial⟩, rfl, ⟨supg rfl, supg rfl, trivial⟩, ⟨supg rfl, supg rfl, supg rfl, supg rfl, trivial⟩, ⟨suph rfl rfl, trivial⟩, ⟨suph rfl rfl, trivial⟩, rfl, rfl⟩
              done)
          done)
      · try simp only [decide_eq_false_iff_not] at hb2
        all_goals (
          refine W_exit ?_
          refine thenQ_e ?_
          refine loopQ_e ?_
          refine blockQ_x ?_
          refine thenQ_n ?_
          refine W_seq ?_
          refine W_regionE (c := 20) (c' := 26) (by kernel_rfl) rfl ?_
          refine Runs_p rfl (Valid.movek (A := Ab.Own 112 2 _ _) rfl rfl) rfl rfl ?_
          refine Runs_p rfl (Valid.call rfl (cat_f (bsW l m k) _ _ (bsW_len (by omega)).symm rfl (by have := flat20 hok m k (by omega); omega)) ⟨argle_sl (Reads.own rfl), trivial⟩) rfl rfl ?_
          refine Runs_p rfl (Valid.extract _ rfl rfl rfl) rfl rfl ?_
          refine Runs_p rfl (Valid.extract _ rfl rfl rfl) rfl rfl ?_
          refine Runs_op rfl (Valid.storeagg (l := [_, _]) rfl sz40 rfl rfl (Nat.le_of_ble_eq_true rfl) rfl ⟨(One.is rfl rfl rfl), (One.is rfl rfl rfl), trivial⟩) rfl ?_
          refine Runs_p rfl (Valid.assignk (A := Is _) rfl rfl) rfl rfl ?_
          refine Runs_nil ?_
          refine thenQ_n ?_
          refine W_ret ?_
          refine finQ_r ?_
          refine ResOk.two rfl (RVal.cellagg ag40 sz40 rfl rfl (Nat.le_of_ble_eq_true rfl) (argle (by first | (rw [pput_1 (by assumption)]; done) | (rw [pput_1 (by assumption)]; rfl) | (have h5 := pput_5 hok (by omega) (not_inW hw1 hb3); rw [h5]; done) | (have h5 := pput_5 hok (by omega) (not_inW hw1 hb3); rw [h5]; rfl) | (have h0 := pput_0 hok (by omega) hk2; rw [h0]; done) | (have h0 := pput_0 hok (by omega) hk2; rw [h0]; rfl)))) (RVal.is rfl rfl (by first | (rw [pput_1 (by assumption)]; done) | (rw [pput_1 (by assumption)]; rfl) | (have h5 := pput_5 hok (by omega) (not_inW hw1 hb3); rw [h5]; done) | (have h5 := pput_5 hok (by omega) (not_inW hw1 hb3); rw [h5]; rfl) | (have h0 := pput_0 hok (by omega) hk2; rw [h0]; done) | (have h0 := pput_0 hok (by omega) hk2; rw [h0]; rfl)))
          done)
      done)
end Oh
end Go.Proofs.Ytdcenocljnlipaa
