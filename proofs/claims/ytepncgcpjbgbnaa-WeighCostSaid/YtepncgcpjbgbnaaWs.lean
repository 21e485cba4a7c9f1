/-
  WALKS of stage 10: the law WeighLeast.
-/
import Derived.Test.YtepncgcpjbgbnaaRows
import Derived.Test.YtepncgcpjbgbnaaMgc
import Derived.Test.YtepncgcpjbgbnaaWa
import Derived.Test.YtepncgcpjbgbnaaWb
import Derived.Test.YtepncgcpjbgbnaaWm
import Derived.Test.YtepncgcpjbgbnaaWc
import Derived.Test.YtepncgcpjbgbnaaWd
import Derived.Test.YtepncgcpjbgbnaaWe
import Derived.Test.YtepncgcpjbgbnaaWf
import Derived.Test.YtepncgcpjbgbnaaWg
import Derived.Test.YtepncgcpjbgbnaaOa
import Derived.Test.YtepncgcpjbgbnaaOb
import Derived.Test.YtepncgcpjbgbnaaOc
import Derived.Test.YtepncgcpjbgbnaaOd
import Derived.Test.YtepncgcpjbgbnaaOf
import Derived.Test.YtepncgcpjbgbnaaOi
import Derived.Test.YtepncgcpjbgbnaaWh
import Derived.Test.YtepncgcpjbgbnaaCm
import Derived.Test.YtepncgcpjbgbnaaWi
import Derived.Test.YtepncgcpjbgbnaaWl
import Derived.Test.YtepncgcpjbgbnaaWj
import Derived.Test.YtepncgcpjbgbnaaWq
namespace Go.Proofs.Ytepncgcpjbgbnaa
open Go.RowKit
namespace Ws
open Ab Wa Wb Wm Wc Wd We Wf Wg Oa Ob Oc Od Of Oi Wh Cm Wi Wl Wj Wq
theorem ag3 (w : World) : (isAgg 3).run Try.prog w = .ok false w := by kernel_rfl
theorem sz3 (w : World) : (sizeOf 3).run Try.prog w = .ok 1 w := by kernel_rfl
theorem ti3 : TI Try.prog 3 1 8 := .mk' (z := (Value.int .i64 0)) (by kernel_rfl) rfl
set_option maxRecDepth 100000 in
set_option maxHeartbeats 1000000 in
theorem weightsm_s (raw : List Int) (most : Nat) (hr : In64 raw) (hl : raw.length ≤ 9223372036854775807) (hm : most ≤ 200) :
    FMem Try.prog 10 [Sl 1 raw.length (raw.map (Value.int .i64)), Is (.int .i64 (most : Int))] [] (Buf 8 (wns raw most).length) [(8, .buf 3 ((wns raw most).map (Value.int .i64)))] := by
  refine FMem.of Try.func10 Try.ntmps10 rfl (by kernel_rfl) rfl rfl rfl ?_
  refine W_seq ?_
  refine W_regionE (c := 1) (c' := 2) (by kernel_rfl) rfl ?_
  refine Runs_p rfl (Valid.assignk (A := Is (.slice none 0 0)) rfl rfl) rfl rfl ?_ -- law.go:22 assign
  refine Runs_nil ?_
  refine thenQ_n ?_
  refine W_seq ?_
  refine W_regionE (c := 2) (c' := 4) (by kernel_rfl) rfl ?_
  refine Runs_w rfl (Valid.litbuf (el := 3) (Value.int .i64) ([0, 3]) rfl rfl (fun _ => by kernel_rfl) rfl (by decide)) rfl rfl ?_ -- law.go:23 buildSlice
  refine Runs_p rfl (Valid.assignk (A := Buf 16 _) rfl rfl) rfl rfl ?_ -- law.go:23 assign
  refine Runs_nil ?_
  refine thenQ_n ?_
  refine W_seq ?_
  refine W_seq ?_
  refine W_regionE (c := 4) (c' := 5) (by kernel_rfl) rfl ?_
  refine Runs_p rfl (Valid.assignk (A := Is _) rfl rfl) rfl rfl ?_ -- law.go:24 assign
  refine Runs_nil ?_
  refine thenQ_n ?_
  refine W_block ?_
  refine W_loopx (G := Nat) (fun (i : Nat) => i ≤ raw.length ∧ i ≤ most) [(0, Sl 1 _ _), (1, Is _)] (fun (i : Nat) => [(6, Is (.int .i64 (i : Int))), (5, Buf 16 (max 2 i))]) [] (fun (i : Nat) => [(16, .buf 3 ((wnS raw i).map (Value.int .i64)))]) 5 (fun (i : Nat) => raw.length - i) (0) [] (⟨by omega, by omega⟩) ⟨⟨(leq_is rfl rfl (by first | rfl)), (leq_buf rfl rfl rfl (by first | rfl)), trivial⟩, ⟨(leq_sl (Reads.sl rfl) rfl rfl rfl), (leq_is rfl rfl rfl), trivial⟩, ⟨hp_buf rfl (by first | rfl), trivial⟩, trivial, rfl, ⟨supg rfl, supg rfl, trivial⟩, ⟨supg rfl, supg rfl, trivial⟩, ⟨suph rfl rfl, trivial⟩, trivial, rfl, rfl⟩ ?_
  intro i hI1
  obtain ⟨hi1, hi2⟩ := hI1
  have hcl := wnS_len raw i
  have hna : (wnS raw i ++ [drW raw i]).length = (wnS raw i).length + 1 := by simp
  refine W_seq ?_
  refine W_seq ?_
  refine W_regionE (c := 5) (c' := 14) (by kernel_rfl) rfl ?_
  refine Runs_p rfl (Valid.movek (A := Is _) rfl rfl) rfl rfl ?_ -- law.go:24 move
  refine Runs_p rfl (Valid.movek (A := Sl 1 _ _) rfl rfl) rfl rfl ?_ -- law.go:24 move
  refine Runs_p rfl (Valid.len rfl Try.underlying22 (Reads.sl rfl)) rfl rfl ?_ -- law.go:24 call
  refine Runs_p rfl (Valid.lss rfl rfl rfl) rfl rfl ?_ -- law.go:24 binOp
  refine Runs_p rfl (Valid.movek (A := Is _) rfl rfl) rfl rfl ?_ -- law.go:24 move
  refine Runs_cnd rfl rfl (Grd.is rfl) [] (fun hg => trivial) (fun hg => Valid.movek (A := Is _) rfl rfl) (by rfl) rfl ?_
  refine Runs_cnd rfl rfl (Grd.is rfl) [] (fun hg => trivial) (fun hg => Valid.movek (A := Is _) rfl rfl) (by rfl) rfl ?_
  refine Runs_cnd rfl rfl (Grd.is rfl) [(14, _), (15, _)] (fun hg => ⟨cnd_at rfl (by first | exact hg | exact hg.1 | exact hg.1.1 | exact hg.1.1.1), cnd_at rfl (by first | exact hg | exact hg.1 | exact hg.1.1 | exact hg.1.1.1), trivial⟩) (fun hg => Valid.lss rfl rfl rfl) (by rfl) rfl ?_
  refine Runs_p rfl (Valid.pickand rfl rfl rfl (fun h => by first | exact h | exact ⟨hg, h⟩) rfl) rfl rfl ?_ -- law.go:24 pick
  refine Runs_nil ?_
  refine thenQ_n ?_
  refine W_cond _ rfl (fun hb1 => ?_) (fun hb1 => ?_)
  · try simp only [decide_eq_true_eq, Bool.and_eq_true] at hb1
    all_goals (
      refine W_skip ?_
      refine thenQ_n ?_
      refine W_seq ?_
      refine W_block ?_
      refine W_seq ?_
      refine W_regionE (c := 14) (c' := 20) (by kernel_rfl) rfl ?_
      refine Runs_p rfl (Valid.movek (A := Sl 1 _ _) rfl rfl) rfl rfl ?_ -- law.go:25 move
      refine Runs_p rfl (Valid.movek (A := Is _) rfl rfl) rfl rfl ?_ -- law.go:25 move
      refine Runs_p rfl (Valid.eltaddr1 0 rfl Try.underlying22 sz3 (Reads.sl rfl) rfl (by first | omega | (simp only [Int.toNat_natCast, toNat_add, toNat_add1, List.length_append, List.length_cons, List.length_nil, List.length_replicate]; omega)) (by first | rfl | simp)) rfl rfl ?_ -- law.go:25 indexAddr
      refine Runs_p rfl (Valid.loadelt rfl ag3 rfl) rfl rfl ?_ -- law.go:25 load
      refine Runs_p rfl (Valid.call rfl (pick10_s _ _ (hr.at_ _).1 (hr.at_ _).2 (by decide) (by decide)) ⟨argle rfl, argle rfl, trivial⟩) rfl rfl ?_ -- law.go:25 call
      refine Runs_p rfl (Valid.assignk (A := Is _) rfl rfl) rfl rfl ?_ -- law.go:25 assign
      refine Runs_nil ?_
      refine thenQ_n ?_
      refine W_seq ?_
      refine W_regionE (c := 20) (c' := 22) (by kernel_rfl) rfl ?_
      refine Runs_p rfl (Valid.movek (A := Is _) rfl rfl) rfl rfl ?_ -- law.go:26 move
      refine Runs_p rfl (Valid.lss rfl rfl rfl) rfl rfl ?_ -- law.go:26 binOp
      refine Runs_nil ?_
      refine thenQ_n ?_
      refine W_cond _ rfl (fun hb2 => ?_) (fun hb2 => ?_)
      · try simp only [decide_eq_true_eq] at hb2
        all_goals (
          refine W_regionE (c := 22) (c' := 27) (by kernel_rfl) rfl ?_
          refine Runs_p rfl (Valid.movek (A := Buf 16 _) rfl rfl) rfl rfl ?_ -- law.go:27 move
          refine Runs_p rfl (Valid.movek (A := Is _) rfl rfl) rfl rfl ?_ -- law.go:27 move
          refine Runs_p rfl (Valid.movek (A := Is _) rfl rfl) rfl rfl ?_ -- law.go:27 move
          refine Runs_p rfl (Valid.idxB rfl Try.underlying22 sz3 rfl rfl (by first | omega | (simp only [Int.toNat_natCast, toNat_add, toNat_add1, List.length_append, List.length_cons, List.length_nil, List.length_replicate]; omega))) rfl rfl ?_ -- law.go:27 indexAddr
          refine Runs_op rfl (Valid.storeB _ rfl sz3 rfl rfl (by show i < _; omega) rfl (One.is rfl rfl rfl)) rfl ?_ -- law.go:27 store
          refine Runs_nil ?_
          refine blockQ_n ?_
          refine thenQ_n ?_
          refine W_regionE (c := 27) (c' := 30) (by kernel_rfl) rfl ?_
          refine Runs_p rfl (Valid.movek (A := Is _) rfl rfl) rfl rfl ?_ -- law.go:24 move
          refine Runs_p rfl (Valid.add rfl rfl rfl (room64 (by first | omega | (simp only [Int.toNat_natCast, toNat_add, toNat_add1, List.length_append, List.length_cons, List.length_nil, List.length_replicate]; omega)) (by first | omega | (simp only [Int.toNat_natCast, toNat_add, toNat_add1, List.length_append, List.length_cons, List.length_nil, List.length_replicate]; omega)))) rfl rfl ?_ -- law.go:24 binOp
          refine Runs_p rfl (Valid.assignk (A := Is _) rfl rfl) rfl rfl ?_ -- law.go:24 assign
          refine Runs_nil ?_
          refine LoopQ.next (i + 1) [] (⟨by omega, by omega⟩) (by omega) ⟨⟨(leq_is rfl rfl (by first | rfl | omega | exact wnS_a (i := i) (by omega) | exact wnS_b (i := i) (by omega) | exact congrArg (List.map (Value.int .i64)) (wnS_a (i := i) (by omega)) | exact congrArg (List.map (Value.int .i64)) (wnS_b (i := i) (by omega)) | (rw [List.length_append, hcl, List.length_singleton]; omega) | (rw [List.length_set, hcl]; omega))), (leq_buf rfl rfl rfl (by first | rfl | omega | exact wnS_a (i := i) (by omega) | exact wnS_b (i := i) (by omega) | exact congrArg (List.map (Value.int .i64)) (wnS_a (i := i) (by omega)) | exact congrArg (List.map (Value.int .i64)) (wnS_b (i := i) (by omega)) | (rw [List.length_append, hcl, List.length_singleton]; omega) | (rw [List.length_set, hcl]; omega))), trivial⟩, ⟨(leq_sl (Reads.sl rfl) rfl rfl rfl), (leq_is rfl rfl rfl), trivial⟩, ⟨hp_buf rfl (by first | rfl | omega | exact wnS_a (i := i) (by omega) | exact wnS_b (i := i) (by omega) | exact congrArg (List.map (Value.int .i64)) (wnS_a (i := i) (by omega)) | exact congrArg (List.map (Value.int .i64)) (wnS_b (i := i) (by omega)) | (rw [List.length_append, hcl, List.length_singleton]; omega) | (rw [List.length_set, hcl]; omega)), trivial⟩, trivial, rfl, ⟨supg rfl, supg rfl, trivial⟩, ⟨supg rfl, supg rfl, trivial⟩, ⟨suph rfl rfl, trivial⟩, trivial, rfl, rfl⟩
          done)
      · try simp only [decide_eq_false_iff_not] at hb2
        all_goals (
          refine W_regionE (c := 22) (c' := 27) (by kernel_rfl) rfl ?_
          refine Runs_p rfl (Valid.movek (A := Buf 16 _) rfl rfl) rfl rfl ?_ -- law.go:29 move
          refine Runs_p rfl (Valid.movek (A := Is _) rfl rfl) rfl rfl ?_ -- law.go:29 move
          refine Runs_p rfl (Valid.lit (el := 3) [_] rfl rfl (fun _ => by kernel_rfl) rfl (by decide)) rfl rfl ?_ -- law.go:29 buildSlice
          refine Runs_w rfl (Valid.appB (f := Value.int .i64) rfl Try.underlying22 ti3 rfl rfl (Reads.sl rfl) rfl (by first | (simp only [maxLen]; omega) | (simp only [maxLen, Int.toNat_natCast, toNat_add, toNat_add1, List.length_append, List.length_cons, List.length_nil, List.length_replicate]; omega)) (by first | omega | (simp only [Int.toNat_natCast, toNat_add, toNat_add1, List.length_append, List.length_cons, List.length_nil, List.length_replicate]; omega))) rfl rfl ?_ -- law.go:29 call
          refine Runs_p rfl (Valid.assignk (A := Buf 200 _) rfl rfl) rfl rfl ?_ -- law.go:29 assign
          refine Runs_nil ?_
          refine blockQ_n ?_
          refine thenQ_n ?_
          refine W_regionE (c := 27) (c' := 30) (by kernel_rfl) rfl ?_
          refine Runs_p rfl (Valid.movek (A := Is _) rfl rfl) rfl rfl ?_ -- law.go:24 move
          refine Runs_p rfl (Valid.add rfl rfl rfl (room64 (by first | omega | (simp only [Int.toNat_natCast, toNat_add, toNat_add1, List.length_append, List.length_cons, List.length_nil, List.length_replicate]; omega)) (by first | omega | (simp only [Int.toNat_natCast, toNat_add, toNat_add1, List.length_append, List.length_cons, List.length_nil, List.length_replicate]; omega)))) rfl rfl ?_ -- law.go:24 binOp
          refine Runs_p rfl (Valid.assignk (A := Is _) rfl rfl) rfl rfl ?_ -- law.go:24 assign
          refine Runs_nil ?_
          refine LoopQ.next (i + 1) [(16, 200)] (⟨by omega, by omega⟩) (by omega) ⟨⟨(leq_is rfl rfl (by first | rfl | omega | exact wnS_a (i := i) (by omega) | exact wnS_b (i := i) (by omega) | exact congrArg (List.map (Value.int .i64)) (wnS_a (i := i) (by omega)) | exact congrArg (List.map (Value.int .i64)) (wnS_b (i := i) (by omega)) | (rw [List.length_append, hcl, List.length_singleton]; omega) | (rw [List.length_set, hcl]; omega))), (leq_buf rfl rfl rfl (by first | rfl | omega | exact wnS_a (i := i) (by omega) | exact wnS_b (i := i) (by omega) | exact congrArg (List.map (Value.int .i64)) (wnS_a (i := i) (by omega)) | exact congrArg (List.map (Value.int .i64)) (wnS_b (i := i) (by omega)) | (rw [List.length_append, hcl, List.length_singleton]; omega) | (rw [List.length_set, hcl]; omega))), trivial⟩, ⟨(leq_sl (Reads.sl rfl) rfl rfl rfl), (leq_is rfl rfl rfl), trivial⟩, ⟨hp_buf rfl (by first | rfl | omega | exact wnS_a (i := i) (by omega) | exact wnS_b (i := i) (by omega) | exact congrArg (List.map (Value.int .i64)) (wnS_a (i := i) (by omega)) | exact congrArg (List.map (Value.int .i64)) (wnS_b (i := i) (by omega)) | (rw [List.length_append, hcl, List.length_singleton]; omega) | (rw [List.length_set, hcl]; omega)), trivial⟩, trivial, rfl, ⟨supg rfl, supg rfl, trivial⟩, ⟨supg rfl, supg rfl, trivial⟩, ⟨suph rfl rfl, trivial⟩, trivial, rfl, rfl⟩
          done)
      done)
  · try simp only [decide_eq_false_iff_not, Bool.and_eq_false_iff] at hb1
    all_goals (
      refine W_exit ?_
      refine thenQ_e ?_
      refine loopQ_e ?_
      refine blockQ_x ?_
      refine thenQ_n ?_
      refine W_seq ?_
      refine W_regionE (c := 14) (c' := 16) (by kernel_rfl) rfl ?_
      refine Runs_p rfl (Valid.movek (A := Buf 16 _) rfl rfl) rfl rfl ?_ -- law.go:32 move
      refine Runs_p rfl (Valid.assignk (A := Buf 16 _) rfl rfl) rfl rfl ?_ -- law.go:32 assign
      refine Runs_nil ?_
      refine thenQ_n ?_
      refine W_ret ?_
      refine finMQ_r ?_
      exact FinM.leq [(8, 16)] (ResOk.one rfl (RVal.tmp (fun _ _ _ h => h))) (leq_buf rfl rfl rfl (by first | rfl | (rw [wns_eq hi1 hi2 (by omega)]; done) | (rw [wns_eq hi1 hi2 (by omega), wnS_len]; done) | (rw [wns_eq hi1 hi2 (by omega), wnS_len]; omega))) ⟨hp_buf rfl (by first | rfl | (rw [wns_eq hi1 hi2 (by omega)]; done) | (rw [wns_eq hi1 hi2 (by omega), wnS_len]; done) | (rw [wns_eq hi1 hi2 (by omega), wnS_len]; omega)), trivial⟩ rfl rfl
      done)

def oneA (w : List Int) : Nat → List Int
  | 0 => w
  | k + 1 => (oneA w k).set k (max ((oneA w k).getD k 0) 1)
theorem oneA_len (w : List Int) : ∀ k, (oneA w k).length = w.length
  | 0 => rfl
  | k + 1 => by rw [oneA, List.length_set, oneA_len w k]
theorem oneA_at (w : List Int) {i : Nat} (hi : i < w.length) : ∀ k, k ≤ w.length → (oneA w k).getD i 0 = if i < k then max (w.getD i 0) 1 else w.getD i 0
  | 0, _ => by rw [if_neg (by omega)]; rfl
  | k + 1, hk => by
    rw [oneA, gd_set' (by rw [oneA_len]; omega)]
    by_cases e : i = k
    · subst e
      rw [if_pos rfl, if_pos (by omega), oneA_at w hi i (by omega), if_neg (by omega)]
    · rw [if_neg e, oneA_at w hi k (by omega)]
      by_cases c : i < k
      · rw [if_pos c, if_pos (by omega)]
      · rw [if_neg c, if_neg (by omega)]
theorem oneA_take (w : List Int) {n : Nat} (hn : n ≤ w.length) : (oneA w n).take n = ones (w.take n) := by
  refine ext_gd (by rw [ones_len, List.length_take, List.length_take, oneA_len]) (fun i hi => ?_)
  rw [List.length_take, oneA_len] at hi
  rw [gd_take (by omega), oneA_at w (by omega) n hn, if_pos (by omega), ones_at (by rw [List.length_take]; omega), gd_take (by omega)]
theorem kS_mono {M : Nat} {f : Nat → Nat} {a b : Nat} (h : a ≤ b) : kS M f a ≤ kS M f b := by
  induction h with
  | refl => exact Nat.le_refl _
  | step _ ih => rw [kS]; exact Nat.le_trans ih (Nat.le_add_right _ _)
theorem ok_take {l : List Int} (h : OkL l) {n : Nat} (h2 : 2 ≤ n) (hn : n ≤ l.length) : OkL (l.take n) := by
  have hl : (l.take n).length = n := by rw [List.length_take]; omega
  have h1 := ok_kS h
  have h3 := kS_mono (M := 20) (f := ln l) hn
  have h258 := h.len
  have h4 : kS 20 (ln (l.take n)) n = kS 20 (ln l) n := kS_congr n (fun i hi => by rw [ln, ln, gd_take hi])
  have h20 : (2 : Nat) ^ 20 = 1048576 := by decide
  show (sndV (l.take n)).2 = 0
  rw [snd_kS (by omega) (by omega) (fun j hj => by have := h.good (s := j) (by omega); rw [gd_take (by omega)]; unfold Ob.good; omega), hl, h4, if_neg (by omega)]
theorem cs_cS {l w : List Int} {f : Nat → Nat} : ∀ k, (∀ i, i < k → l.getD i 0 = (f i : Int)) → cs l w k = cS w f k
  | 0, _ => rfl
  | k + 1, h => by rw [cs, cS, cs_cS k (fun i hi => h i (by omega)), h k (by omega), Int.mul_comm]
theorem ones_bnd {w : List Int} (h : bnd w) : bnd (ones w) := fun x hx => by
  obtain ⟨y, hy, rfl⟩ := List.mem_map.1 hx
  have := h y hy
  unfold okW at this ⊢; omega
theorem ones_2 (w : List Int) : ones (ones w) = ones w := by
  refine ext_gd (by rw [ones_len]) (fun i hi => ?_)
  rw [ones_len, ones_len] at hi
  rw [ones_at (by rw [ones_len]; exact hi), ones_at hi]; omega
theorem least_f {w l : List Int} (hw : bnd w) (h2 : 2 ≤ w.length) (h20 : w.length ≤ 20) (hl : l.length = w.length) (ho : OkL l) :
    ∃ best a b, lnV (ones w) 20 = (best, 0) ∧ best.length = w.length ∧ costV best (ones w) = (a, 0) ∧ costV l (ones w) = (b, 0) ∧ a ≤ b := by
  have hol := ones_len w
  obtain ⟨best, v, hb1, hb2, hb3, _, _, _, _, hvl, hlv, hvn, _, hvo⟩ := lenW_all (w := ones w) (most := 20) (by omega) (by omega) (by decide) (by decide) (ones_bnd hw)
  have hv : v = ones w := by rw [hvo (by omega), ones_2]
  have hbb : bnd best := fun x hx => by
    obtain ⟨i, hi, rfl⟩ := List.mem_iff_getElem.1 hx
    have := hb3 i hi
    rw [List.getD_eq_getElem?_getD, List.getElem?_eq_getElem hi] at this
    simp only [Option.getD_some] at this
    unfold okW; omega
  have hlw := Dw_least (w := ones w) (ones_pos w).nn (by omega) (M := 20) (f := ln l) (fun i hi => by have := ho.good (s := i) (by omega); omega) (by
    have := ok_kS ho
    rw [hl, ← hol] at this; exact this)
  refine ⟨best, cs best (ones w) best.length, cs l (ones w) l.length, hb1, by omega, cost_y (by omega) hbb (ones_bnd hw) rfl, cost_y (by omega) (OkL.bnd ho) (ones_bnd hw) rfl, ?_⟩
  rw [cs_cS (f := Dw (ones w)) _ (fun i hi => by rw [hlv i (by omega), hv]), cs_cS (f := ln l) _ (fun i hi => (ho.good hi).2.2), show best.length = (ones w).length by omega, show l.length = (ones w).length by omega]
  exact hlw

theorem chk_t2 {l : List Int} {n : Nat} {xs : List Value} {e : Int} (hn : n = l.length) (hx : xs = l.map (Value.int .i64)) (hi : In64 l) (hl : l.length ≤ 1000) (h : (sndV l).2 = e) : FPure Try.prog 17 [Sl 1 n xs] (Is (.int .i64 e)) := by
  subst hn hx h
  exact check_s l hi (by omega)

set_option maxRecDepth 100000 in
set_option maxHeartbeats 1000000 in
theorem least_w (raw : List Int) (hraw : In64 raw) (lraw : raw.length ≤ 9223372036854775807) (lens : List Int) (hlens : In64 lens) (llens : lens.length ≤ 9223372036854775807) :
    FPure Try.prog 6 [Sl 1 raw.length (raw.map (Value.int .i64)), Sl 1 lens.length (lens.map (Value.int .i64))] (Is (.bool true)) := by
  refine FPure.of Try.func6 Try.ntmps6 rfl (by kernel_rfl) rfl rfl rfl ?_
  refine W_seq ?_
  refine W_regionE (c := 1) (c' := 2) (by kernel_rfl) rfl ?_
  refine Runs_p rfl (Valid.assignk (A := Is _) rfl rfl) rfl rfl ?_ -- law.go:108 assign
  refine Runs_nil ?_
  refine thenQ_n ?_
  refine W_seq ?_
  refine W_regionE (c := 2) (c' := 4) (by kernel_rfl) rfl ?_
  refine Runs_p rfl (Valid.call rfl (awake10_s) trivial) rfl rfl ?_ -- law.go:109 call
  refine Runs_p rfl (Valid.assignk (A := Is _) rfl rfl) rfl rfl ?_ -- law.go:109 assign
  refine Runs_nil ?_
  refine thenQ_n ?_
  refine W_seq ?_
  refine W_regionE (c := 4) (c' := 7) (by kernel_rfl) rfl ?_
  refine Runs_p rfl (Valid.movek (A := Sl 1 _ _) rfl rfl) rfl rfl ?_ -- law.go:110 move
  refine Runs_p rfl (Valid.call rfl (lens_s _ 20 (by assumption) (by omega) (by decide)) ⟨argle_sl (Reads.sl rfl), argle rfl, trivial⟩) rfl rfl ?_ -- law.go:110 call
  refine Runs_p rfl (Valid.assignk (A := Sl 1 _ _) rfl rfl) rfl rfl ?_ -- law.go:110 assign
  refine Runs_nil ?_
  refine thenQ_n ?_
  refine W_seq ?_
  refine W_regionE (c := 7) (c' := 10) (by kernel_rfl) rfl ?_
  refine Runs_p rfl (Valid.movek (A := Sl 1 _ _) rfl rfl) rfl rfl ?_ -- law.go:111 move
  refine Runs_w rfl (Valid.callm [] rfl (.inl ⟨rfl, rfl⟩) (weightsm_s _ 20 (by assumption) (by omega) (by decide)) ⟨(leq_sl (Reads.sl rfl) rfl rfl rfl), (leq_is rfl rfl rfl), trivial⟩ trivial (up_buf (id' := 64) rfl) (hpup_cons (j := 64) rfl cup_buf hpup_nil) (by kernel_rfl) (by kernel_rfl) (by kernel_rfl) (by kernel_rfl) (by kernel_rfl) (by kernel_rfl) (by kernel_rfl) (by kernel_rfl) (by kernel_rfl)) rfl rfl ?_ -- law.go:111 call
  refine Runs_p rfl (Valid.assignk (A := Buf 64 _) rfl rfl) rfl rfl ?_ -- law.go:111 assign
  refine Runs_nil ?_
  refine thenQ_n ?_
  refine W_seq ?_
  obtain ⟨hw2, hw20⟩ := wns_len raw 20
  have hwb := wns_bnd raw 20
  obtain ⟨hl2, hl20⟩ := lenS_2 lens (min lens.length 20)
  have hok := lenS_ok lens (min lens.length 20)
  have hlv : lenV lens 20 = lenS lens (min lens.length 20) := rfl
  rw [hlv]
  generalize wns raw 20 = w at *
  generalize lenS lens (min lens.length 20) = l at *
  refine W_regionE (c := 10) (c' := 16) (by kernel_rfl) rfl ?_
  refine Runs_p rfl (Valid.movek (A := Sl 1 _ _) rfl rfl) rfl rfl ?_ -- law.go:112 move
  refine Runs_p rfl (Valid.len rfl Try.underlying22 (Reads.sl rfl)) rfl rfl ?_ -- law.go:112 call
  refine Runs_p rfl (Valid.movek (A := Buf 64 _) rfl rfl) rfl rfl ?_ -- law.go:112 move
  refine Runs_p rfl (Valid.lenB rfl Try.underlying22 rfl) rfl rfl ?_ -- law.go:112 call
  refine Runs_p rfl (Valid.min rfl rfl rfl) rfl rfl ?_ -- law.go:112 call
  refine Runs_p rfl (Valid.assignk (A := Is _) rfl rfl) rfl rfl ?_ -- law.go:112 assign
  refine Runs_nil ?_
  refine thenQ_n ?_
  refine W_seq ?_
  refine W_seq ?_
  obtain ⟨N, hN⟩ : ∃ N : Nat, min (l.length : Int) (w.length : Int) = (N : Int) := ⟨min l.length w.length, by omega⟩
  rw [hN]
  have hNl : N ≤ l.length := by omega
  have hNw : N ≤ w.length := by omega
  have hN1 : 2 ≤ N := by omega
  have hot := ok_take hok hN1 hNl
  obtain ⟨best, A, B, hbl, hbn, cA, cB, hAB⟩ := least_f (w := w.take N) (l := l.take N) (bnd_take hwb N) (by rw [List.length_take]; omega) (by rw [List.length_take]; omega) (by rw [List.length_take, List.length_take]; omega) hot
  have hbn2 : best.length = N := by rw [hbn, List.length_take]; omega
  have hol := ones_len (w.take N)
  rw [List.length_take] at hol
  refine W_regionE (c := 16) (c' := 17) (by kernel_rfl) rfl ?_
  refine Runs_p rfl (Valid.assignk (A := Is _) rfl rfl) rfl rfl ?_ -- law.go:113 assign
  refine Runs_nil ?_
  refine thenQ_n ?_
  refine W_block ?_
  refine W_loopx (G := Nat) (fun (q : Nat) => q ≤ N) [(5, Is _), (6, Sl 1 _ _), (8, Is _)] (fun (q : Nat) => [(9, Is (.int .i64 (q : Int))), (7, Buf 64 w.length)]) [] (fun (q : Nat) => [(64, .buf 3 ((oneA w q).map (Value.int .i64)))]) 17 (fun (q : Nat) => N - q) (0) [] (by first | trivial | omega | (simp; omega)) ⟨⟨(leq_is rfl rfl (by first | rfl | omega)), (leq_buf rfl rfl rfl (by first | rfl | omega)), trivial⟩, ⟨(leq_is rfl rfl rfl), (leq_sl (Reads.sl rfl) rfl rfl rfl), (leq_is rfl rfl rfl), trivial⟩, ⟨hp_buf rfl (by first | rfl | omega), trivial⟩, trivial, rfl, ⟨supg rfl, supg rfl, trivial⟩, ⟨supg rfl, supg rfl, supg rfl, trivial⟩, ⟨suph rfl rfl, trivial⟩, trivial, rfl, rfl⟩ ?_
  intro q hI1
  have hoal := oneA_len w q
  refine W_seq ?_
  refine W_seq ?_
  refine W_regionE (c := 17) (c' := 20) (by kernel_rfl) rfl ?_
  refine Runs_p rfl (Valid.movek (A := Is _) rfl rfl) rfl rfl ?_ -- law.go:113 move
  refine Runs_p rfl (Valid.movek (A := Is _) rfl rfl) rfl rfl ?_ -- law.go:113 move
  refine Runs_p rfl (Valid.lss rfl rfl rfl) rfl rfl ?_ -- law.go:113 binOp
  refine Runs_nil ?_
  refine thenQ_n ?_
  refine W_cond _ rfl (fun hb1 => ?_) (fun hb1 => ?_)
  · try simp only [decide_eq_true_eq] at hb1
    all_goals (
      refine W_skip ?_
      refine thenQ_n ?_
      refine W_seq ?_
      refine W_block ?_
      refine W_regionE (c := 20) (c' := 29) (by kernel_rfl) rfl ?_
      refine Runs_p rfl (Valid.movek (A := Buf 64 _) rfl rfl) rfl rfl ?_ -- law.go:114 move
      refine Runs_p rfl (Valid.movek (A := Is _) rfl rfl) rfl rfl ?_ -- law.go:114 move
      refine Runs_p rfl (Valid.movek (A := Buf 64 _) rfl rfl) rfl rfl ?_ -- law.go:114 move
      refine Runs_p rfl (Valid.movek (A := Is _) rfl rfl) rfl rfl ?_ -- law.go:114 move
      refine Runs_p rfl (Valid.idxB rfl Try.underlying22 sz3 rfl rfl (by first | omega | (simp only [Int.toNat_natCast, toNat_add, toNat_add1, List.length_append, List.length_cons, List.length_nil, List.length_replicate]; omega))) rfl rfl ?_ -- law.go:114 indexAddr
      refine Runs_p rfl (Valid.loadB 0 rfl ag3 rfl rfl (by first | omega | (simp only [Int.toNat_natCast, toNat_add, toNat_add1, List.length_append, List.length_cons, List.length_nil, List.length_replicate]; omega))) rfl rfl ?_ -- law.go:114 load
      refine Runs_p rfl (Valid.max rfl rfl rfl) rfl rfl ?_ -- law.go:114 call
      refine Runs_p rfl (Valid.idxB rfl Try.underlying22 sz3 rfl rfl (by first | omega | (simp only [Int.toNat_natCast, toNat_add, toNat_add1, List.length_append, List.length_cons, List.length_nil, List.length_replicate]; omega))) rfl rfl ?_ -- law.go:114 indexAddr
      refine Runs_op rfl (Valid.storeB _ rfl sz3 rfl rfl (by first | omega | (simp only [Int.toNat_natCast, toNat_add, toNat_add1, List.length_append, List.length_cons, List.length_nil, List.length_replicate]; omega)) rfl (One.is rfl rfl rfl)) rfl ?_ -- law.go:114 store
      refine Runs_nil ?_
      refine blockQ_n ?_
      refine thenQ_n ?_
      refine W_regionE (c := 29) (c' := 32) (by kernel_rfl) rfl ?_
      refine Runs_p rfl (Valid.movek (A := Is _) rfl rfl) rfl rfl ?_ -- law.go:113 move
      refine Runs_p rfl (Valid.add rfl rfl rfl (room64 (by first | omega | (simp only [Int.toNat_natCast, toNat_add, toNat_add1, List.length_append, List.length_cons, List.length_nil, List.length_replicate]; omega)) (by first | omega | (simp only [Int.toNat_natCast, toNat_add, toNat_add1, List.length_append, List.length_cons, List.length_nil, List.length_replicate]; omega)))) rfl rfl ?_ -- law.go:113 binOp
      refine Runs_p rfl (Valid.assignk (A := Is _) rfl rfl) rfl rfl ?_ -- law.go:113 assign
      refine Runs_nil ?_
      refine LoopQ.next (q + 1) [] (by omega) (by omega) ⟨⟨(leq_is rfl rfl (by first | rfl | omega)), (leq_buf rfl rfl rfl (by first | rfl | omega)), trivial⟩, ⟨(leq_is rfl rfl rfl), (leq_sl (Reads.sl rfl) rfl rfl rfl), (leq_is rfl rfl rfl), trivial⟩, ⟨hp_buf rfl (by first | rfl | omega), trivial⟩, trivial, rfl, ⟨supg rfl, supg rfl, trivial⟩, ⟨supg rfl, supg rfl, supg rfl, trivial⟩, ⟨suph rfl rfl, trivial⟩, trivial, rfl, rfl⟩
      done)
  · try simp only [decide_eq_false_iff_not] at hb1
    all_goals (
      refine W_exit ?_
      refine thenQ_e ?_
      refine loopQ_e ?_
      refine blockQ_x ?_
      refine thenQ_n ?_
      refine W_seq ?_
      obtain rfl : q = N := by omega
      have hoq := oneA_take w hNw
      refine W.ent ?_ (Ent.freezeBuf 7 64 _ rfl rfl (by first | (rw [List.length_map, oneA_len]; done) | (rw [List.length_map, oneA_len]; omega)))
      refine W_regionE (c := 20) (c' := 24) (by kernel_rfl) rfl ?_
      refine Runs_p rfl (Valid.movek (A := Sl 1 _ _) rfl rfl) rfl rfl ?_ -- law.go:116 move
      refine Runs_p rfl (Valid.movek (A := Is _) rfl rfl) rfl rfl ?_ -- law.go:116 move
      refine Runs_p rfl (Valid.sliceto1 rfl Try.underlying22 sz3 (Reads.sl rfl) rfl (by first | omega | (simp only [Int.toNat_natCast, toNat_add, toNat_add1, List.length_append, List.length_cons, List.length_nil, List.length_replicate]; omega))) rfl rfl ?_ -- law.go:116 slice
      refine Runs_p rfl (Valid.assignk (A := Sl 1 _ _) rfl rfl) rfl rfl ?_ -- law.go:116 assign
      refine Runs_nil ?_
      refine thenQ_n ?_
      refine W_seq ?_
      refine W_regionE (c := 24) (c' := 28) (by kernel_rfl) rfl ?_
      refine Runs_p rfl (Valid.movek (A := Sl 1 _ _) rfl rfl) rfl rfl ?_ -- law.go:117 move
      refine Runs_p rfl (Valid.movek (A := Is _) rfl rfl) rfl rfl ?_ -- law.go:117 move
      refine Runs_p rfl (Valid.sliceto1 rfl Try.underlying22 sz3 (Reads.sl rfl) rfl (by first | omega | (simp only [Int.toNat_natCast, toNat_add, toNat_add1, List.length_append, List.length_cons, List.length_nil, List.length_replicate]; omega))) rfl rfl ?_ -- law.go:117 slice
      refine Runs_p rfl (Valid.assignk (A := Sl 1 _ _) rfl rfl) rfl rfl ?_ -- law.go:117 assign
      refine Runs_nil ?_
      refine thenQ_n ?_
      refine W_seq ?_
      rw [show (q : Int).toNat = q from rfl, hoq]
      refine W_regionE (c := 28) (c' := 35) (by kernel_rfl) rfl ?_
      refine Runs_p rfl (Valid.movek (A := Sl 1 _ _) rfl rfl) rfl rfl ?_ -- law.go:118 move
      refine Runs_p rfl (Valid.call rfl (ln_t (w := ones (w.take q)) (l := best) (by omega) rfl (by omega) hbl rfl rfl) ⟨argle_sl (Reads.sl rfl), argle rfl, trivial⟩) rfl rfl ?_ -- law.go:118 call
      refine Runs_p rfl (Valid.movek (A := Tup [Sl 1 _ _, Is _]) rfl rfl) rfl rfl ?_ -- law.go:118 move
      refine Runs_p rfl (Valid.extract _ rfl rfl rfl) rfl rfl ?_ -- law.go:118 extract
      refine Runs_p rfl (Valid.extract _ rfl rfl rfl) rfl rfl ?_ -- law.go:118 extract
      refine Runs_p rfl (Valid.assignk (A := Sl 1 _ _) rfl rfl) rfl rfl ?_ -- law.go:118 assign
      refine Runs_p rfl (Valid.assignk (A := Is _) rfl rfl) rfl rfl ?_ -- law.go:118 assign
      refine Runs_nil ?_
      refine thenQ_n ?_
      refine W_seq ?_
      refine W_regionE (c := 35) (c' := 43) (by kernel_rfl) rfl ?_
      refine Runs_p rfl (Valid.movek (A := Sl 1 _ _) rfl rfl) rfl rfl ?_ -- law.go:119 move
      refine Runs_p rfl (Valid.movek (A := Sl 1 _ _) rfl rfl) rfl rfl ?_ -- law.go:119 move
      refine Runs_p rfl (Valid.call rfl (co_t (l := best) (w := ones (w.take q)) rfl rfl (by omega) (by omega) rfl (by omega) cA) ⟨argle_sl (Reads.sl rfl), argle_sl (Reads.sl rfl), trivial⟩) rfl rfl ?_ -- law.go:119 call
      refine Runs_p rfl (Valid.movek (A := Tup [Is _, Is _]) rfl rfl) rfl rfl ?_ -- law.go:119 move
      refine Runs_p rfl (Valid.extract _ rfl rfl rfl) rfl rfl ?_ -- law.go:119 extract
      refine Runs_p rfl (Valid.extract _ rfl rfl rfl) rfl rfl ?_ -- law.go:119 extract
      refine Runs_p rfl (Valid.assignk (A := Is _) rfl rfl) rfl rfl ?_ -- law.go:119 assign
      refine Runs_p rfl (Valid.assignk (A := Is _) rfl rfl) rfl rfl ?_ -- law.go:119 assign
      refine Runs_nil ?_
      refine thenQ_n ?_
      refine W_seq ?_
      refine W_regionE (c := 43) (c' := 51) (by kernel_rfl) rfl ?_
      refine Runs_p rfl (Valid.movek (A := Sl 1 _ _) rfl rfl) rfl rfl ?_ -- law.go:120 move
      refine Runs_p rfl (Valid.movek (A := Sl 1 _ _) rfl rfl) rfl rfl ?_ -- law.go:120 move
      refine Runs_p rfl (Valid.call rfl (co_t (l := l.take q) (w := ones (w.take q)) (by simp; omega) rfl (by simp; omega) (by omega) rfl (by omega) cB) ⟨argle_sl (Reads.sl rfl), argle_sl (Reads.sl rfl), trivial⟩) rfl rfl ?_ -- law.go:120 call
      refine Runs_p rfl (Valid.movek (A := Tup [Is _, Is _]) rfl rfl) rfl rfl ?_ -- law.go:120 move
      refine Runs_p rfl (Valid.extract _ rfl rfl rfl) rfl rfl ?_ -- law.go:120 extract
      refine Runs_p rfl (Valid.extract _ rfl rfl rfl) rfl rfl ?_ -- law.go:120 extract
      refine Runs_p rfl (Valid.assignk (A := Is _) rfl rfl) rfl rfl ?_ -- law.go:120 assign
      refine Runs_p rfl (Valid.assignk (A := Is _) rfl rfl) rfl rfl ?_ -- law.go:120 assign
      refine Runs_nil ?_
      refine thenQ_n ?_
      refine W_seq ?_
      refine W_regionE (c := 51) (c' := 75) (by kernel_rfl) rfl ?_
      refine Runs_p rfl (Valid.movek (A := Is _) rfl rfl) rfl rfl ?_ -- law.go:121 move
      refine Runs_p rfl (Valid.movek (A := Is _) rfl rfl) rfl rfl ?_ -- law.go:121 move
      refine Runs_cnd rfl rfl (Grd.is rfl) [] (fun hg => trivial) (fun hg => Valid.movek (A := Is _) rfl rfl) (by rfl) rfl ?_
      refine Runs_cnd rfl rfl (Grd.is rfl) [(64, _)] (fun hg => ⟨cnd_at rfl (by first | exact hg | exact hg.1 | exact hg.1.1 | exact hg.1.1.1), trivial⟩) (fun hg => Valid.eql rfl rfl rfl) (by rfl) rfl ?_
      refine Runs_p rfl (Valid.pickand rfl rfl rfl (fun h => by first | exact h | exact ⟨hg, h⟩) rfl) rfl rfl ?_ -- law.go:121 pick
      refine Runs_p rfl (Valid.movek (A := Is _) rfl rfl) rfl rfl ?_ -- law.go:121 move
      refine Runs_cnd rfl rfl (Grd.is rfl) [] (fun hg => trivial) (fun hg => Valid.movek (A := Is _) rfl rfl) (by rfl) rfl ?_
      refine Runs_cnd rfl rfl (Grd.is rfl) [(68, _)] (fun hg => ⟨cnd_at rfl (by first | exact hg | exact hg.1 | exact hg.1.1 | exact hg.1.1.1), trivial⟩) (fun hg => Valid.eql rfl rfl rfl) (by rfl) rfl ?_
      refine Runs_p rfl (Valid.pickand rfl rfl rfl (fun h => by first | exact h | exact ⟨hg, h⟩) rfl) rfl rfl ?_ -- law.go:121 pick
      refine Runs_p rfl (Valid.movek (A := Is _) rfl rfl) rfl rfl ?_ -- law.go:121 move
      refine Runs_cnd rfl rfl (Grd.is rfl) [] (fun hg => trivial) (fun hg => Valid.movek (A := Is _) rfl rfl) (by rfl) rfl ?_
      refine Runs_cnd rfl rfl (Grd.is rfl) [(72, _)] (fun hg => ⟨cnd_at rfl (by first | exact hg | exact hg.1 | exact hg.1.1 | exact hg.1.1.1), trivial⟩) (fun hg => Valid.eql rfl rfl rfl) (by rfl) rfl ?_
      refine Runs_p rfl (Valid.pickand rfl rfl rfl (fun h => by first | exact h | exact ⟨hg, h⟩) rfl) rfl rfl ?_ -- law.go:121 pick
      refine Runs_p rfl (Valid.movek (A := Is _) rfl rfl) rfl rfl ?_ -- law.go:121 move
      refine Runs_cnd rfl rfl (Grd.is rfl) [] (fun hg => trivial) (fun hg => Valid.movek (A := Sl 1 _ _) rfl rfl) (by rfl) rfl ?_
      refine Runs_cnd rfl rfl (Grd.is rfl) [(76, _)] (fun hg => ⟨cnd_at rfl (by first | exact hg | exact hg.1 | exact hg.1.1 | exact hg.1.1.1), trivial⟩) (fun hg => Valid.call rfl (chk_t2 (l := l.take q) (by (try simp only [decide_eq_true_eq, Bool.and_eq_true] at hg); simp; omega) (by (try simp only [decide_eq_true_eq, Bool.and_eq_true] at hg); simp [List.map_take]) (OkL.in64 hot) (by (try simp only [decide_eq_true_eq, Bool.and_eq_true] at hg); simp; omega) hot) ⟨argle_sl (Reads.sl rfl), trivial⟩) (by rfl) rfl ?_
      refine Runs_cnd rfl rfl (Grd.is rfl) [(77, _)] (fun hg => ⟨cnd_at rfl (by first | exact hg | exact hg.1 | exact hg.1.1 | exact hg.1.1.1), trivial⟩) (fun hg => Valid.eql rfl rfl rfl) (by rfl) rfl ?_
      refine Runs_p rfl (Valid.pickand rfl rfl rfl (fun h => by first | exact h | exact ⟨hg, h⟩) rfl) rfl rfl ?_ -- law.go:121 pick
      refine Runs_p rfl (Valid.movek (A := Is _) rfl rfl) rfl rfl ?_ -- law.go:121 move
      refine Runs_cnd rfl rfl (Grd.is rfl) [] (fun hg => trivial) (fun hg => Valid.movek (A := Is _) rfl rfl) (by rfl) rfl ?_
      refine Runs_cnd rfl rfl (Grd.is rfl) [] (fun hg => trivial) (fun hg => Valid.movek (A := Is _) rfl rfl) (by rfl) rfl ?_
      refine Runs_cnd rfl rfl (Grd.is rfl) [(81, _), (82, _)] (fun hg => ⟨cnd_at rfl (by first | exact hg | exact hg.1 | exact hg.1.1 | exact hg.1.1.1), cnd_at rfl (by first | exact hg | exact hg.1 | exact hg.1.1 | exact hg.1.1.1), trivial⟩) (fun hg => Valid.leq rfl rfl rfl) (by rfl) rfl ?_
      refine Runs_p rfl (Valid.pickand rfl rfl rfl (fun h => by first | exact h | exact ⟨hg, h⟩) rfl) rfl rfl ?_ -- law.go:121 pick
      refine Runs_p rfl (Valid.assignk (A := Is _) rfl rfl) rfl rfl ?_ -- law.go:121 assign
      refine Runs_nil ?_
      refine thenQ_n ?_
      refine W_ret ?_
      refine finQ_r ?_
      refine ResOk.one rfl (RVal.is rfl rfl (by first | rfl | (simp; omega) | (simp [hAB]; done) | (exfalso; simp at hb1; done) | (exfalso; simp at hb2; done) | (exfalso; simp at hb3; done) | (exfalso; simp at hb4; done) | (exfalso; simp at hb5; done) | (exfalso; simp at hb6; done) | (exfalso; simp at hb7; done) | (exfalso; simp at hb8; done) | (exfalso; simp at hb9; done) | (exfalso; simp at hb10; done) | (exfalso; simp at hb11; done) | (exfalso; simp at hb12; done) | (exfalso; simp at hb13; done)))
      done)
end Ws
end Go.Proofs.Ytepncgcpjbgbnaa
