/-
  WALKS of stage 8: the reference: what is wrong with lengths.
-/
import Derived.Test.YtdcenocljnlipaaRows
import Derived.Test.YtdcenocljnlipaaOa
import Derived.Test.YtdcenocljnlipaaOb
import Derived.Test.YtdcenocljnlipaaOc
import Derived.Test.YtdcenocljnlipaaOd
import Derived.Test.YtdcenocljnlipaaOf
namespace Go.Proofs.Ytdcenocljnlipaa
open Go.RowKit
namespace Oi
open Ab Oa Ob Oc Od Of
theorem ag3 (w : World) : (isAgg 3).run Try.prog w = .ok false w := by kernel_rfl
theorem sz3 (w : World) : (sizeOf 3).run Try.prog w = .ok 1 w := by kernel_rfl
theorem tA_inc {l : List Int} {i : Nat} (hi : i < l.length) (v : Nat) : (tA l (i + 1)).getD v 0 = (tA l i).getD v 0 + if v < 21 ∧ l.getD i 0 = (v : Int) then 1 else 0 := by
  by_cases hv : v < 21
  · have e3 : l.take (i + 1) = l.take i ++ [l.getD i 0] := by rw [List.take_succ_eq_append_getElem hi, List.getD_eq_getElem?_getD, List.getElem?_eq_getElem hi]; rfl
    rw [tA_get l (i + 1) v hv, tA_get l i v hv, e3, List.countP_append]
    by_cases e : l.getD i 0 = (v : Int)
    · rw [if_pos ⟨hv, e⟩, List.countP_cons, List.countP_nil, if_pos (decide_eq_true e)]; omega
    · rw [if_neg (fun h => e h.2), List.countP_cons, List.countP_nil, if_neg (fun h => e (of_decide_eq_true h))]; omega
  · rw [if_neg (fun h => hv h.1), List.getD_eq_getElem?_getD, List.getD_eq_getElem?_getD, List.getElem?_eq_none (by rw [tA_len]; omega), List.getElem?_eq_none (by rw [tA_len]; omega)]; rfl
theorem krS_inc {l : List Int} {i : Nat} (hi : i < l.length) (hg : good (l.getD i 0)) : ∀ n, n ≤ 21 → krS (tA l (i + 1)) n = krS (tA l i) n + if l.getD i 0 < (n : Int) then 2 ^ (20 - (l.getD i 0).toNat) else 0
  | 0, _ => by
    unfold good at hg
    rw [if_neg (by omega)]; rfl
  | n + 1, hn => by
    have ih := krS_inc hi hg n (by omega)
    unfold good at hg
    rw [krS, krS, ih, tA_inc hi]
    by_cases e : l.getD i 0 = (n : Int)
    · rw [if_neg (show ¬ l.getD i 0 < (n : Int) by omega), if_pos ⟨by omega, e⟩, if_pos (by omega), Int.add_mul, e, Int.toNat_natCast]; omega
    · have hne : ¬ (n < 21 ∧ l.getD i 0 = (n : Int)) := fun h => e h.2
      rw [if_neg hne, Int.add_zero]
      by_cases h : l.getD i 0 < (n : Int)
      · rw [if_pos h, if_pos (by omega)]; omega
      · rw [if_neg h, if_neg (by omega), Int.add_zero, Int.add_zero]
theorem krS_0 (l : List Int) : krS (tA l 0) 21 = 0 := by rw [tA_0]; rfl
theorem krS_1 {l : List Int} {i : Nat} (hi : i < l.length) (hg : good (l.getD i 0)) : krS (tA l i) 21 + 2 ^ (20 - (l.getD i 0).toNat) = krS (tA l (i + 1)) 21 := by
  unfold good at hg
  rw [krS_inc hi hg 21 (by omega), if_pos (by omega)]

theorem snd_len {l : List Int} (h : l.length < 2 ∨ 258 < l.length) : (sndV l).2 = 1 := by rw [sndV, cnt_len h, if_pos rfl]
theorem snd_bad {l : List Int} {i : Nat} (hl : ¬ (l.length < 2 ∨ 258 < l.length)) (hi : i < l.length) (h : ∀ j, j < i → good (l.getD j 0)) (hb : ¬ good (l.getD i 0)) : (sndV l).2 = 1 := by rw [sndV, cnt_bad hl hi h hb, if_pos rfl]
theorem snd_over {l : List Int} (hl : ¬ (l.length < 2 ∨ 258 < l.length)) (h : ∀ j, j < l.length → good (l.getD j 0)) : (sndV l).2 = if 1048576 < krS (tA l l.length) 21 then 6 else 0 := by
  rw [sndV, cnt_ok hl rfl h, if_neg (by simp)]
  simp only
  split <;> rfl
theorem pow_1 {x : Int} (h : good x) : (1 : Int) * 2 ^ (20 - x).toNat = 2 ^ (20 - x.toNat) ∧ 0 ≤ (2 : Int) ^ (20 - x.toNat) ∧ (2 : Int) ^ (20 - x.toNat) ≤ 1048576 := by
  unfold good at h
  have := pow_le x.toNat
  rw [show (20 - x).toNat = 20 - x.toNat by omega, Int.one_mul]
  exact ⟨rfl, by omega, this.2⟩
theorem krT_bd {l : List Int} (h : ∀ j, j < l.length → good (l.getD j 0)) : ∀ i, i ≤ l.length → 0 ≤ krS (tA l i) 21 ∧ krS (tA l i) 21 ≤ 1048576 * i
  | 0, _ => by rw [krS_0]; simp
  | i + 1, hi => by
    have ih := krT_bd h i (by omega)
    have := pow_1 (h i (by omega))
    rw [← krS_1 (by omega) (h i (by omega))]; omega

set_option maxRecDepth 100000 in
set_option maxHeartbeats 1000000 in
theorem rcheck_s (l : List Int) (_hin : In64 l) (hl : l.length ≤ 9223372036854775807) :
    FPure Try.prog 25 [Sl 1 l.length (l.map (Value.int .i64))] (Is (.int .i64 (sndV l).2)) := by
  refine FPure.of Try.func25 Try.ntmps25 rfl (by kernel_rfl) rfl rfl rfl ?_
  refine W_seq ?_
  refine W_regionE (c := 1) (c' := 2) (by kernel_rfl) rfl ?_
  refine Runs_p rfl (Valid.assignk (A := Is _) rfl rfl) rfl rfl ?_
  refine Runs_nil ?_
  refine thenQ_n ?_
  refine W_seq ?_
  refine W_seq ?_
  refine W_regionE (c := 2) (c' := 10) (by kernel_rfl) rfl ?_
  refine Runs_p rfl (Valid.movek (A := Sl 1 _ _) rfl rfl) rfl rfl ?_
  refine Runs_p rfl (Valid.len rfl Try.underlying22 (Reads.sl rfl)) rfl rfl ?_
  refine Runs_p rfl (Valid.lss rfl rfl rfl) rfl rfl ?_
  refine Runs_p rfl (Valid.movek (A := Is _) rfl rfl) rfl rfl ?_
  refine Runs_cnd rfl rfl (Grd.is rfl) [] (fun hg => trivial) (fun hg => Valid.movek (A := Sl 1 _ _) rfl rfl) (by rfl) rfl ?_
  refine Runs_cnd rfl rfl (Grd.is rfl) [(10, _)] (fun hg => ⟨cnd_at rfl (by first | exact hg | exact hg.1 | exact hg.1.1 | exact hg.1.1.1), trivial⟩) (fun hg => Valid.len rfl Try.underlying22 (Reads.sl rfl)) (by rfl) rfl ?_
  refine Runs_cnd rfl rfl (Grd.is rfl) [(11, _)] (fun hg => ⟨cnd_at rfl (by first | exact hg | exact hg.1 | exact hg.1.1 | exact hg.1.1.1), trivial⟩) (fun hg => Valid.gtr rfl rfl rfl) (by rfl) rfl ?_
  refine Runs_p rfl (Valid.pickor rfl rfl rfl rfl (fun h => by first | exact h | exact ⟨hg, h⟩)) rfl rfl ?_
  refine Runs_nil ?_
  refine thenQ_n ?_
  refine W_cond _ rfl (fun hb1 => ?_) (fun hb1 => ?_)
  · try simp only [decide_eq_true_eq, Bool.or_eq_true] at hb1
    all_goals (
      refine W_seq ?_
      refine W_regionE (c := 10) (c' := 11) (by kernel_rfl) rfl ?_
      refine Runs_p rfl (Valid.assignk (A := Is _) rfl rfl) rfl rfl ?_
      refine Runs_nil ?_
      refine thenQ_n ?_
      refine W_ret ?_
      refine thenQ_r ?_
      refine finQ_r ?_
      refine ResOk.one rfl (RVal.is rfl rfl (by first | (rw [snd_len (by omega)]; done) | (rw [snd_bad (by omega) (by omega) hI1.2 (fun h => by unfold good at h; omega)]; done) | (rw [snd_over hlb hgd, show l.length = q by omega, if_pos (by assumption)]; done) | (rw [snd_over hlb hgd, show l.length = q by omega, if_neg (by assumption)]; done)))
      done)
  · try simp only [decide_eq_false_iff_not, Bool.or_eq_false_iff] at hb1
    all_goals (
      refine W_skip ?_
      refine thenQ_n ?_
      refine W_seq ?_
      refine W_seq ?_
      refine W_regionE (c := 10) (c' := 11) (by kernel_rfl) rfl ?_
      refine Runs_p rfl (Valid.assignk (A := Is _) rfl rfl) rfl rfl ?_
      refine Runs_nil ?_
      refine thenQ_n ?_
      refine W_block ?_
      refine W_loopx (G := Nat) (fun (i : Nat) => i ≤ l.length ∧ ∀ j, j < i → good (l.getD j 0)) [(0, Sl 1 _ _)] (fun (i : Nat) => [(3, Is (.int .i64 (i : Int)))]) [] (fun (i : Nat) => []) 11 (fun (i : Nat) => l.length - i) (0) [] (⟨Nat.zero_le _, fun j hj => absurd hj (Nat.not_lt_zero _)⟩) ⟨⟨(leq_is rfl rfl (by first | rfl | (simp; done) | omega | (simp [toNat_add, toNat_add1, Nat.add_assoc]; done) | (simp [toNat_add, toNat_add1]; omega))), trivial⟩, ⟨(leq_sl (Reads.sl rfl) rfl rfl rfl), trivial⟩, trivial, trivial, rfl, ⟨supg rfl, trivial⟩, ⟨supg rfl, trivial⟩, trivial, trivial, rfl, rfl⟩ ?_
      intro i hI1
      refine W_seq ?_
      refine W_seq ?_
      refine W_regionE (c := 11) (c' := 15) (by kernel_rfl) rfl ?_
      refine Runs_p rfl (Valid.movek (A := Is _) rfl rfl) rfl rfl ?_
      refine Runs_p rfl (Valid.movek (A := Sl 1 _ _) rfl rfl) rfl rfl ?_
      refine Runs_p rfl (Valid.len rfl Try.underlying22 (Reads.sl rfl)) rfl rfl ?_
      refine Runs_p rfl (Valid.lss rfl rfl rfl) rfl rfl ?_
      refine Runs_nil ?_
      refine thenQ_n ?_
      refine W_cond _ rfl (fun hb2 => ?_) (fun hb2 => ?_)
      · try simp only [decide_eq_true_eq] at hb2
        all_goals (
          refine W_skip ?_
          refine thenQ_n ?_
          refine W_seq ?_
          refine W_block ?_
          refine W_seq ?_
          refine W_regionE (c := 15) (c' := 27) (by kernel_rfl) rfl ?_
          refine Runs_p rfl (Valid.movek (A := Sl 1 _ _) rfl rfl) rfl rfl ?_
          refine Runs_p rfl (Valid.movek (A := Is _) rfl rfl) rfl rfl ?_
          refine Runs_p rfl (Valid.eltaddr1 0 rfl Try.underlying22 sz3 (Reads.sl rfl) rfl (by omega) rfl) rfl rfl ?_
          refine Runs_p rfl (Valid.loadelt rfl ag3 rfl) rfl rfl ?_
          refine Runs_p rfl (Valid.lss rfl rfl rfl) rfl rfl ?_
          refine Runs_p rfl (Valid.movek (A := Is _) rfl rfl) rfl rfl ?_
          refine Runs_cnd rfl rfl (Grd.is rfl) [] (fun hg => trivial) (fun hg => Valid.movek (A := Sl 1 _ _) rfl rfl) (by rfl) rfl ?_
          refine Runs_cnd rfl rfl (Grd.is rfl) [] (fun hg => trivial) (fun hg => Valid.movek (A := Is _) rfl rfl) (by rfl) rfl ?_
          refine Runs_cnd rfl rfl (Grd.is rfl) [(26, _), (27, _)] (fun hg => ⟨cnd_at rfl (by first | exact hg | exact hg.1 | exact hg.1.1 | exact hg.1.1.1), cnd_at rfl (by first | exact hg | exact hg.1 | exact hg.1.1 | exact hg.1.1.1), trivial⟩) (fun hg => Valid.eltaddr1 0 rfl Try.underlying22 sz3 (Reads.sl rfl) rfl (by (try simp only [Int.toNat_natCast, decide_eq_false_iff_not] at hg); first | omega | (simp only [Int.toNat_natCast, toNat_add, toNat_add1, List.length_append, List.length_cons, List.length_nil, List.length_replicate]; omega)) rfl) (by rfl) rfl ?_
          refine Runs_cnd rfl rfl (Grd.is rfl) [(28, _)] (fun hg => ⟨cnd_at rfl (by first | exact hg | exact hg.1 | exact hg.1.1 | exact hg.1.1.1), trivial⟩) (fun hg => Valid.loadelt rfl ag3 rfl) (by rfl) rfl ?_
          refine Runs_cnd rfl rfl (Grd.is rfl) [(29, _)] (fun hg => ⟨cnd_at rfl (by first | exact hg | exact hg.1 | exact hg.1.1 | exact hg.1.1.1), trivial⟩) (fun hg => Valid.gtr rfl rfl rfl) (by rfl) rfl ?_
          refine Runs_p rfl (Valid.pickor rfl rfl rfl rfl (fun h => by first | exact h | exact ⟨hg, h⟩)) rfl rfl ?_
          refine Runs_nil ?_
          refine thenQ_n ?_
          refine W_cond _ rfl (fun hb3 => ?_) (fun hb3 => ?_)
          · try simp only [Int.toNat_natCast, decide_eq_true_eq, Bool.or_eq_true] at hb3
            all_goals (
              refine W_seq ?_
              refine W_regionE (c := 27) (c' := 28) (by kernel_rfl) rfl ?_
              refine Runs_p rfl (Valid.assignk (A := Is _) rfl rfl) rfl rfl ?_
              refine Runs_nil ?_
              refine thenQ_n ?_
              refine W_ret ?_
              refine blockQ_r ?_
              refine thenQ_r ?_
              refine loopQ_r ?_
              refine blockQ_r ?_
              refine thenQ_r ?_
              refine finQ_r ?_
              refine ResOk.one rfl (RVal.is rfl rfl (by first | (rw [snd_len (by omega)]; done) | (rw [snd_bad (by omega) (by omega) hI1.2 (fun h => by unfold good at h; omega)]; done) | (rw [snd_over hlb hgd, show l.length = q by omega, if_pos (by assumption)]; done) | (rw [snd_over hlb hgd, show l.length = q by omega, if_neg (by assumption)]; done)))
              done)
          · try simp only [Int.toNat_natCast, decide_eq_false_iff_not, Bool.or_eq_false_iff] at hb3
            all_goals (
              refine W_skip ?_
              refine blockQ_n ?_
              refine thenQ_n ?_
              refine W_regionE (c := 27) (c' := 30) (by kernel_rfl) rfl ?_
              refine Runs_p rfl (Valid.movek (A := Is _) rfl rfl) rfl rfl ?_
              refine Runs_p rfl (Valid.add rfl rfl rfl (room64 (by omega) (by omega))) rfl rfl ?_
              refine Runs_p rfl (Valid.assignk (A := Is _) rfl rfl) rfl rfl ?_
              refine Runs_nil ?_
              refine LoopQ.next (i + 1) [] (⟨by omega, fun j hj => by by_cases e : j = i; (· subst e; exact ⟨by omega, by omega⟩); (· exact hI1.2 j (by omega))⟩) (by omega) ⟨⟨(leq_is rfl rfl (by first | rfl | (simp; done) | omega | (simp [toNat_add, toNat_add1, Nat.add_assoc]; done) | (simp [toNat_add, toNat_add1]; omega))), trivial⟩, ⟨(leq_sl (Reads.sl rfl) rfl rfl rfl), trivial⟩, trivial, trivial, rfl, ⟨supg rfl, trivial⟩, ⟨supg rfl, trivial⟩, trivial, trivial, rfl, rfl⟩
              done)
          done)
      · try simp only [decide_eq_false_iff_not] at hb2
        all_goals (
          refine W_exit ?_
          refine thenQ_e ?_
          refine loopQ_e ?_
          refine blockQ_x ?_
          refine thenQ_n ?_
          refine W_seq ?_
          have hgd : ∀ j, j < l.length → good (l.getD j 0) := fun j hj => hI1.2 j (by omega)
          have hlb : ¬ (l.length < 2 ∨ 258 < l.length) := by omega
          refine W_regionE (c := 15) (c' := 16) (by kernel_rfl) rfl ?_
          refine Runs_p rfl (Valid.assignk (A := Is _) rfl rfl) rfl rfl ?_
          refine Runs_nil ?_
          refine thenQ_n ?_
          refine W_seq ?_
          refine W_seq ?_
          refine W_regionE (c := 16) (c' := 17) (by kernel_rfl) rfl ?_
          refine Runs_p rfl (Valid.assignk (A := Is _) rfl rfl) rfl rfl ?_
          refine Runs_nil ?_
          refine thenQ_n ?_
          refine W_block ?_
          refine W_loopx (G := Nat) (fun (q : Nat) => q ≤ l.length) [(0, Sl 1 _ _)] (fun (q : Nat) => [(5, Is (.int .i64 (q : Int))), (4, Is (.int .i64 (krS (tA l q) 21)))]) [] (fun (q : Nat) => []) 17 (fun (q : Nat) => l.length - q) (0) [] (by first | trivial | omega | (simp; omega)) ⟨⟨(leq_is rfl rfl (by first | (rw [krS_0]; done) | rfl)), (leq_is rfl rfl (by first | (rw [krS_0]; done) | rfl)), trivial⟩, ⟨(leq_sl (Reads.sl rfl) rfl rfl rfl), trivial⟩, trivial, trivial, rfl, ⟨supg rfl, supg rfl, trivial⟩, ⟨supg rfl, trivial⟩, trivial, trivial, rfl, rfl⟩ ?_
          intro q hI2
          have hkb := krT_bd hgd q hI2
          refine W_seq ?_
          refine W_seq ?_
          refine W_regionE (c := 17) (c' := 21) (by kernel_rfl) rfl ?_
          refine Runs_p rfl (Valid.movek (A := Is _) rfl rfl) rfl rfl ?_
          refine Runs_p rfl (Valid.movek (A := Sl 1 _ _) rfl rfl) rfl rfl ?_
          refine Runs_p rfl (Valid.len rfl Try.underlying22 (Reads.sl rfl)) rfl rfl ?_
          refine Runs_p rfl (Valid.lss rfl rfl rfl) rfl rfl ?_
          refine Runs_nil ?_
          refine thenQ_n ?_
          refine W_cond _ rfl (fun hb4 => ?_) (fun hb4 => ?_)
          · try simp only [decide_eq_true_eq] at hb4
            all_goals (
              refine W_skip ?_
              refine thenQ_n ?_
              refine W_seq ?_
              refine W_block ?_
              have hgi := hgd q (by omega)
              have hpw := pow_1 (x := l.getD (q : Int).toNat 0) hgi
              have hgj : 1 ≤ l.getD (q : Int).toNat 0 ∧ l.getD (q : Int).toNat 0 ≤ 20 := hgi
              have hpn : (2 : Int) ^ (20 - (l.getD (q : Int).toNat 0).toNat) = 2 ^ (20 - (l.getD q 0).toNat) := rfl
              refine W_regionE (c := 21) (c' := 30) (by kernel_rfl) rfl ?_
              refine Runs_p rfl (Valid.movek (A := Is _) rfl rfl) rfl rfl ?_
              refine Runs_p rfl (Valid.movek (A := Sl 1 _ _) rfl rfl) rfl rfl ?_
              refine Runs_p rfl (Valid.movek (A := Is _) rfl rfl) rfl rfl ?_
              refine Runs_p rfl (Valid.eltaddr1 0 rfl Try.underlying22 sz3 (Reads.sl rfl) rfl (by omega) rfl) rfl rfl ?_
              refine Runs_p rfl (Valid.loadelt rfl ag3 rfl) rfl rfl ?_
              refine Runs_p rfl (Valid.sub rfl rfl rfl (room64 (by omega) (by omega))) rfl rfl ?_
              refine Runs_p rfl (Valid.shl rfl rfl rfl (by first | omega | (simp only [Int.toNat_natCast]; omega)) (by show (20 - l.getD (q : Int).toNat 0).toNat ≤ 64; omega) (by unfold Room; rw [IntKind.wrap_i64]; omega)) rfl rfl ?_
              refine Runs_p rfl (Valid.add rfl rfl rfl (room64 (by omega) (by omega))) rfl rfl ?_
              refine Runs_p rfl (Valid.assignk (A := Is _) rfl rfl) rfl rfl ?_
              refine Runs_nil ?_
              refine blockQ_n ?_
              refine thenQ_n ?_
              refine W_regionE (c := 30) (c' := 33) (by kernel_rfl) rfl ?_
              refine Runs_p rfl (Valid.movek (A := Is _) rfl rfl) rfl rfl ?_
              refine Runs_p rfl (Valid.add rfl rfl rfl (room64 (by omega) (by omega))) rfl rfl ?_
              refine Runs_p rfl (Valid.assignk (A := Is _) rfl rfl) rfl rfl ?_
              refine Runs_nil ?_
              refine LoopQ.next (q + 1) [] (by omega) (by omega) ⟨⟨(leq_is rfl rfl (by first | rfl | exact congrArg (Value.int .i64) (by rw [← krS_1 (by omega) hgi, hpw.1, hpn]))), (leq_is rfl rfl (by first | rfl | exact congrArg (Value.int .i64) (by rw [← krS_1 (by omega) hgi, hpw.1, hpn]))), trivial⟩, ⟨(leq_sl (Reads.sl rfl) rfl rfl rfl), trivial⟩, trivial, trivial, rfl, ⟨supg rfl, supg rfl, trivial⟩, ⟨supg rfl, trivial⟩, trivial, trivial, rfl, rfl⟩
              done)
          · try simp only [decide_eq_false_iff_not] at hb4
            all_goals (
              refine W_exit ?_
              refine thenQ_e ?_
              refine loopQ_e ?_
              refine blockQ_x ?_
              refine thenQ_n ?_
              refine W_seq ?_
              refine W_seq ?_
              refine W_regionE (c := 21) (c' := 23) (by kernel_rfl) rfl ?_
              refine Runs_p rfl (Valid.movek (A := Is _) rfl rfl) rfl rfl ?_
              refine Runs_p rfl (Valid.gtr rfl rfl rfl) rfl rfl ?_
              refine Runs_nil ?_
              refine thenQ_n ?_
              refine W_cond _ rfl (fun hb5 => ?_) (fun hb5 => ?_)
              · try simp only [decide_eq_true_eq] at hb5
                all_goals (
                  refine W_seq ?_
                  refine W_regionE (c := 23) (c' := 24) (by kernel_rfl) rfl ?_
                  refine Runs_p rfl (Valid.assignk (A := Is _) rfl rfl) rfl rfl ?_
                  refine Runs_nil ?_
                  refine thenQ_n ?_
                  refine W_ret ?_
                  refine thenQ_r ?_
                  refine finQ_r ?_
                  refine ResOk.one rfl (RVal.is rfl rfl (by first | (rw [snd_len (by omega)]; done) | (rw [snd_bad (by omega) (by omega) hI1.2 (fun h => by unfold good at h; omega)]; done) | (rw [snd_over hlb hgd, show l.length = q by omega, if_pos (by assumption)]; done) | (rw [snd_over hlb hgd, show l.length = q by omega, if_neg (by assumption)]; done)))
                  done)
              · try simp only [decide_eq_false_iff_not] at hb5
                all_goals (
                  refine W_skip ?_
                  refine thenQ_n ?_
                  refine W_seq ?_
                  refine W_regionE (c := 23) (c' := 24) (by kernel_rfl) rfl ?_
                  refine Runs_p rfl (Valid.assignk (A := Is _) rfl rfl) rfl rfl ?_
                  refine Runs_nil ?_
                  refine thenQ_n ?_
                  refine W_ret ?_
                  refine finQ_r ?_
                  refine ResOk.one rfl (RVal.is rfl rfl (by first | (rw [snd_len (by omega)]; done) | (rw [snd_bad (by omega) (by omega) hI1.2 (fun h => by unfold good at h; omega)]; done) | (rw [snd_over hlb hgd, show l.length = q by omega, if_pos (by assumption)]; done) | (rw [snd_over hlb hgd, show l.length = q by omega, if_neg (by assumption)]; done)))
                  done)
              done)
          done)
      done)
end Oi
end Go.Proofs.Ytdcenocljnlipaa
