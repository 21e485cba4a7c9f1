/-
  WALKS of stage 10: the law WeighTells.
-/
import Derived.Test.YtidbnpbccpmjlaaRows
import Derived.Test.YtidbnpbccpmjlaaMgc
import Derived.Test.YtidbnpbccpmjlaaWa
import Derived.Test.YtidbnpbccpmjlaaWb
import Derived.Test.YtidbnpbccpmjlaaWm
import Derived.Test.YtidbnpbccpmjlaaWc
import Derived.Test.YtidbnpbccpmjlaaWd
import Derived.Test.YtidbnpbccpmjlaaWe
import Derived.Test.YtidbnpbccpmjlaaWf
import Derived.Test.YtidbnpbccpmjlaaWg
import Derived.Test.YtidbnpbccpmjlaaOa
import Derived.Test.YtidbnpbccpmjlaaOb
import Derived.Test.YtidbnpbccpmjlaaOc
import Derived.Test.YtidbnpbccpmjlaaOd
import Derived.Test.YtidbnpbccpmjlaaOf
import Derived.Test.YtidbnpbccpmjlaaOi
import Derived.Test.YtidbnpbccpmjlaaWh
import Derived.Test.YtidbnpbccpmjlaaCm
import Derived.Test.YtidbnpbccpmjlaaWi
import Derived.Test.YtidbnpbccpmjlaaWk
import Derived.Test.YtidbnpbccpmjlaaWu
namespace Go.Proofs.Ytidbnpbccpmjlaa
open Go.RowKit
namespace Wv
open Ab Wa Wb Wm Wc Wd We Wf Wg Oa Ob Oc Od Of Oi Wh Cm Wi Wk Wu
theorem ag22 (w : World) : (isAgg 22).run Try.prog w = .ok false w := by kernel_rfl
theorem ag3 (w : World) : (isAgg 3).run Try.prog w = .ok false w := by kernel_rfl
theorem sz22 (w : World) : (sizeOf 22).run Try.prog w = .ok 1 w := by kernel_rfl
theorem sz3 (w : World) : (sizeOf 3).run Try.prog w = .ok 1 w := by kernel_rfl
def twoN (a b : Int) : List Int := [a, b]
def twoI (l m : List Int) : Nat → List Int
  | 0 => l
  | _ => m
theorem twoI_len (l m : List Int) (hl : l.length ≤ 300) (hm : m.length ≤ 300) : ∀ k, (twoI l m k).length ≤ 300
  | 0 => hl
  | _ + 1 => hm
def threeI (l m o : List Int) : Nat → List Int
  | 0 => l
  | 1 => m
  | _ => o
theorem threeI_len (l m o : List Int) (hl : l.length ≤ 300) (hm : m.length ≤ 300) (ho : o.length ≤ 300) : ∀ k, (threeI l m o k).length ≤ 300
  | 0 => hl
  | 1 => hm
  | _ + 2 => ho
theorem lenW_len {w : List Int} {most : Int} (h2 : 2 ≤ w.length) (hl : w.length ≤ 258) (hm : 9 ≤ most) : (lenW w most).length = w.length := by
  obtain ⟨v, v1, v2, v3, _⟩ := lenW_is h2 hl hm
  rw [v3, joinV_len (by omega)]; exact v2
theorem lnV_len (w : List Int) (most : Int) : (lnV w most).1.length ≤ 258 := by
  unfold lnV
  split
  · rename_i h
    obtain ⟨h1, h2, h3, _⟩ := h
    have := lenW_len h1 h2 h3
    show (lenW w most).length ≤ 258
    omega
  · simp

set_option maxRecDepth 100000 in
set_option maxHeartbeats 1000000 in
theorem tells_w (so : List Int) (_hso : In64 so) (lso : so.length ≤ 9223372036854775807) (raw : List Int) (hraw : In64 raw) (lraw : raw.length ≤ 9223372036854775807) (most : Int) (wmost : -9223372036854775808 ≤ most ∧ most ≤ 9223372036854775807) (lens : List Int) (_hlens : In64 lens) (llens : lens.length ≤ 9223372036854775807) :
    FPure Try.prog 3 [Sl 1 so.length (so.map (Value.int .i64)), Sl 1 raw.length (raw.map (Value.int .i64)), Is (.int .i64 (most : Int)), Sl 1 lens.length (lens.map (Value.int .i64))] (Is (.bool true)) := by
  refine FPure.of Try.func3 Try.ntmps3 rfl (by kernel_rfl) rfl rfl rfl ?_
  refine W_seq ?_
  refine W_regionE (c := 1) (c' := 2) (by kernel_rfl) rfl ?_
  refine Runs_p rfl (Valid.assignk (A := Is _) rfl rfl) rfl rfl ?_ -- law.go:47 assign
  refine Runs_nil ?_
  refine thenQ_n ?_
  refine W_seq ?_
  refine W_regionE (c := 2) (c' := 4) (by kernel_rfl) rfl ?_
  refine Runs_p rfl (Valid.call rfl (awake10_s) trivial) rfl rfl ?_ -- law.go:48 call
  refine Runs_p rfl (Valid.assignk (A := Is _) rfl rfl) rfl rfl ?_ -- law.go:48 assign
  refine Runs_nil ?_
  refine thenQ_n ?_
  refine W_seq ?_
  refine W_regionE (c := 4) (c' := 7) (by kernel_rfl) rfl ?_
  refine Runs_p rfl (Valid.movek (A := Sl 1 _ _) rfl rfl) rfl rfl ?_ -- law.go:49 move
  refine Runs_p rfl (Valid.call rfl (weights_s _ 60 (by assumption) (by omega) (by decide)) ⟨argle_sl (Reads.sl rfl), argle rfl, trivial⟩) rfl rfl ?_ -- law.go:49 call
  refine Runs_p rfl (Valid.assignk (A := Sl 1 _ _) rfl rfl) rfl rfl ?_ -- law.go:49 assign
  refine Runs_nil ?_
  refine thenQ_n ?_
  refine W_seq ?_
  refine W_seq ?_
  obtain ⟨hw2, hw60⟩ := wns_len raw 60
  generalize wns raw 60 = own at *
  have hml : (so.take (min (so.length : Int) 300).toNat).length ≤ 300 := by rw [List.length_take]; omega
  have hll : (lens.take (min (lens.length : Int) 60).toNat).length ≤ 300 := by rw [List.length_take]; omega
  have hpm := pickV_range most 16 (by decide)
  refine W_regionE (c := 7) (c' := 16) (by kernel_rfl) rfl ?_
  refine Runs_p rfl (Valid.movek (A := Sl 1 _ _) rfl rfl) rfl rfl ?_ -- law.go:50 move
  refine Runs_p rfl (Valid.movek (A := Sl 1 _ _) rfl rfl) rfl rfl ?_ -- law.go:50 move
  refine Runs_p rfl (Valid.len rfl Try.underlying22 (Reads.sl rfl)) rfl rfl ?_ -- law.go:50 call
  refine Runs_p rfl (Valid.min rfl rfl rfl) rfl rfl ?_ -- law.go:50 call
  refine Runs_p rfl (Valid.sliceto1 rfl Try.underlying22 sz3 (Reads.sl rfl) rfl (by refine ⟨?_, ?_⟩ <;> omega)) rfl rfl ?_ -- law.go:50 slice
  refine Runs_p rfl (Valid.movek (A := Sl 1 _ _) rfl rfl) rfl rfl ?_ -- law.go:50 move
  refine Runs_p rfl (Valid.litS2 (el := 22) (twoI (so.take (min (so.length : Int) 300).toNat) own) rfl (Reads.sl rfl) (Reads.sl rfl) (by first | rfl | (show _ = (List.take _ _).length; rw [List.length_take]; omega)) (by first | rfl | (show _ = (List.take _ _).length; rw [List.length_take]; omega)) (by first | rfl | (show _ = (List.take _ _).length; rw [List.length_take]; omega)) (by first | rfl | (show _ = (List.take _ _).length; rw [List.length_take]; omega)) (fun _ _ _ _ _ _ _ => by kernel_rfl)) rfl rfl ?_ -- law.go:50 buildSlice
  refine Runs_p rfl (Valid.lenS rfl Try.underlying25 rfl) rfl rfl ?_ -- law.go:50 call
  refine Runs_p rfl (Valid.movek (A := Is _) rfl rfl) rfl rfl ?_ -- law.go:50 move
  refine Runs_nil ?_
  refine thenQ_n ?_
  refine W_block ?_
  refine W_loopx (G := Nat) (fun (k : Nat) => k ≤ 2) [(2, Is _), (3, Sl 1 _ _), (9, Is _), (10, Sl 1 _ _), (34, SlS 2 _), (35, Is _)] (fun (k : Nat) => [(36, Is (.int .i64 (k : Int)))]) [] (fun (k : Nat) => []) 16 (fun (k : Nat) => 2 - k) (0) [] (by first | trivial | omega | (simp; omega)) ⟨⟨(leq_is rfl rfl (by first | rfl)), trivial⟩, ⟨(leq_is rfl rfl rfl), (leq_sl (Reads.sl rfl) rfl rfl rfl), (leq_is rfl rfl rfl), (leq_sl (Reads.sl rfl) rfl rfl rfl), (leq_sls rfl rfl), (leq_is rfl rfl rfl), trivial⟩, trivial, trivial, rfl, ⟨supg rfl, trivial⟩, ⟨supg rfl, supg rfl, supg rfl, supg rfl, supg rfl, supg rfl, trivial⟩, trivial, trivial, rfl, rfl⟩ ?_
  intro k hI1
  refine W_seq ?_
  refine W_regionE (c := 16) (c' := 17) (by kernel_rfl) rfl ?_
  refine Runs_p rfl (Valid.lss rfl rfl rfl) rfl rfl ?_ -- law.go:50 binOp
  refine Runs_nil ?_
  refine thenQ_n ?_
  refine W_seq ?_
  refine W_cond _ rfl (fun hb1 => ?_) (fun hb1 => ?_)
  · try simp only [decide_eq_true_eq] at hb1
    all_goals (
      refine W_skip ?_
      refine thenQ_n ?_
      refine W_seq ?_
      refine W_block ?_
      refine W_seq ?_
      refine W_regionE (c := 17) (c' := 20) (by kernel_rfl) rfl ?_
      refine Runs_p rfl (Valid.eltS rfl Try.underlying25 sz22 rfl rfl (by first | omega | (simp only [Int.toNat_natCast, toNat_add, toNat_add1, List.length_append, List.length_cons, List.length_nil, List.length_replicate]; omega))) rfl rfl ?_ -- law.go:50 indexAddr
      refine Runs_p rfl (Valid.loadS rfl ag22 rfl) rfl rfl ?_ -- law.go:50 load
      refine Runs_p rfl (Valid.assignk (A := Sl 1 _ _) rfl rfl) rfl rfl ?_ -- law.go:50 assign
      refine Runs_nil ?_
      refine thenQ_n ?_
      refine W_seq ?_
      refine W_seq ?_
      have hm := twoI_len _ _ hml (show own.length ≤ 300 by omega) (k : Int).toNat
      generalize twoI (so.take (min (so.length : Int) 300).toNat) own (k : Int).toNat = w at *
      refine W_regionE (c := 20) (c' := 27) (by kernel_rfl) rfl ?_
      refine Runs_p rfl (Valid.movek (A := Is _) rfl rfl) rfl rfl ?_ -- law.go:51 move
      refine Runs_p rfl (Valid.movek (A := Is _) rfl rfl) rfl rfl ?_ -- law.go:51 move
      refine Runs_p rfl (Valid.call rfl (pick10_s _ _ wmost.1 wmost.2 (by decide) (by decide)) ⟨argle rfl, argle rfl, trivial⟩) rfl rfl ?_ -- law.go:51 call
      refine Runs_p rfl (Valid.add rfl rfl rfl (room64 (by first | omega | (simp only [Int.toNat_natCast, toNat_add, toNat_add1, List.length_append, List.length_cons, List.length_nil, List.length_replicate]; omega)) (by first | omega | (simp only [Int.toNat_natCast, toNat_add, toNat_add1, List.length_append, List.length_cons, List.length_nil, List.length_replicate]; omega)))) rfl rfl ?_ -- law.go:51 binOp
      refine Runs_p rfl (Valid.lit (el := 3) ((twoN most (7 + pickV most 16)).map (Value.int .i64)) rfl rfl (fun _ => by kernel_rfl) rfl (by decide)) rfl rfl ?_ -- law.go:51 buildSlice
      refine Runs_p rfl (Valid.len rfl Try.underlying22 (Reads.sl rfl)) rfl rfl ?_ -- law.go:51 call
      refine Runs_p rfl (Valid.movek (A := Is _) rfl rfl) rfl rfl ?_ -- law.go:51 move
      refine Runs_nil ?_
      refine thenQ_n ?_
      refine W_block ?_
      refine W_loopx (G := Nat) (fun (q : Nat) => q ≤ 2) [(2, Is _), (3, Sl 1 _ _), (9, Is _), (10, Sl 1 _ _), (12, Sl 1 _ _), (34, SlS 2 _), (35, Is _), (36, Is _), (44, Sl 1 2 ((twoN most (7 + pickV most 16)).map (Value.int .i64))), (45, Is _)] (fun (q : Nat) => [(46, Is (.int .i64 (q : Int)))]) [] (fun (q : Nat) => []) 27 (fun (q : Nat) => 2 - q) (0) [] (by first | trivial | omega | (simp; omega)) ⟨⟨(leq_is rfl rfl (by first | rfl)), trivial⟩, ⟨(leq_is rfl rfl rfl), (leq_sl (Reads.sl rfl) rfl rfl rfl), (leq_is rfl rfl rfl), (leq_sl (Reads.sl rfl) rfl rfl rfl), (leq_sl (Reads.sl rfl) rfl rfl rfl), (leq_sls rfl rfl), (leq_is rfl rfl rfl), (leq_is rfl rfl rfl), (leq_sl (Reads.sl rfl) rfl rfl rfl), (leq_is rfl rfl rfl), trivial⟩, trivial, trivial, rfl, ⟨supg rfl, trivial⟩, ⟨supg rfl, supg rfl, supg rfl, supg rfl, supg rfl, supg rfl, supg rfl, supg rfl, supg rfl, supg rfl, trivial⟩, trivial, trivial, rfl, rfl⟩ ?_
      intro q hI2
      refine W_seq ?_
      refine W_regionE (c := 27) (c' := 28) (by kernel_rfl) rfl ?_
      refine Runs_p rfl (Valid.lss rfl rfl rfl) rfl rfl ?_ -- law.go:51 binOp
      refine Runs_nil ?_
      refine thenQ_n ?_
      refine W_seq ?_
      refine W_cond _ rfl (fun hb2 => ?_) (fun hb2 => ?_)
      · try simp only [decide_eq_true_eq] at hb2
        all_goals (
          refine W_skip ?_
          refine thenQ_n ?_
          refine W_seq ?_
          refine W_block ?_
          refine W_seq ?_
          refine W_regionE (c := 28) (c' := 31) (by kernel_rfl) rfl ?_
          refine Runs_p rfl (Valid.eltaddr1 0 rfl Try.underlying22 sz3 (Reads.sl rfl) rfl (by first | omega | (simp only [Int.toNat_natCast, toNat_add, toNat_add1, List.length_append, List.length_cons, List.length_nil, List.length_replicate]; omega)) (by first | rfl | simp)) rfl rfl ?_ -- law.go:51 indexAddr
          refine Runs_p rfl (Valid.loadelt rfl ag3 rfl) rfl rfl ?_ -- law.go:51 load
          refine Runs_p rfl (Valid.assignk (A := Is _) rfl rfl) rfl rfl ?_ -- law.go:51 assign
          refine Runs_nil ?_
          refine thenQ_n ?_
          refine W_seq ?_
          generalize (twoN most (7 + pickV most 16)).getD (q : Int).toNat 0 = m at *
          have hlm := lnV_len w m
          refine W_regionE (c := 31) (c' := 39) (by kernel_rfl) rfl ?_
          refine Runs_p rfl (Valid.movek (A := Sl 1 _ _) rfl rfl) rfl rfl ?_ -- law.go:52 move
          refine Runs_p rfl (Valid.movek (A := Is _) rfl rfl) rfl rfl ?_ -- law.go:52 move
          refine Runs_p rfl (Valid.call rfl (lengths_s _ _ (by omega)) ⟨argle_sl (Reads.sl rfl), argle rfl, trivial⟩) rfl rfl ?_ -- law.go:52 call
          refine Runs_p rfl (Valid.movek (A := Tup [Sl 1 _ _, Is _]) rfl rfl) rfl rfl ?_ -- law.go:52 move
          refine Runs_p rfl (Valid.extract _ rfl rfl rfl) rfl rfl ?_ -- law.go:52 extract
          refine Runs_p rfl (Valid.extract _ rfl rfl rfl) rfl rfl ?_ -- law.go:52 extract
          refine Runs_p rfl (Valid.assignk (A := Sl 1 _ _) rfl rfl) rfl rfl ?_ -- law.go:52 assign
          refine Runs_p rfl (Valid.assignk (A := Is _) rfl rfl) rfl rfl ?_ -- law.go:52 assign
          refine Runs_nil ?_
          refine thenQ_n ?_
          refine W_seq ?_
          refine W_regionE (c := 39) (c' := 47) (by kernel_rfl) rfl ?_
          refine Runs_p rfl (Valid.movek (A := Sl 1 _ _) rfl rfl) rfl rfl ?_ -- law.go:53 move
          refine Runs_p rfl (Valid.movek (A := Is _) rfl rfl) rfl rfl ?_ -- law.go:53 move
          refine Runs_p rfl (Valid.call rfl (rlengths_s _ _ (by omega)) ⟨argle_sl (Reads.sl rfl), argle rfl, trivial⟩) rfl rfl ?_ -- law.go:53 call
          refine Runs_p rfl (Valid.movek (A := Tup [Sl 1 _ _, Is _]) rfl rfl) rfl rfl ?_ -- law.go:53 move
          refine Runs_p rfl (Valid.extract _ rfl rfl rfl) rfl rfl ?_ -- law.go:53 extract
          refine Runs_p rfl (Valid.extract _ rfl rfl rfl) rfl rfl ?_ -- law.go:53 extract
          refine Runs_p rfl (Valid.assignk (A := Sl 1 _ _) rfl rfl) rfl rfl ?_ -- law.go:53 assign
          refine Runs_p rfl (Valid.assignk (A := Is _) rfl rfl) rfl rfl ?_ -- law.go:53 assign
          refine Runs_nil ?_
          refine thenQ_n ?_
          refine W_seq ?_
          refine W_regionE (c := 47) (c' := 56) (by kernel_rfl) rfl ?_
          refine Runs_p rfl (Valid.movek (A := Is _) rfl rfl) rfl rfl ?_ -- law.go:54 move
          refine Runs_p rfl (Valid.movek (A := Is _) rfl rfl) rfl rfl ?_ -- law.go:54 move
          refine Runs_p rfl (Valid.neq rfl rfl rfl) rfl rfl ?_ -- law.go:54 binOp
          refine Runs_p rfl (Valid.movek (A := Is _) rfl rfl) rfl rfl ?_ -- law.go:54 move
          refine Runs_cnd rfl rfl (Grd.is rfl) [] (fun hg => trivial) (fun hg => Valid.movek (A := Sl 1 _ _) rfl rfl) (by rfl) rfl ?_
          refine Runs_cnd rfl rfl (Grd.is rfl) [] (fun hg => trivial) (fun hg => Valid.movek (A := Sl 1 _ _) rfl rfl) (by rfl) rfl ?_
          refine Runs_cnd rfl rfl (Grd.is rfl) [(66, _), (67, _)] (fun hg => ⟨cnd_at rfl (by first | exact hg | exact hg.1 | exact hg.1.1 | exact hg.1.1.1), cnd_at rfl (by first | exact hg | exact hg.1 | exact hg.1.1 | exact hg.1.1.1), trivial⟩) (fun hg => Valid.call rfl (ksame (lnV w m).1 (by (try simp only [decide_eq_false_iff_not, not_true_eq_false, not_false_eq_true, ne_eq] at hg); omega)) ⟨argle_sl (Reads.sl rfl), argle_sl (Reads.sl rfl), trivial⟩) (by rfl) rfl ?_
          refine Runs_cnd rfl rfl (Grd.is rfl) [(68, _)] (fun hg => ⟨cnd_at rfl (by first | exact hg | exact hg.1 | exact hg.1.1 | exact hg.1.1.1), trivial⟩) (fun hg => Valid.not rfl rfl) (by rfl) rfl ?_
          refine Runs_p rfl (Valid.pickor rfl rfl rfl rfl (fun h => by first | exact h | exact ⟨hg, h⟩)) rfl rfl ?_ -- law.go:54 pick
          refine Runs_nil ?_
          refine thenQ_n ?_
          refine W_cond _ rfl (fun hb3 => ?_) (fun hb3 => ?_)
          · try simp only [decide_eq_true_eq, Bool.or_eq_true, Bool.not_eq_true', Bool.true_eq_false, not_true_eq_false, ne_eq] at hb3
            all_goals (
              refine W_seq ?_
              refine W_regionE (c := 56) (c' := 57) (by kernel_rfl) rfl ?_
              refine Runs_p rfl (Valid.assignk (A := Is _) rfl rfl) rfl rfl ?_ -- law.go:55 assign
              refine Runs_nil ?_
              refine thenQ_n ?_
              refine W_ret ?_
              refine blockQ_r ?_
              refine thenQ_r ?_
              refine loopQ_r ?_
              refine blockQ_r ?_
              refine thenQ_r ?_
              refine blockQ_r ?_
              refine thenQ_r ?_
              refine loopQ_r ?_
              refine blockQ_r ?_
              refine thenQ_r ?_
              refine finQ_r ?_
              refine ResOk.one rfl (RVal.is rfl rfl (by first | rfl | (exfalso; simp at hb1; done) | (exfalso; simp at hb2; done) | (exfalso; simp at hb3; done) | (exfalso; simp at hb4; done) | (exfalso; simp at hb5; done) | (exfalso; simp at hb6; done) | (exfalso; simp at hb7; done) | (exfalso; simp at hb8; done) | (exfalso; simp at hb9; done) | (exfalso; simp at hb10; done) | (exfalso; simp at hb11; done) | (exfalso; simp at hb12; done) | (exfalso; simp at hb13; done)))
              done)
          · try simp only [decide_eq_false_iff_not, Bool.or_eq_false_iff, Bool.not_eq_false', not_true_eq_false, not_false_eq_true, ne_eq] at hb3
            all_goals (
              refine W_skip ?_
              refine blockQ_n ?_
              refine thenQ_n ?_
              refine W_regionE (c := 56) (c' := 58) (by kernel_rfl) rfl ?_
              refine Runs_p rfl (Valid.add rfl rfl rfl (room64 (by first | omega | (simp only [Int.toNat_natCast, toNat_add, toNat_add1, List.length_append, List.length_cons, List.length_nil, List.length_replicate]; omega)) (by first | omega | (simp only [Int.toNat_natCast, toNat_add, toNat_add1, List.length_append, List.length_cons, List.length_nil, List.length_replicate]; omega)))) rfl rfl ?_ -- law.go:51 binOp
              refine Runs_p rfl (Valid.movek (A := Is _) rfl rfl) rfl rfl ?_ -- law.go:51 move
              refine Runs_nil ?_
              refine LoopQ.next (q + 1) [] (by omega) (by omega) ⟨⟨(leq_is rfl rfl (by first | rfl)), trivial⟩, ⟨(leq_is rfl rfl rfl), (leq_sl (Reads.sl rfl) rfl rfl rfl), (leq_is rfl rfl rfl), (leq_sl (Reads.sl rfl) rfl rfl rfl), (leq_sl (Reads.sl rfl) rfl rfl rfl), (leq_sls rfl rfl), (leq_is rfl rfl rfl), (leq_is rfl rfl rfl), (leq_sl (Reads.sl rfl) rfl rfl rfl), (leq_is rfl rfl rfl), trivial⟩, trivial, trivial, rfl, ⟨supg rfl, trivial⟩, ⟨supg rfl, supg rfl, supg rfl, supg rfl, supg rfl, supg rfl, supg rfl, supg rfl, supg rfl, supg rfl, trivial⟩, trivial, trivial, rfl, rfl⟩
              done)
          done)
      · try simp only [decide_eq_false_iff_not] at hb2
        all_goals (
          refine W_exit ?_
          refine thenQ_e ?_
          refine loopQ_e ?_
          refine blockQ_x ?_
          refine thenQ_n ?_
          refine W_seq ?_
          refine W_regionE (c := 28) (c' := 38) (by kernel_rfl) rfl ?_
          refine Runs_p rfl (Valid.movek (A := Sl 1 _ _) rfl rfl) rfl rfl ?_ -- law.go:58 move
          refine Runs_p rfl (Valid.movek (A := Sl 1 _ _) rfl rfl) rfl rfl ?_ -- law.go:58 move
          refine Runs_p rfl (Valid.len rfl Try.underlying22 (Reads.sl rfl)) rfl rfl ?_ -- law.go:58 call
          refine Runs_p rfl (Valid.min rfl rfl rfl) rfl rfl ?_ -- law.go:58 call
          refine Runs_p rfl (Valid.sliceto1 rfl Try.underlying22 sz3 (Reads.sl rfl) rfl (by refine ⟨?_, ?_⟩ <;> omega)) rfl rfl ?_ -- law.go:58 slice
          refine Runs_p rfl (Valid.movek (A := Sl 1 _ _) rfl rfl) rfl rfl ?_ -- law.go:58 move
          refine Runs_p rfl (Valid.movek (A := Sl 1 _ _) rfl rfl) rfl rfl ?_ -- law.go:58 move
          refine Runs_p rfl (Valid.litS3 (el := 22) (threeI (lens.take (min (lens.length : Int) 60).toNat) w own) rfl (Reads.sl rfl) (Reads.sl rfl) (Reads.sl rfl) (by first | rfl | (show _ = (List.take _ _).length; rw [List.length_take]; omega)) (by first | rfl | (show _ = (List.take _ _).length; rw [List.length_take]; omega)) (by first | rfl | (show _ = (List.take _ _).length; rw [List.length_take]; omega)) (by first | rfl | (show _ = (List.take _ _).length; rw [List.length_take]; omega)) (by first | rfl | (show _ = (List.take _ _).length; rw [List.length_take]; omega)) (by first | rfl | (show _ = (List.take _ _).length; rw [List.length_take]; omega)) (fun _ _ _ _ _ _ _ _ _ _ => by kernel_rfl)) rfl rfl ?_ -- law.go:58 buildSlice
          refine Runs_p rfl (Valid.lenS rfl Try.underlying25 rfl) rfl rfl ?_ -- law.go:58 call
          refine Runs_p rfl (Valid.movek (A := Is _) rfl rfl) rfl rfl ?_ -- law.go:58 move
          refine Runs_nil ?_
          refine thenQ_n ?_
          refine W_block ?_
          refine W_loopx (G := Nat) (fun (v : Nat) => v ≤ 3) [(2, Is _), (3, Sl 1 _ _), (9, Is _), (10, Sl 1 _ _), (12, Sl 1 _ _), (34, SlS 2 _), (35, Is _), (36, Is _), (79, SlS 3 _), (80, Is _)] (fun (v : Nat) => [(81, Is (.int .i64 (v : Int)))]) [] (fun (v : Nat) => []) 38 (fun (v : Nat) => 3 - v) (0) [] (by first | trivial | omega | (simp; omega)) ⟨⟨(leq_is rfl rfl (by first | rfl)), trivial⟩, ⟨(leq_is rfl rfl rfl), (leq_sl (Reads.sl rfl) rfl rfl rfl), (leq_is rfl rfl rfl), (leq_sl (Reads.sl rfl) rfl rfl rfl), (leq_sl (Reads.sl rfl) rfl rfl rfl), (leq_sls rfl rfl), (leq_is rfl rfl rfl), (leq_is rfl rfl rfl), (leq_sls rfl rfl), (leq_is rfl rfl rfl), trivial⟩, trivial, trivial, rfl, ⟨supg rfl, trivial⟩, ⟨supg rfl, supg rfl, supg rfl, supg rfl, supg rfl, supg rfl, supg rfl, supg rfl, supg rfl, supg rfl, trivial⟩, trivial, trivial, rfl, rfl⟩ ?_
          intro v hI3
          refine W_seq ?_
          refine W_regionE (c := 38) (c' := 39) (by kernel_rfl) rfl ?_
          refine Runs_p rfl (Valid.lss rfl rfl rfl) rfl rfl ?_ -- law.go:58 binOp
          refine Runs_nil ?_
          refine thenQ_n ?_
          refine W_seq ?_
          refine W_cond _ rfl (fun hb4 => ?_) (fun hb4 => ?_)
          · try simp only [decide_eq_true_eq] at hb4
            all_goals (
              refine W_skip ?_
              refine thenQ_n ?_
              refine W_seq ?_
              refine W_block ?_
              refine W_seq ?_
              refine W_regionE (c := 39) (c' := 42) (by kernel_rfl) rfl ?_
              refine Runs_p rfl (Valid.eltS rfl Try.underlying25 sz22 rfl rfl (by first | omega | (simp only [Int.toNat_natCast, toNat_add, toNat_add1, List.length_append, List.length_cons, List.length_nil, List.length_replicate]; omega))) rfl rfl ?_ -- law.go:58 indexAddr
              refine Runs_p rfl (Valid.loadS rfl ag22 rfl) rfl rfl ?_ -- law.go:58 load
              refine Runs_p rfl (Valid.assignk (A := Sl 1 _ _) rfl rfl) rfl rfl ?_ -- law.go:58 assign
              refine Runs_nil ?_
              refine thenQ_n ?_
              refine W_seq ?_
              have hx := threeI_len _ _ _ hll hm (show own.length ≤ 300 by omega) (v : Int).toNat
              generalize threeI (lens.take (min (lens.length : Int) 60).toNat) w own (v : Int).toNat = l at *
              refine W_regionE (c := 42) (c' := 50) (by kernel_rfl) rfl ?_
              refine Runs_p rfl (Valid.movek (A := Sl 1 _ _) rfl rfl) rfl rfl ?_ -- law.go:59 move
              refine Runs_p rfl (Valid.movek (A := Sl 1 _ _) rfl rfl) rfl rfl ?_ -- law.go:59 move
              refine Runs_p rfl (Valid.call rfl (cost_s _ _ (by omega) (by omega)) ⟨argle_sl (Reads.sl rfl), argle_sl (Reads.sl rfl), trivial⟩) rfl rfl ?_ -- law.go:59 call
              refine Runs_p rfl (Valid.movek (A := Tup [Is _, Is _]) rfl rfl) rfl rfl ?_ -- law.go:59 move
              refine Runs_p rfl (Valid.extract _ rfl rfl rfl) rfl rfl ?_ -- law.go:59 extract
              refine Runs_p rfl (Valid.extract _ rfl rfl rfl) rfl rfl ?_ -- law.go:59 extract
              refine Runs_p rfl (Valid.assignk (A := Is _) rfl rfl) rfl rfl ?_ -- law.go:59 assign
              refine Runs_p rfl (Valid.assignk (A := Is _) rfl rfl) rfl rfl ?_ -- law.go:59 assign
              refine Runs_nil ?_
              refine thenQ_n ?_
              refine W_seq ?_
              refine W_regionE (c := 50) (c' := 58) (by kernel_rfl) rfl ?_
              refine Runs_p rfl (Valid.movek (A := Sl 1 _ _) rfl rfl) rfl rfl ?_ -- law.go:60 move
              refine Runs_p rfl (Valid.movek (A := Sl 1 _ _) rfl rfl) rfl rfl ?_ -- law.go:60 move
              refine Runs_p rfl (Valid.call rfl (rcost_s _ _ (by omega) (by omega)) ⟨argle_sl (Reads.sl rfl), argle_sl (Reads.sl rfl), trivial⟩) rfl rfl ?_ -- law.go:60 call
              refine Runs_p rfl (Valid.movek (A := Tup [Is _, Is _]) rfl rfl) rfl rfl ?_ -- law.go:60 move
              refine Runs_p rfl (Valid.extract _ rfl rfl rfl) rfl rfl ?_ -- law.go:60 extract
              refine Runs_p rfl (Valid.extract _ rfl rfl rfl) rfl rfl ?_ -- law.go:60 extract
              refine Runs_p rfl (Valid.assignk (A := Is _) rfl rfl) rfl rfl ?_ -- law.go:60 assign
              refine Runs_p rfl (Valid.assignk (A := Is _) rfl rfl) rfl rfl ?_ -- law.go:60 assign
              refine Runs_nil ?_
              refine thenQ_n ?_
              refine W_seq ?_
              refine W_regionE (c := 58) (c' := 66) (by kernel_rfl) rfl ?_
              refine Runs_p rfl (Valid.movek (A := Is _) rfl rfl) rfl rfl ?_ -- law.go:61 move
              refine Runs_p rfl (Valid.movek (A := Is _) rfl rfl) rfl rfl ?_ -- law.go:61 move
              refine Runs_p rfl (Valid.neq rfl rfl rfl) rfl rfl ?_ -- law.go:61 binOp
              refine Runs_p rfl (Valid.movek (A := Is _) rfl rfl) rfl rfl ?_ -- law.go:61 move
              refine Runs_cnd rfl rfl (Grd.is rfl) [] (fun hg => trivial) (fun hg => Valid.movek (A := Is _) rfl rfl) (by rfl) rfl ?_
              refine Runs_cnd rfl rfl (Grd.is rfl) [] (fun hg => trivial) (fun hg => Valid.movek (A := Is _) rfl rfl) (by rfl) rfl ?_
              refine Runs_cnd rfl rfl (Grd.is rfl) [(101, _), (102, _)] (fun hg => ⟨cnd_at rfl (by first | exact hg | exact hg.1 | exact hg.1.1 | exact hg.1.1.1), cnd_at rfl (by first | exact hg | exact hg.1 | exact hg.1.1 | exact hg.1.1.1), trivial⟩) (fun hg => Valid.neq rfl rfl rfl) (by rfl) rfl ?_
              refine Runs_p rfl (Valid.pickor rfl rfl rfl rfl (fun h => by first | exact h | exact ⟨hg, h⟩)) rfl rfl ?_ -- law.go:61 pick
              refine Runs_nil ?_
              refine thenQ_n ?_
              refine W_cond _ rfl (fun hb5 => ?_) (fun hb5 => ?_)
              · try simp only [decide_eq_true_eq, Bool.or_eq_true, not_true_eq_false, ne_eq] at hb5
                all_goals (
                  refine W_seq ?_
                  refine W_regionE (c := 66) (c' := 67) (by kernel_rfl) rfl ?_
                  refine Runs_p rfl (Valid.assignk (A := Is _) rfl rfl) rfl rfl ?_ -- law.go:62 assign
                  refine Runs_nil ?_
                  refine thenQ_n ?_
                  refine W_ret ?_
                  refine blockQ_r ?_
                  refine thenQ_r ?_
                  refine loopQ_r ?_
                  refine blockQ_r ?_
                  refine blockQ_r ?_
                  refine thenQ_r ?_
                  refine loopQ_r ?_
                  refine blockQ_r ?_
                  refine thenQ_r ?_
                  refine finQ_r ?_
                  refine ResOk.one rfl (RVal.is rfl rfl (by first | rfl | (exfalso; simp at hb1; done) | (exfalso; simp at hb2; done) | (exfalso; simp at hb3; done) | (exfalso; simp at hb4; done) | (exfalso; simp at hb5; done) | (exfalso; simp at hb6; done) | (exfalso; simp at hb7; done) | (exfalso; simp at hb8; done) | (exfalso; simp at hb9; done) | (exfalso; simp at hb10; done) | (exfalso; simp at hb11; done) | (exfalso; simp at hb12; done) | (exfalso; simp at hb13; done)))
                  done)
              · try simp only [decide_eq_false_iff_not, Bool.or_eq_false_iff, not_true_eq_false, not_false_eq_true, ne_eq] at hb5
                all_goals (
                  refine W_skip ?_
                  refine blockQ_n ?_
                  refine thenQ_n ?_
                  refine W_regionE (c := 66) (c' := 68) (by kernel_rfl) rfl ?_
                  refine Runs_p rfl (Valid.add rfl rfl rfl (room64 (by first | omega | (simp only [Int.toNat_natCast, toNat_add, toNat_add1, List.length_append, List.length_cons, List.length_nil, List.length_replicate]; omega)) (by first | omega | (simp only [Int.toNat_natCast, toNat_add, toNat_add1, List.length_append, List.length_cons, List.length_nil, List.length_replicate]; omega)))) rfl rfl ?_ -- law.go:58 binOp
                  refine Runs_p rfl (Valid.movek (A := Is _) rfl rfl) rfl rfl ?_ -- law.go:58 move
                  refine Runs_nil ?_
                  refine LoopQ.next (v + 1) [] (by omega) (by omega) ⟨⟨(leq_is rfl rfl (by first | rfl)), trivial⟩, ⟨(leq_is rfl rfl rfl), (leq_sl (Reads.sl rfl) rfl rfl rfl), (leq_is rfl rfl rfl), (leq_sl (Reads.sl rfl) rfl rfl rfl), (leq_sl (Reads.sl rfl) rfl rfl rfl), (leq_sls rfl rfl), (leq_is rfl rfl rfl), (leq_is rfl rfl rfl), (leq_sls rfl rfl), (leq_is rfl rfl rfl), trivial⟩, trivial, trivial, rfl, ⟨supg rfl, trivial⟩, ⟨supg rfl, supg rfl, supg rfl, supg rfl, supg rfl, supg rfl, supg rfl, supg rfl, supg rfl, supg rfl, trivial⟩, trivial, trivial, rfl, rfl⟩
                  done)
              done)
          · try simp only [decide_eq_false_iff_not] at hb4
            all_goals (
              refine W_exit ?_
              refine thenQ_e ?_
              refine loopQ_e ?_
              refine blockQ_x ?_
              refine blockQ_n ?_
              refine thenQ_n ?_
              refine W_regionE (c := 39) (c' := 41) (by kernel_rfl) rfl ?_
              refine Runs_p rfl (Valid.add rfl rfl rfl (room64 (by first | omega | (simp only [Int.toNat_natCast, toNat_add, toNat_add1, List.length_append, List.length_cons, List.length_nil, List.length_replicate]; omega)) (by first | omega | (simp only [Int.toNat_natCast, toNat_add, toNat_add1, List.length_append, List.length_cons, List.length_nil, List.length_replicate]; omega)))) rfl rfl ?_ -- law.go:50 binOp
              refine Runs_p rfl (Valid.movek (A := Is _) rfl rfl) rfl rfl ?_ -- law.go:50 move
              refine Runs_nil ?_
              refine LoopQ.next (k + 1) [] (by omega) (by omega) ⟨⟨(leq_is rfl rfl (by first | rfl)), trivial⟩, ⟨(leq_is rfl rfl rfl), (leq_sl (Reads.sl rfl) rfl rfl rfl), (leq_is rfl rfl rfl), (leq_sl (Reads.sl rfl) rfl rfl rfl), (leq_sls rfl rfl), (leq_is rfl rfl rfl), trivial⟩, trivial, trivial, rfl, ⟨supg rfl, trivial⟩, ⟨supg rfl, supg rfl, supg rfl, supg rfl, supg rfl, supg rfl, trivial⟩, trivial, trivial, rfl, rfl⟩
              done)
          done)
      done)
  · try simp only [decide_eq_false_iff_not] at hb1
    all_goals (
      refine W_exit ?_
      refine thenQ_e ?_
      refine loopQ_e ?_
      refine blockQ_x ?_
      refine thenQ_n ?_
      refine W_seq ?_
      refine W_regionE (c := 17) (c' := 19) (by kernel_rfl) rfl ?_
      refine Runs_p rfl (Valid.movek (A := Is _) rfl rfl) rfl rfl ?_ -- law.go:66 move
      refine Runs_p rfl (Valid.assignk (A := Is _) rfl rfl) rfl rfl ?_ -- law.go:66 assign
      refine Runs_nil ?_
      refine thenQ_n ?_
      refine W_ret ?_
      refine finQ_r ?_
      refine ResOk.one rfl (RVal.is rfl rfl (by first | rfl | (exfalso; simp at hb1; done) | (exfalso; simp at hb2; done) | (exfalso; simp at hb3; done) | (exfalso; simp at hb4; done) | (exfalso; simp at hb5; done) | (exfalso; simp at hb6; done) | (exfalso; simp at hb7; done) | (exfalso; simp at hb8; done) | (exfalso; simp at hb9; done) | (exfalso; simp at hb10; done) | (exfalso; simp at hb11; done) | (exfalso; simp at hb12; done) | (exfalso; simp at hb13; done)))
      done)
end Wv
end Go.Proofs.Ytidbnpbccpmjlaa
