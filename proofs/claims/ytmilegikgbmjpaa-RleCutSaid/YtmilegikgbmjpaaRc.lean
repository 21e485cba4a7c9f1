/-
  WALKS of stage 4: repeats; how long, how much has room; what is told.
-/
import Derived.Test.YtmilegikgbmjpaaRows
import Derived.Test.YtmilegikgbmjpaaRb
namespace Go.Proofs.Ytmilegikgbmjpaa
open Go.RowKit
namespace Rc
open Ab Rl Rl Ra Rb
theorem ag3 (w : World) : (isAgg 3).run Try.prog w = .ok false w := by kernel_rfl
theorem ag4 (w : World) : (isAgg 4).run Try.prog w = .ok false w := by kernel_rfl
theorem ag9 (w : World) : (isAgg 9).run Try.prog w = .ok false w := by kernel_rfl
theorem sz3 (w : World) : (sizeOf 3).run Try.prog w = .ok 1 w := by kernel_rfl
theorem sz4 (w : World) : (sizeOf 4).run Try.prog w = .ok 1 w := by kernel_rfl
theorem zv3 (w : World) : (zeroValue 3).run Try.prog w = .ok (Value.int .i64 0) w := by kernel_rfl
theorem zv4 (w : World) : (zeroValue 4).run Try.prog w = .ok (Value.bool false) w := by kernel_rfl
theorem rp1 {l : List UInt8} {go : Nat → Bool} {i : Nat} (h : ∀ j, j < i → go j = true) (h4 : ¬ ((stA l i).1 : Int) = 4) (hi : i = l.length) : i = stopN go (reps l).length := by
  have hn : (reps l).length = i := by rw [reps_len, ← hi, if_neg (by omega)]; omega
  rw [hn]; exact (stop_all h).symm
theorem rp2 {l : List UInt8} {go : Nat → Bool} {i : Nat} (h : ∀ j, j < i → go j = true) (h4 : ((stA l i).1 : Int) = 4) (hi : i = l.length) : i + 1 = stopN go (reps l).length := by
  have hn : (reps l).length = i + 1 := by rw [reps_len, ← hi, if_pos (by omega)]
  rw [hn]
  cases hg : go i with
  | true => exact (stop_all fun j hj => by
      by_cases e : j = i
      · subst e; exact hg
      · exact h j (by omega)).symm
  | false => exact (stop_at (by omega) h hg).symm

set_option maxRecDepth 100000 in
set_option maxHeartbeats 1000000 in
theorem reps_it (s : ByteArray) (hs : s.size ≤ 1000000000) :
    FIter Try.prog 33 [Elt [.string s]] ((reps s.data.toList).length) (fun q => [Is (.int .u8 (((reps s.data.toList).getD q (0, 0)).1.toNat : Int)), Is (.int .i64 ((reps s.data.toList).getD q (0, 0)).2)]) := by
  refine FIter.of Try.func33 Try.ntmps33 rfl (by kernel_rfl) rfl rfl (fun _ => rfl) (fun l_ go_ => ?_)
  refine W_seq ?_
  refine W_regionE (c := 1) (c' := 2) (by kernel_rfl) rfl ?_
  refine Runs_p rfl (Valid.assignk (A := Is _) rfl rfl) rfl rfl ?_ -- rle.go:119 assign
  refine Runs_nil ?_
  refine thenQ_n ?_
  refine W_seq ?_
  refine W_regionE (c := 2) (c' := 3) (by kernel_rfl) rfl ?_
  refine Runs_p rfl (Valid.assignk (A := Is _) rfl rfl) rfl rfl ?_ -- rle.go:120 assign
  refine Runs_nil ?_
  refine thenQ_n ?_
  refine W_seq ?_
  refine W_seq ?_
  refine W_regionE (c := 3) (c' := 6) (by kernel_rfl) rfl ?_
  refine Runs_p rfl (Valid.loadelt rfl ag9 rfl) rfl rfl ?_ -- rle.go:121 load
  refine Runs_p rfl (Valid.slen rfl Try.underlying9 rfl) rfl rfl ?_ -- rle.go:121 call
  refine Runs_p rfl (Valid.movek (A := Is _) rfl rfl) rfl rfl ?_ -- rle.go:121 move
  refine Runs_nil ?_
  refine thenQ_n ?_
  refine W_block ?_
  refine W_loopx (G := Nat) (fun (i : Nat) => i ≤ s.size ∧ ∀ j, j < i → go_ j = true) [(0, Is _), (1, Elt _), (8, Is _)] (fun (i : Nat) => [(9, Is (.int .i64 (i : Int))), (4, Is (.int .i64 ((stA s.data.toList i).1 : Int))), (3, Is (.int .u8 ((stA s.data.toList i).2.toNat : Int)))]) [] (fun (i : Nat) => [(0, .idx ⟨l_, (reps s.data.toList).length, fun q => [Is (.int .u8 (((reps s.data.toList).getD q (0, 0)).1.toNat : Int)), Is (.int .i64 ((reps s.data.toList).getD q (0, 0)).2)], go_⟩ (i))]) 6 (fun (i : Nat) => s.size - i) (0) [] (⟨Nat.zero_le _, fun j hj => absurd hj (Nat.not_lt_zero _)⟩) ⟨⟨(leq_is rfl rfl (by first | rfl | (rw [st_0]; rfl))), (leq_is rfl rfl (by first | rfl | (rw [st_0]; rfl))), (leq_is rfl rfl (by first | rfl | (rw [st_0]; rfl))), trivial⟩, ⟨(leq_is rfl rfl rfl), (leq_elt rfl rfl rfl), (leq_is rfl rfl rfl), trivial⟩, ⟨hp_idx rfl (by first | rfl | (rw [st_0]; rfl)), trivial⟩, trivial, rfl, ⟨supg rfl, supg rfl, supg rfl, trivial⟩, ⟨supg rfl, supg rfl, supg rfl, trivial⟩, ⟨suph rfl rfl, trivial⟩, trivial, rfl, rfl⟩ ?_
  intro i hI1
  have hle := stA_le s.data.toList i
  refine W_seq ?_
  refine W_regionE (c := 6) (c' := 7) (by kernel_rfl) rfl ?_
  refine Runs_p rfl (Valid.lss rfl rfl rfl) rfl rfl ?_ -- rle.go:121 binOp
  refine Runs_nil ?_
  refine thenQ_n ?_
  refine W_seq ?_
  refine W_cond _ rfl (fun hb1 => ?_) (fun hb1 => ?_)
  · try simp only [decide_eq_true_eq] at hb1
    all_goals (
      refine W_skip ?_
      refine thenQ_n ?_
      refine W_seq ?_
      refine W_block ?_
      refine W_seq ?_
      refine W_regionE (c := 7) (c' := 9) (by kernel_rfl) rfl ?_
      refine Runs_p rfl (Valid.movek (A := Is _) rfl rfl) rfl rfl ?_ -- rle.go:121 move
      refine Runs_p rfl (Valid.assignk (A := Is _) rfl rfl) rfl rfl ?_ -- rle.go:121 assign
      refine Runs_nil ?_
      refine thenQ_n ?_
      refine W_seq ?_
      refine W_regionE (c := 9) (c' := 10) (by kernel_rfl) rfl ?_
      refine Runs_p rfl (Valid.assignk (A := Is _) rfl rfl) rfl rfl ?_ -- rle.go:122 assign
      refine Runs_nil ?_
      refine thenQ_n ?_
      refine W_seq ?_
      refine W_block ?_
      refine W_seq ?_
      refine W_regionE (c := 10) (c' := 13) (by kernel_rfl) rfl ?_
      refine Runs_p rfl (Valid.movek (A := Is _) rfl rfl) rfl rfl ?_ -- rle.go:124 move
      refine Runs_p rfl (Valid.eql rfl rfl rfl) rfl rfl ?_ -- rle.go:124 binOp
      refine Runs_p rfl (Valid.assignk (A := Is _) rfl rfl) rfl rfl ?_ -- rle.go:124 assign
      refine Runs_nil ?_
      refine thenQ_n ?_
      refine W_cond _ rfl (fun hb2 => ?_) (fun hb2 => ?_)
      · try simp only [decide_eq_true_eq] at hb2
        all_goals (
          refine W_drawE (c := 13) (c' := 19) (by kernel_rfl) rfl ?_
          refine Runs_p rfl (Valid.loadelt rfl ag9 rfl) rfl rfl ?_ -- rle.go:125 load
          refine Runs_p rfl (Valid.movek (A := Is _) rfl rfl) rfl rfl ?_ -- rle.go:125 move
          refine Runs_p rfl (Valid.sindex rfl Try.underlying9 rfl rfl (by first | omega | (simp only [Int.toNat_natCast, toNat_add, toNat_add1, List.length_append, List.length_cons, List.length_nil, List.length_replicate]; omega))) rfl rfl ?_ -- rle.go:125 index
          refine Runs_p rfl (Valid.convr rfl rfl Try.underlying5 Try.underlying3 (room64 (by have := (bat s (i : Int)).toNat_lt; omega) (by have := (bat s (i : Int)).toNat_lt; omega))) rfl rfl ?_ -- rle.go:125 convert
          refine Runs_p rfl (Valid.assignk (A := Is _) rfl rfl) rfl rfl ?_ -- rle.go:125 assign
          refine Runs_p rfl (Valid.assignk (A := Is _) rfl rfl) rfl rfl ?_ -- rle.go:125 assign
          refine Runs_nil ?_
          refine ⟨_, _, rfl, rfl, by kernel_rfl, ?_⟩
          refine blockQ_n ?_
          refine thenQ_n ?_
          refine W_seq ?_
          have hli : i < s.data.toList.length := by rw [len_ba]; omega
          have hlk : i < (reps s.data.toList).length := by rw [reps_len]; omega
          first
            | (have hget := get_a hli (by assumption); have hst := st_a hli (by assumption))
            | (have hget := get_b hli (by assumption) (by assumption); have hst := st_b hli (by assumption) (by assumption))
            | (have hget := get_c hli (by assumption) (by assumption); have hst := st_c hli (by assumption) (by assumption))
          have hv1 := congrArg Prod.fst hget
          have hv2 := congrArg Prod.snd hget
          simp only at hv1 hv2
          refine W_regionE (c := 19) (c' := 24) (by kernel_rfl) rfl ?_
          refine Runs_p rfl (Valid.movek (A := Is _) rfl rfl) rfl rfl ?_ -- rle.go:131 move
          refine Runs_p rfl (Valid.movek (A := Is _) rfl rfl) rfl rfl ?_ -- rle.go:131 move
          refine Runs_p rfl (Valid.movek (A := Is _) rfl rfl) rfl rfl ?_ -- rle.go:131 move
          refine Runs_y rfl (VOp.yieldx rfl rfl rfl (hlk) (hI1.2) ⟨argle (by first | exact congrArg (fun z : UInt8 => Is (Value.int .u8 (z.toNat : Int))) hv1.symm | exact congrArg (fun z : Int => Is (Value.int .i64 z)) hv2.symm), argle (by first | exact congrArg (fun z : UInt8 => Is (Value.int .u8 (z.toNat : Int))) hv1.symm | exact congrArg (fun z : Int => Is (Value.int .i64 z)) hv2.symm), trivial⟩ rfl) rfl rfl ?_ -- rle.go:131 yield
          refine Runs_p rfl (Valid.not rfl rfl) rfl rfl ?_ -- rle.go:131 unOp
          refine Runs_nil ?_
          refine thenQ_n ?_
          refine W_cond _ rfl (fun hb3 => ?_) (fun hb3 => ?_)
          · try simp only [Bool.not_eq_true'] at hb3
            all_goals (
              refine W_ret ?_
              refine blockQ_r ?_
              refine thenQ_r ?_
              refine loopQ_r ?_
              refine blockQ_r ?_
              refine thenQ_r ?_
              exact finIQ_r (ResOk.none rfl (fun _ _ => rfl)) rfl (by first | exact (stop_at hlk hI1.2 (by assumption)).symm | exact rp1 (l := s.data.toList) hI1.2 (by assumption) (by rw [len_ba]; omega) | exact rp2 (l := s.data.toList) hI1.2 (by assumption) (by rw [len_ba]; omega))
              done)
          · try simp only [Bool.not_eq_false'] at hb3
            all_goals (
              refine W_skip ?_
              refine blockQ_n ?_
              refine thenQ_n ?_
              refine W_regionE (c := 24) (c' := 26) (by kernel_rfl) rfl ?_
              refine Runs_p rfl (Valid.add rfl rfl rfl (room64 (by first | omega | (simp only [Int.toNat_natCast, toNat_add, toNat_add1, List.length_append, List.length_cons, List.length_nil, List.length_replicate]; omega)) (by first | omega | (simp only [Int.toNat_natCast, toNat_add, toNat_add1, List.length_append, List.length_cons, List.length_nil, List.length_replicate]; omega)))) rfl rfl ?_ -- rle.go:121 binOp
              refine Runs_p rfl (Valid.movek (A := Is _) rfl rfl) rfl rfl ?_ -- rle.go:121 move
              refine Runs_nil ?_
              refine LoopQ.next (i + 1) [] (⟨by omega, fun j hj => by by_cases e : j = i; (· subst e; assumption); (· exact hI1.2 j (by omega))⟩) (by first | omega | (dsimp only; omega)) ⟨⟨(leq_is rfl rfl (by first | rfl | (rw [hst]; rfl) | (rw [hst]; simp; done) | (rw [hst]; done) | (rw [hst]))), (leq_is rfl rfl (by first | rfl | (rw [hst]; rfl) | (rw [hst]; simp; done) | (rw [hst]; done) | (rw [hst]))), (leq_is rfl rfl (by first | rfl | (rw [hst]; rfl) | (rw [hst]; simp; done) | (rw [hst]; done) | (rw [hst]))), trivial⟩, ⟨(leq_is rfl rfl rfl), (leq_elt rfl rfl rfl), (leq_is rfl rfl rfl), trivial⟩, ⟨hp_idx rfl (by first | rfl | (rw [hst]; rfl) | (rw [hst]; simp; done) | (rw [hst]; done) | (rw [hst])), trivial⟩, trivial, rfl, ⟨supg rfl, supg rfl, supg rfl, trivial⟩, ⟨supg rfl, supg rfl, supg rfl, trivial⟩, ⟨suph rfl rfl, trivial⟩, trivial, rfl, rfl⟩
              done)
          done)
      · try simp only [decide_eq_false_iff_not] at hb2
        all_goals (
          refine W_seq ?_
          refine W_regionE (c := 13) (c' := 23) (by kernel_rfl) rfl ?_
          refine Runs_p rfl (Valid.movek (A := Is _) rfl rfl) rfl rfl ?_ -- rle.go:126 move
          refine Runs_p rfl (Valid.gtr rfl rfl rfl) rfl rfl ?_ -- rle.go:126 binOp
          refine Runs_p rfl (Valid.movek (A := Is _) rfl rfl) rfl rfl ?_ -- rle.go:126 move
          refine Runs_cnd rfl rfl (Grd.is rfl) [] (fun hg => trivial) (fun hg => Valid.loadelt rfl ag9 rfl) (by rfl) rfl ?_
          refine Runs_cnd rfl rfl (Grd.is rfl) [] (fun hg => trivial) (fun hg => Valid.movek (A := Is _) rfl rfl) (by rfl) rfl ?_
          refine Runs_cnd rfl rfl (Grd.is rfl) [(26, _), (27, _)] (fun hg => ⟨cnd_at rfl (by first | exact hg | exact hg.1 | exact hg.1.1 | exact hg.1.1.1), cnd_at rfl (by first | exact hg | exact hg.1 | exact hg.1.1 | exact hg.1.1.1), trivial⟩) (fun hg => Valid.sindex rfl Try.underlying9 rfl rfl (by (try simp only [decide_eq_true_eq] at hg); first | omega | (simp only [Int.toNat_natCast, toNat_add, toNat_add1, List.length_append, List.length_cons, List.length_nil, List.length_replicate]; omega))) (by rfl) rfl ?_
          refine Runs_cnd rfl rfl (Grd.is rfl) [] (fun hg => trivial) (fun hg => Valid.movek (A := Is _) rfl rfl) (by rfl) rfl ?_
          refine Runs_cnd rfl rfl (Grd.is rfl) [(28, _), (29, _)] (fun hg => ⟨cnd_at rfl (by first | exact hg | exact hg.1 | exact hg.1.1 | exact hg.1.1.1), cnd_at rfl (by first | exact hg | exact hg.1 | exact hg.1.1 | exact hg.1.1.1), trivial⟩) (fun hg => Valid.eql rfl rfl rfl) (by rfl) rfl ?_
          refine Runs_p rfl (Valid.pickand rfl rfl rfl (fun h => by first | exact h | exact ⟨hg, h⟩) rfl) rfl rfl ?_ -- rle.go:126 pick
          refine Runs_p rfl (Valid.assignk (A := Is _) rfl rfl) rfl rfl ?_ -- rle.go:126 assign
          refine Runs_nil ?_
          refine thenQ_n ?_
          refine W_cond _ rfl (fun hb4 => ?_) (fun hb4 => ?_)
          · try simp only [decide_eq_true_eq, Bool.and_eq_true] at hb4
            all_goals (
              refine W_regionE (c := 23) (c' := 26) (by kernel_rfl) rfl ?_
              refine Runs_p rfl (Valid.movek (A := Is _) rfl rfl) rfl rfl ?_ -- rle.go:127 move
              refine Runs_p rfl (Valid.add rfl rfl rfl (room64 (by first | omega | (simp only [Int.toNat_natCast, toNat_add, toNat_add1, List.length_append, List.length_cons, List.length_nil, List.length_replicate]; omega)) (by first | omega | (simp only [Int.toNat_natCast, toNat_add, toNat_add1, List.length_append, List.length_cons, List.length_nil, List.length_replicate]; omega)))) rfl rfl ?_ -- rle.go:127 binOp
              refine Runs_p rfl (Valid.assignk (A := Is _) rfl rfl) rfl rfl ?_ -- rle.go:127 assign
              refine Runs_nil ?_
              refine blockQ_n ?_
              refine thenQ_n ?_
              refine W_seq ?_
              have hli : i < s.data.toList.length := by rw [len_ba]; omega
              have hlk : i < (reps s.data.toList).length := by rw [reps_len]; omega
              first
                | (have hget := get_a hli (by assumption); have hst := st_a hli (by assumption))
                | (have hget := get_b hli (by assumption) (by assumption); have hst := st_b hli (by assumption) (by assumption))
                | (have hget := get_c hli (by assumption) (by assumption); have hst := st_c hli (by assumption) (by assumption))
              have hv1 := congrArg Prod.fst hget
              have hv2 := congrArg Prod.snd hget
              simp only at hv1 hv2
              refine W_regionE (c := 26) (c' := 31) (by kernel_rfl) rfl ?_
              refine Runs_p rfl (Valid.movek (A := Is _) rfl rfl) rfl rfl ?_ -- rle.go:131 move
              refine Runs_p rfl (Valid.movek (A := Is _) rfl rfl) rfl rfl ?_ -- rle.go:131 move
              refine Runs_p rfl (Valid.movek (A := Is _) rfl rfl) rfl rfl ?_ -- rle.go:131 move
              refine Runs_y rfl (VOp.yieldx rfl rfl rfl (hlk) (hI1.2) ⟨argle (by first | exact congrArg (fun z : UInt8 => Is (Value.int .u8 (z.toNat : Int))) hv1.symm | exact congrArg (fun z : Int => Is (Value.int .i64 z)) hv2.symm), argle (by first | exact congrArg (fun z : UInt8 => Is (Value.int .u8 (z.toNat : Int))) hv1.symm | exact congrArg (fun z : Int => Is (Value.int .i64 z)) hv2.symm), trivial⟩ rfl) rfl rfl ?_ -- rle.go:131 yield
              refine Runs_p rfl (Valid.not rfl rfl) rfl rfl ?_ -- rle.go:131 unOp
              refine Runs_nil ?_
              refine thenQ_n ?_
              refine W_cond _ rfl (fun hb5 => ?_) (fun hb5 => ?_)
              · try simp only [Bool.not_eq_true'] at hb5
                all_goals (
                  refine W_ret ?_
                  refine blockQ_r ?_
                  refine thenQ_r ?_
                  refine loopQ_r ?_
                  refine blockQ_r ?_
                  refine thenQ_r ?_
                  exact finIQ_r (ResOk.none rfl (fun _ _ => rfl)) rfl (by first | exact (stop_at hlk hI1.2 (by assumption)).symm | exact rp1 (l := s.data.toList) hI1.2 (by assumption) (by rw [len_ba]; omega) | exact rp2 (l := s.data.toList) hI1.2 (by assumption) (by rw [len_ba]; omega))
                  done)
              · try simp only [Bool.not_eq_false'] at hb5
                all_goals (
                  refine W_skip ?_
                  refine blockQ_n ?_
                  refine thenQ_n ?_
                  refine W_regionE (c := 31) (c' := 33) (by kernel_rfl) rfl ?_
                  refine Runs_p rfl (Valid.add rfl rfl rfl (room64 (by first | omega | (simp only [Int.toNat_natCast, toNat_add, toNat_add1, List.length_append, List.length_cons, List.length_nil, List.length_replicate]; omega)) (by first | omega | (simp only [Int.toNat_natCast, toNat_add, toNat_add1, List.length_append, List.length_cons, List.length_nil, List.length_replicate]; omega)))) rfl rfl ?_ -- rle.go:121 binOp
                  refine Runs_p rfl (Valid.movek (A := Is _) rfl rfl) rfl rfl ?_ -- rle.go:121 move
                  refine Runs_nil ?_
                  refine LoopQ.next (i + 1) [] (⟨by omega, fun j hj => by by_cases e : j = i; (· subst e; assumption); (· exact hI1.2 j (by omega))⟩) (by first | omega | (dsimp only; omega)) ⟨⟨(leq_is rfl rfl (by first | rfl | (rw [hst]; rfl) | (rw [hst]; simp; done) | (rw [hst]; done) | (rw [hst]))), (leq_is rfl rfl (by first | rfl | (rw [hst]; rfl) | (rw [hst]; simp; done) | (rw [hst]; done) | (rw [hst]))), (leq_is rfl rfl (by first | rfl | (rw [hst]; rfl) | (rw [hst]; simp; done) | (rw [hst]; done) | (rw [hst]))), trivial⟩, ⟨(leq_is rfl rfl rfl), (leq_elt rfl rfl rfl), (leq_is rfl rfl rfl), trivial⟩, ⟨hp_idx rfl (by first | rfl | (rw [hst]; rfl) | (rw [hst]; simp; done) | (rw [hst]; done) | (rw [hst])), trivial⟩, trivial, rfl, ⟨supg rfl, supg rfl, supg rfl, trivial⟩, ⟨supg rfl, supg rfl, supg rfl, trivial⟩, ⟨suph rfl rfl, trivial⟩, trivial, rfl, rfl⟩
                  done)
              done)
          · try simp only [decide_eq_false_iff_not, Bool.and_eq_false_iff] at hb4
            all_goals (
              refine W_drawE (c := 23) (c' := 28) (by kernel_rfl) rfl ?_
              refine Runs_p rfl (Valid.loadelt rfl ag9 rfl) rfl rfl ?_ -- rle.go:129 load
              refine Runs_p rfl (Valid.movek (A := Is _) rfl rfl) rfl rfl ?_ -- rle.go:129 move
              refine Runs_p rfl (Valid.sindex rfl Try.underlying9 rfl rfl (by first | omega | (simp only [Int.toNat_natCast, toNat_add, toNat_add1, List.length_append, List.length_cons, List.length_nil, List.length_replicate]; omega))) rfl rfl ?_ -- rle.go:129 index
              refine Runs_p rfl (Valid.assignk (A := Is _) rfl rfl) rfl rfl ?_ -- rle.go:129 assign
              refine Runs_p rfl (Valid.assignk (A := Is _) rfl rfl) rfl rfl ?_ -- rle.go:129 assign
              refine Runs_nil ?_
              refine ⟨_, _, rfl, rfl, by kernel_rfl, ?_⟩
              refine blockQ_n ?_
              refine thenQ_n ?_
              refine W_seq ?_
              have hli : i < s.data.toList.length := by rw [len_ba]; omega
              have hlk : i < (reps s.data.toList).length := by rw [reps_len]; omega
              first
                | (have hget := get_a hli (by assumption); have hst := st_a hli (by assumption))
                | (have hget := get_b hli (by assumption) (by assumption); have hst := st_b hli (by assumption) (by assumption))
                | (have hget := get_c hli (by assumption) (by assumption); have hst := st_c hli (by assumption) (by assumption))
              have hv1 := congrArg Prod.fst hget
              have hv2 := congrArg Prod.snd hget
              simp only at hv1 hv2
              refine W_regionE (c := 28) (c' := 33) (by kernel_rfl) rfl ?_
              refine Runs_p rfl (Valid.movek (A := Is _) rfl rfl) rfl rfl ?_ -- rle.go:131 move
              refine Runs_p rfl (Valid.movek (A := Is _) rfl rfl) rfl rfl ?_ -- rle.go:131 move
              refine Runs_p rfl (Valid.movek (A := Is _) rfl rfl) rfl rfl ?_ -- rle.go:131 move
              refine Runs_y rfl (VOp.yieldx rfl rfl rfl (hlk) (hI1.2) ⟨argle (by first | exact congrArg (fun z : UInt8 => Is (Value.int .u8 (z.toNat : Int))) hv1.symm | exact congrArg (fun z : Int => Is (Value.int .i64 z)) hv2.symm), argle (by first | exact congrArg (fun z : UInt8 => Is (Value.int .u8 (z.toNat : Int))) hv1.symm | exact congrArg (fun z : Int => Is (Value.int .i64 z)) hv2.symm), trivial⟩ rfl) rfl rfl ?_ -- rle.go:131 yield
              refine Runs_p rfl (Valid.not rfl rfl) rfl rfl ?_ -- rle.go:131 unOp
              refine Runs_nil ?_
              refine thenQ_n ?_
              refine W_cond _ rfl (fun hb6 => ?_) (fun hb6 => ?_)
              · try simp only [Bool.not_eq_true'] at hb6
                all_goals (
                  refine W_ret ?_
                  refine blockQ_r ?_
                  refine thenQ_r ?_
                  refine loopQ_r ?_
                  refine blockQ_r ?_
                  refine thenQ_r ?_
                  exact finIQ_r (ResOk.none rfl (fun _ _ => rfl)) rfl (by first | exact (stop_at hlk hI1.2 (by assumption)).symm | exact rp1 (l := s.data.toList) hI1.2 (by assumption) (by rw [len_ba]; omega) | exact rp2 (l := s.data.toList) hI1.2 (by assumption) (by rw [len_ba]; omega))
                  done)
              · try simp only [Bool.not_eq_false'] at hb6
                all_goals (
                  refine W_skip ?_
                  refine blockQ_n ?_
                  refine thenQ_n ?_
                  refine W_regionE (c := 33) (c' := 35) (by kernel_rfl) rfl ?_
                  refine Runs_p rfl (Valid.add rfl rfl rfl (room64 (by first | omega | (simp only [Int.toNat_natCast, toNat_add, toNat_add1, List.length_append, List.length_cons, List.length_nil, List.length_replicate]; omega)) (by first | omega | (simp only [Int.toNat_natCast, toNat_add, toNat_add1, List.length_append, List.length_cons, List.length_nil, List.length_replicate]; omega)))) rfl rfl ?_ -- rle.go:121 binOp
                  refine Runs_p rfl (Valid.movek (A := Is _) rfl rfl) rfl rfl ?_ -- rle.go:121 move
                  refine Runs_nil ?_
                  refine LoopQ.next (i + 1) [] (⟨by omega, fun j hj => by by_cases e : j = i; (· subst e; assumption); (· exact hI1.2 j (by omega))⟩) (by first | omega | (dsimp only; omega)) ⟨⟨(leq_is rfl rfl (by first | rfl | (rw [hst]; rfl) | (rw [hst]; simp; done) | (rw [hst]; done) | (rw [hst]))), (leq_is rfl rfl (by first | rfl | (rw [hst]; rfl) | (rw [hst]; simp; done) | (rw [hst]; done) | (rw [hst]))), (leq_is rfl rfl (by first | rfl | (rw [hst]; rfl) | (rw [hst]; simp; done) | (rw [hst]; done) | (rw [hst]))), trivial⟩, ⟨(leq_is rfl rfl rfl), (leq_elt rfl rfl rfl), (leq_is rfl rfl rfl), trivial⟩, ⟨hp_idx rfl (by first | rfl | (rw [hst]; rfl) | (rw [hst]; simp; done) | (rw [hst]; done) | (rw [hst])), trivial⟩, trivial, rfl, ⟨supg rfl, supg rfl, supg rfl, trivial⟩, ⟨supg rfl, supg rfl, supg rfl, trivial⟩, ⟨suph rfl rfl, trivial⟩, trivial, rfl, rfl⟩
                  done)
              done)
          done)
      done)
  · try simp only [decide_eq_false_iff_not] at hb1
    all_goals (
      refine W_exit ?_
      refine thenQ_e ?_
      refine loopQ_e ?_
      refine blockQ_x ?_
      refine thenQ_n ?_
      refine W_seq ?_
      refine W_regionE (c := 7) (c' := 9) (by kernel_rfl) rfl ?_
      refine Runs_p rfl (Valid.movek (A := Is _) rfl rfl) rfl rfl ?_ -- rle.go:135 move
      refine Runs_p rfl (Valid.eql rfl rfl rfl) rfl rfl ?_ -- rle.go:135 binOp
      refine Runs_nil ?_
      refine thenQ_n ?_
      refine W_cond _ rfl (fun hb7 => ?_) (fun hb7 => ?_)
      · try simp only [decide_eq_true_eq] at hb7
        all_goals (
          have hli : i = s.data.toList.length := by rw [len_ba]; omega
          have hlk : i < (reps s.data.toList).length := by subst hli; rw [reps_len, if_pos (by omega)]; omega
          have hget := reps_last s.data.toList (by rw [← hli]; omega)
          rw [← hli] at hget
          have hv1 := congrArg Prod.fst hget
          have hv2 := congrArg Prod.snd hget
          simp only at hv1 hv2
          refine W_regionE (c := 9) (c' := 12) (by kernel_rfl) rfl ?_
          refine Runs_p rfl (Valid.movek (A := Is _) rfl rfl) rfl rfl ?_ -- rle.go:136 move
          refine Runs_p rfl (Valid.movek (A := Is _) rfl rfl) rfl rfl ?_ -- rle.go:136 move
          refine Runs_y rfl (VOp.yieldx rfl rfl rfl (hlk) (hI1.2) ⟨argle (by first | exact congrArg (fun z : UInt8 => Is (Value.int .u8 (z.toNat : Int))) hv1.symm | exact congrArg (fun z : Int => Is (Value.int .i64 z)) hv2.symm), argle (by first | exact congrArg (fun z : UInt8 => Is (Value.int .u8 (z.toNat : Int))) hv1.symm | exact congrArg (fun z : Int => Is (Value.int .i64 z)) hv2.symm), trivial⟩ rfl) rfl rfl ?_ -- rle.go:136 yield
          refine Runs_nil ?_
          exact finIQ_n (ResOk.none rfl (fun _ _ => rfl)) rfl (by first | exact (stop_at hlk hI1.2 (by assumption)).symm | exact rp1 (l := s.data.toList) hI1.2 (by assumption) (by rw [len_ba]; omega) | exact rp2 (l := s.data.toList) hI1.2 (by assumption) (by rw [len_ba]; omega))
          done)
      · try simp only [decide_eq_false_iff_not] at hb7
        all_goals (
          refine W_skip ?_
          exact finIQ_n (ResOk.none rfl (fun _ _ => rfl)) rfl (by first | exact (stop_at hlk hI1.2 (by assumption)).symm | exact rp1 (l := s.data.toList) hI1.2 (by assumption) (by rw [len_ba]; omega) | exact rp2 (l := s.data.toList) hI1.2 (by assumption) (by rw [len_ba]; omega))
          done)
      done)

def lenV (s : ByteArray) : Nat := sumP (pcs s.data.toList)
def cutV (s : ByteArray) (r : Int) : Int := cutF (pcs s.data.toList) r
theorem pk_le (n : Nat) : pkd n ≤ 5 ∧ (1 ≤ n → 1 ≤ pkd n) := by unfold pkd; split <;> omega
theorem sumT_le (l : List (UInt8 × Nat)) (k : Nat) : sumP (l.take k) ≤ 5 * k := by
  have h1 := sumP_le (l.take k)
  rw [List.length_take] at h1; omega

set_option maxRecDepth 100000 in
set_option maxHeartbeats 1000000 in
theorem len_s (s : ByteArray) (hs : s.size ≤ 1000000000) :
    FPure Try.prog 14 [Is (.string s)] (Is (.int .i64 (lenV s : Int))) := by
  refine FPure.of Try.func14 Try.ntmps14 rfl (by kernel_rfl) rfl rfl rfl ?_
  refine W_seq ?_
  refine W_regionE (c := 1) (c' := 2) (by kernel_rfl) rfl ?_
  refine Runs_p rfl (Valid.assignk (A := Is _) rfl rfl) rfl rfl ?_ -- rle.go:35 assign
  refine Runs_nil ?_
  refine thenQ_n ?_
  refine W_seq ?_
  refine W_regionE (c := 2) (c' := 4) (by kernel_rfl) rfl ?_
  refine Runs_w rfl (Valid.alloc [(Value.int .i64 0)] rfl zv3 rfl) rfl rfl ?_ -- rle.go:36 alloc
  refine Runs_op rfl (Valid.store rfl sz3 rfl rfl (Nat.le_of_ble_eq_true rfl) (One.is rfl rfl rfl)) rfl ?_ -- rle.go:36 store
  refine Runs_nil ?_
  refine thenQ_n ?_
  refine W_seq ?_
  refine W_seq ?_
  refine W_regionE (c := 4) (c' := 6) (by kernel_rfl) rfl ?_
  refine Runs_p rfl (Valid.movek (A := Is _) rfl rfl) rfl rfl ?_ -- rle.go:37 move
  refine Runs_p rfl (Valid.call rfl (pieces_s _) ⟨argle rfl, trivial⟩) rfl rfl ?_ -- rle.go:37 call
  refine Runs_nil ?_
  refine thenQ_n ?_
  refine W_block ?_
  refine W_range (n := (pcs s.data.toList).length) (vals := fun q => [Is (.int .u8 (((pcs s.data.toList).getD q (0, 0)).1.toNat : Int)), Is (.int .i64 (((pcs s.data.toList).getD q (0, 0)).2 : Int))]) (go := fun _ => true) (jc := .ret) (h0 := [(1, .var 3 [Is _])]) (hin := fun k => [(1, .var 3 [Is (.int .i64 (sumP ((pcs s.data.toList).take k) : Int))])]) (hin' := fun k => [(16, .var 3 [Is (.int .i64 (sumP ((pcs s.data.toList).take k) : Int))])]) (fx := [(3, Ptr 1 0)]) [(1, 16)] [] rfl (capsOk_fz capsOk_nil) (pcs_it s (by omega)) (by kernel_rfl) (fun _ => rfl) (fun _ => valsOk_is [_, _]) (by kernel_rfl) ⟨(leq_ptr rfl rfl rfl), trivial⟩ (fun _ => by kernel_rfl) ⟨⟨_, rfl, .var ⟨(leq_is rfl rfl rfl), trivial⟩⟩, trivial⟩ (by kernel_rfl) (by kernel_rfl) (by kernel_rfl) ⟨hp_var rfl ⟨(leq_is rfl rfl (by rfl)), trivial⟩, trivial⟩ (by kernel_rfl) (by kernel_rfl) (fun _ => by kernel_rfl) (fun _ => by kernel_rfl) (fun _ => (hpup_cons (j := 16) rfl (cup_var (allup_cons (up_pure rfl) allup_nil)) hpup_nil)) (by kernel_rfl) (fun _ => by kernel_rfl) ?_ ?_ ?_
  · intro k hk1 hgo1
    have hpl := pcs_len s.data.toList
    rw [len_ba] at hpl
    have hst := sumT_le (pcs s.data.toList) k
    have hpk := pk_le ((pcs s.data.toList).getD k (0, 0)).2
    refine W_regionE (c := 2) (c' := 3) (by kernel_rfl) rfl ?_
    refine Runs_p rfl (Valid.assignk (A := Is _) rfl rfl) rfl rfl ?_ -- rle.go:37 assign
    refine Runs_nil ?_
    refine ⟨rfl, ?_⟩
    refine W_block ?_
    refine W_drawE (c := 3) (c' := 8) (by kernel_rfl) rfl ?_
    refine Runs_p rfl (Valid.load _ rfl ag3 rfl rfl rfl) rfl rfl ?_ -- rle.go:38 load
    refine Runs_p rfl (Valid.movek (A := Is _) rfl rfl) rfl rfl ?_ -- rle.go:38 move
    refine Runs_p rfl (Valid.call rfl (packed_s _ (by omega)) ⟨argle rfl, trivial⟩) rfl rfl ?_ -- rle.go:38 call
    refine Runs_p rfl (Valid.add rfl rfl rfl (room64 (by first | omega | (simp only [Int.toNat_natCast, toNat_add, toNat_add1, List.length_append, List.length_cons, List.length_nil, List.length_replicate]; omega)) (by first | omega | (simp only [Int.toNat_natCast]; omega)))) rfl rfl ?_ -- rle.go:38 binOp
    refine Runs_op rfl (Valid.store rfl sz3 rfl rfl (Nat.le_of_ble_eq_true rfl) (One.is rfl rfl rfl)) rfl ?_ -- rle.go:38 store
    refine Runs_nil ?_
    refine ⟨_, _, rfl, rfl, by kernel_rfl, ?_⟩
    refine blockQ_n ?_
    exact roundQ_n [] (by first | rfl | assumption) ⟨hp_var rfl ⟨(leq_is rfl rfl (by first | rfl | exact congrArg (Value.int .i64) (by rw [sumP_succ _ hk1]; simp))), trivial⟩, trivial⟩ rfl rfl
  · intro hall1
    refine blockQ_n ?_
    refine thenQ_n ?_
    refine W_seq ?_
    refine W_regionE (c := 7) (c' := 9) (by kernel_rfl) rfl ?_
    refine Runs_p rfl (Valid.load _ rfl ag3 rfl rfl rfl) rfl rfl ?_ -- rle.go:40 load
    refine Runs_p rfl (Valid.assignk (A := Is _) rfl rfl) rfl rfl ?_ -- rle.go:40 assign
    refine Runs_nil ?_
    refine thenQ_n ?_
    refine W_ret ?_
    refine finQ_r ?_
    refine ResOk.one rfl (RVal.is rfl rfl (by rw [List.take_length]; rfl))
  · intro k hk1 hgo1 hgk1
    exact absurd hgk1 (by decide)
    

theorem goT_t {r : List (UInt8 × Int)} {k : Nat} (h : ¬ (r.getD k (0, 0)).2 = -9223372036854775808) : goT r k = true := by
  unfold goT lackI; simpa using h
theorem goT_f {r : List (UInt8 × Int)} {k : Nat} (h : (r.getD k (0, 0)).2 = -9223372036854775808) : goT r k = false := by
  unfold goT lackI; simpa using h
theorem goC_t {ps : List (UInt8 × Nat)} {r : Int} {k : Nat} (h : ¬ (cutS ps r k).1 < (pkd (ps.getD k (0, 0)).2 : Int)) : goC ps r k = true := by
  unfold goC; simpa using h
theorem goC_f {ps : List (UInt8 × Nat)} {r : Int} {k : Nat} (h : (cutS ps r k).1 < (pkd (ps.getD k (0, 0)).2 : Int)) : goC ps r k = false := by
  unfold goC; simpa using h

set_option maxRecDepth 100000 in
set_option maxHeartbeats 1000000 in
theorem cut_s (s : ByteArray) (r : Int) (hr : -9223372036854775808 ≤ r ∧ r ≤ 9223372036854775807) (hs : s.size ≤ 1000000000) :
    FPure Try.prog 18 [Is (.string s), Is (.int .i64 r)] (Is (.int .i64 (cutV s r))) := by
  refine FPure.of Try.func18 Try.ntmps18 rfl (by kernel_rfl) rfl rfl rfl ?_
  refine W_seq ?_
  refine W_regionE (c := 1) (c' := 3) (by kernel_rfl) rfl ?_
  refine Runs_w rfl (Valid.box rfl (One.is rfl rfl rfl)) rfl rfl ?_ -- rle.go:44 box
  refine Runs_w rfl (Valid.alloc [(Value.int .i64 0)] rfl zv3 rfl) rfl rfl ?_ -- rle.go:44 alloc
  refine Runs_nil ?_
  refine thenQ_n ?_
  refine W_seq ?_
  refine W_regionE (c := 3) (c' := 5) (by kernel_rfl) rfl ?_
  refine Runs_w rfl (Valid.alloc [(Value.int .i64 0)] rfl zv3 rfl) rfl rfl ?_ -- rle.go:45 alloc
  refine Runs_op rfl (Valid.store rfl sz3 rfl rfl (Nat.le_of_ble_eq_true rfl) (One.is rfl rfl rfl)) rfl ?_ -- rle.go:45 store
  refine Runs_nil ?_
  refine thenQ_n ?_
  refine W_seq ?_
  refine W_seq ?_
  refine W_regionE (c := 5) (c' := 7) (by kernel_rfl) rfl ?_
  refine Runs_p rfl (Valid.movek (A := Is _) rfl rfl) rfl rfl ?_ -- rle.go:46 move
  refine Runs_p rfl (Valid.call rfl (pieces_s _) ⟨argle rfl, trivial⟩) rfl rfl ?_ -- rle.go:46 call
  refine Runs_nil ?_
  refine thenQ_n ?_
  refine W_block ?_
  refine W_range (n := (pcs s.data.toList).length) (vals := fun q => [Is (.int .u8 (((pcs s.data.toList).getD q (0, 0)).1.toNat : Int)), Is (.int .i64 (((pcs s.data.toList).getD q (0, 0)).2 : Int))]) (go := goC (pcs s.data.toList) r) (jc := .ret) (h0 := [(1, .var 3 [Is _]), (2, .var 3 [Is _]), (3, .var 3 [Is _])]) (hin := fun k => [(1, .var 3 [Is (.int .i64 (cutS (pcs s.data.toList) r k).1)]), (2, .var 3 [Is (.int .i64 (cutS (pcs s.data.toList) r k).2.2)]), (3, .var 3 [Is (.int .i64 (cutS (pcs s.data.toList) r k).2.1)])]) (hin' := fun k => [(8, .var 3 [Is (.int .i64 (cutS (pcs s.data.toList) r k).1)]), (16, .var 3 [Is (.int .i64 (cutS (pcs s.data.toList) r k).2.2)]), (24, .var 3 [Is (.int .i64 (cutS (pcs s.data.toList) r k).2.1)])]) (fx := [(3, Ptr 1 0), (4, Ptr 2 0), (5, Ptr 3 0)]) [(1, 8), (2, 16), (3, 24)] [] rfl (capsOk_fz capsOk_nil) (pcs_it s (by omega)) (by kernel_rfl) (fun _ => rfl) (fun _ => valsOk_is [_, _]) (by kernel_rfl) ⟨(leq_ptr rfl rfl rfl), (leq_ptr rfl rfl rfl), (leq_ptr rfl rfl rfl), trivial⟩ (fun _ => by kernel_rfl) ⟨⟨_, rfl, .var ⟨(leq_is rfl rfl rfl), trivial⟩⟩, ⟨_, rfl, .var ⟨(leq_is rfl rfl rfl), trivial⟩⟩, ⟨_, rfl, .var ⟨(leq_is rfl rfl rfl), trivial⟩⟩, trivial⟩ (by kernel_rfl) (by kernel_rfl) (by kernel_rfl) ⟨hp_var rfl ⟨(leq_is rfl rfl (by rfl)), trivial⟩, hp_var rfl ⟨(leq_is rfl rfl (by rfl)), trivial⟩, hp_var rfl ⟨(leq_is rfl rfl (by rfl)), trivial⟩, trivial⟩ (by kernel_rfl) (by kernel_rfl) (fun _ => by kernel_rfl) (fun _ => by kernel_rfl) (fun _ => (hpup_cons (j := 8) rfl (cup_var (allup_cons (up_pure rfl) allup_nil)) (hpup_cons (j := 16) rfl (cup_var (allup_cons (up_pure rfl) allup_nil)) (hpup_cons (j := 24) rfl (cup_var (allup_cons (up_pure rfl) allup_nil)) hpup_nil)))) (by kernel_rfl) (fun _ => by kernel_rfl) ?_ ?_ ?_
  · intro k hk1 hgo1
    have hpl := pcs_len s.data.toList
    rw [len_ba] at hpl
    have hpk := pk_le ((pcs s.data.toList).getD k (0, 0)).2
    have hpn := pcs_getD hk1
    have hbd := cutS_bd (l := s.data.toList) hr k hgo1 (by omega)
    refine W_regionE (c := 2) (c' := 3) (by kernel_rfl) rfl ?_
    refine Runs_p rfl (Valid.assignk (A := Is _) rfl rfl) rfl rfl ?_ -- rle.go:46 assign
    refine Runs_nil ?_
    refine ⟨rfl, ?_⟩
    refine W_block ?_
    refine W_seq ?_
    refine W_seq ?_
    refine W_drawE (c := 3) (c' := 7) (by kernel_rfl) rfl ?_
    refine Runs_p rfl (Valid.movek (A := Is _) rfl rfl) rfl rfl ?_ -- rle.go:47 move
    refine Runs_p rfl (Valid.call rfl (packed_s _ (by omega)) ⟨argle rfl, trivial⟩) rfl rfl ?_ -- rle.go:47 call
    refine Runs_p rfl (Valid.load _ rfl ag3 rfl rfl rfl) rfl rfl ?_ -- rle.go:47 load
    refine Runs_p rfl (Valid.gtr rfl rfl rfl) rfl rfl ?_ -- rle.go:47 binOp
    refine Runs_nil ?_
    refine ⟨_, _, rfl, rfl, by kernel_rfl, ?_⟩
    refine thenQ_n ?_
    refine W_cond _ rfl (fun hb1 => ?_) (fun hb1 => ?_)
    · try simp only [Int.toNat_natCast, decide_eq_true_eq] at hb1
      all_goals (
        refine W_seq ?_
        refine W_regionE (c := 7) (c' := 14) (by kernel_rfl) rfl ?_
        refine Runs_p rfl (Valid.load _ rfl ag3 rfl rfl rfl) rfl rfl ?_ -- rle.go:49 load
        refine Runs_p rfl (Valid.load _ rfl ag3 rfl rfl rfl) rfl rfl ?_ -- rle.go:49 load
        refine Runs_p rfl (Valid.movek (A := Is _) rfl rfl) rfl rfl ?_ -- rle.go:49 move
        refine Runs_p rfl (Valid.min3 rfl rfl rfl rfl) rfl rfl ?_ -- rle.go:49 call
        refine Runs_p rfl (Valid.max rfl rfl rfl) rfl rfl ?_ -- rle.go:49 call
        refine Runs_p rfl (Valid.add rfl rfl rfl (room64 (by first | omega | (simp only [Int.toNat_natCast, toNat_add, toNat_add1, List.length_append, List.length_cons, List.length_nil, List.length_replicate]; omega)) (by first | omega | (simp only [Int.toNat_natCast, toNat_add, toNat_add1, List.length_append, List.length_cons, List.length_nil, List.length_replicate]; omega)))) rfl rfl ?_ -- rle.go:49 binOp
        refine Runs_op rfl (Valid.store rfl sz3 rfl rfl (Nat.le_of_ble_eq_true rfl) (One.is rfl rfl rfl)) rfl ?_ -- rle.go:49 store
        refine Runs_nil ?_
        refine thenQ_n ?_
        refine W_ret ?_
        refine thenQ_r ?_
        refine blockQ_r ?_
        exact roundQ_r [] (goC_f (by assumption)) ⟨hp_var rfl ⟨(leq_is rfl rfl (by first | rfl | (refine congrArg (Value.int .i64) ?_; rw [cutS_n (goC_f (by assumption))]; done) | (refine congrArg (Value.int .i64) ?_; rw [cutS_y (goC_t (by assumption))]; done) | (refine congrArg (Value.int .i64) ?_; rw [cutS_y (goC_t (by assumption))]; simp only [Int.toNat_natCast]; done) | (refine congrArg (Value.int .i64) ?_; rw [cutS_y (goC_t (by assumption))]; exact hbd.2.2.2.2.2; done))), trivial⟩, hp_var rfl ⟨(leq_is rfl rfl (by first | rfl | (refine congrArg (Value.int .i64) ?_; rw [cutS_n (goC_f (by assumption))]; done) | (refine congrArg (Value.int .i64) ?_; rw [cutS_y (goC_t (by assumption))]; done) | (refine congrArg (Value.int .i64) ?_; rw [cutS_y (goC_t (by assumption))]; simp only [Int.toNat_natCast]; done) | (refine congrArg (Value.int .i64) ?_; rw [cutS_y (goC_t (by assumption))]; exact hbd.2.2.2.2.2; done))), trivial⟩, hp_var rfl ⟨(leq_is rfl rfl (by first | rfl | (refine congrArg (Value.int .i64) ?_; rw [cutS_n (goC_f (by assumption))]; done) | (refine congrArg (Value.int .i64) ?_; rw [cutS_y (goC_t (by assumption))]; done) | (refine congrArg (Value.int .i64) ?_; rw [cutS_y (goC_t (by assumption))]; simp only [Int.toNat_natCast]; done) | (refine congrArg (Value.int .i64) ?_; rw [cutS_y (goC_t (by assumption))]; exact hbd.2.2.2.2.2; done))), trivial⟩, trivial⟩ rfl rfl
        done)
    · try simp only [Int.toNat_natCast, decide_eq_false_iff_not] at hb1
      all_goals (
        refine W_skip ?_
        refine thenQ_n ?_
        refine W_seq ?_
        refine W_regionE (c := 7) (c' := 11) (by kernel_rfl) rfl ?_
        refine Runs_p rfl (Valid.load _ rfl ag3 rfl rfl rfl) rfl rfl ?_ -- rle.go:51 load
        refine Runs_p rfl (Valid.movek (A := Is _) rfl rfl) rfl rfl ?_ -- rle.go:51 move
        refine Runs_p rfl (Valid.add rfl rfl rfl (room64 (by first | omega | (simp only [Int.toNat_natCast, toNat_add, toNat_add1, List.length_append, List.length_cons, List.length_nil, List.length_replicate]; omega)) (by first | omega | (simp only [Int.toNat_natCast, toNat_add, toNat_add1, List.length_append, List.length_cons, List.length_nil, List.length_replicate]; omega)))) rfl rfl ?_ -- rle.go:51 binOp
        refine Runs_op rfl (Valid.store rfl sz3 rfl rfl (Nat.le_of_ble_eq_true rfl) (One.is rfl rfl rfl)) rfl ?_ -- rle.go:51 store
        refine Runs_nil ?_
        refine thenQ_n ?_
        refine W_drawE (c := 11) (c' := 16) (by kernel_rfl) rfl ?_
        refine Runs_p rfl (Valid.load _ rfl ag3 rfl rfl rfl) rfl rfl ?_ -- rle.go:52 load
        refine Runs_p rfl (Valid.movek (A := Is _) rfl rfl) rfl rfl ?_ -- rle.go:52 move
        refine Runs_p rfl (Valid.call rfl (packed_s _ (by omega)) ⟨argle rfl, trivial⟩) rfl rfl ?_ -- rle.go:52 call
        refine Runs_p rfl (Valid.sub rfl rfl rfl (room64 (by first | omega | (simp only [Int.toNat_natCast]; omega)) (by first | omega | (simp only [Int.toNat_natCast, toNat_add, toNat_add1, List.length_append, List.length_cons, List.length_nil, List.length_replicate]; omega)))) rfl rfl ?_ -- rle.go:52 binOp
        refine Runs_op rfl (Valid.store rfl sz3 rfl rfl (Nat.le_of_ble_eq_true rfl) (One.is rfl rfl rfl)) rfl ?_ -- rle.go:52 store
        refine Runs_nil ?_
        refine ⟨_, _, rfl, rfl, by kernel_rfl, ?_⟩
        refine blockQ_n ?_
        exact roundQ_n [] (goC_t (by assumption)) ⟨hp_var rfl ⟨(leq_is rfl rfl (by first | rfl | (refine congrArg (Value.int .i64) ?_; rw [cutS_n (goC_f (by assumption))]; done) | (refine congrArg (Value.int .i64) ?_; rw [cutS_y (goC_t (by assumption))]; done) | (refine congrArg (Value.int .i64) ?_; rw [cutS_y (goC_t (by assumption))]; simp only [Int.toNat_natCast]; done) | (refine congrArg (Value.int .i64) ?_; rw [cutS_y (goC_t (by assumption))]; exact hbd.2.2.2.2.2; done))), trivial⟩, hp_var rfl ⟨(leq_is rfl rfl (by first | rfl | (refine congrArg (Value.int .i64) ?_; rw [cutS_n (goC_f (by assumption))]; done) | (refine congrArg (Value.int .i64) ?_; rw [cutS_y (goC_t (by assumption))]; done) | (refine congrArg (Value.int .i64) ?_; rw [cutS_y (goC_t (by assumption))]; simp only []; done) | (refine congrArg (Value.int .i64) ?_; rw [cutS_y (goC_t (by assumption))]; exact hbd.2.2.2.2.2; done))), trivial⟩, hp_var rfl ⟨(leq_is rfl rfl (by first | rfl | (refine congrArg (Value.int .i64) ?_; rw [cutS_n (goC_f (by assumption))]; done) | (refine congrArg (Value.int .i64) ?_; rw [cutS_y (goC_t (by assumption))]; done) | (refine congrArg (Value.int .i64) ?_; rw [cutS_y (goC_t (by assumption))]; simp only [Int.toNat_natCast]; done) | (refine congrArg (Value.int .i64) ?_; rw [cutS_y (goC_t (by assumption))]; exact hbd.2.2.2.2.2; done))), trivial⟩, trivial⟩ rfl rfl
        done)
  · intro hall1
    refine blockQ_n ?_
    refine thenQ_n ?_
    refine W_seq ?_
    refine W_regionE (c := 8) (c' := 10) (by kernel_rfl) rfl ?_
    refine Runs_p rfl (Valid.load _ rfl ag3 rfl rfl rfl) rfl rfl ?_ -- rle.go:54 load
    refine Runs_op rfl (Valid.store rfl sz3 rfl rfl (Nat.le_of_ble_eq_true rfl) (One.is rfl rfl rfl)) rfl ?_ -- rle.go:54 store
    refine Runs_nil ?_
    refine thenQ_n ?_
    refine W_ret ?_
    refine finQ_r ?_
    refine ResOk.one rfl (RVal.cell ag3 rfl rfl rfl (by first | exact argle (congrArg (fun z : Int => Is (Value.int .i64 z)) (cut_end hall1).symm) | exact argle (congrArg (fun z : Int => Is (Value.int .i64 z)) (cut_stop hk1 hgo1 hgk1).symm)))
  · intro k hk1 hgo1 hgk1
    refine W_ret ?_
    refine blockQ_r ?_
    refine thenQ_r ?_
    refine finQ_r ?_
    refine ResOk.one rfl (RVal.cell ag3 rfl rfl rfl (by first | exact argle (congrArg (fun z : Int => Is (Value.int .i64 z)) (cut_end hall1).symm) | exact argle (congrArg (fun z : Int => Is (Value.int .i64 z)) (cut_stop hk1 hgo1 hgk1).symm)))

set_option maxRecDepth 100000 in
set_option maxHeartbeats 1000000 in
theorem told_s (s : ByteArray) (hs : s.size ≤ 1000000000) :
    FPure Try.prog 26 [Is (.string s)] (Tup [Is (.int .i64 (tolV s.data.toList).1), Is (.bool (tolV s.data.toList).2)]) := by
  refine FPure.of Try.func26 Try.ntmps26 rfl (by kernel_rfl) rfl rfl rfl ?_
  refine W_seq ?_
  refine W_regionE (c := 1) (c' := 3) (by kernel_rfl) rfl ?_
  refine Runs_w rfl (Valid.alloc [(Value.int .i64 0)] rfl zv3 rfl) rfl rfl ?_ -- rle.go:106 alloc
  refine Runs_w rfl (Valid.alloc [(Value.bool false)] rfl zv4 rfl) rfl rfl ?_ -- rle.go:106 alloc
  refine Runs_nil ?_
  refine thenQ_n ?_
  refine W_seq ?_
  refine W_seq ?_
  refine W_regionE (c := 3) (c' := 5) (by kernel_rfl) rfl ?_
  refine Runs_p rfl (Valid.movek (A := Is _) rfl rfl) rfl rfl ?_ -- rle.go:107 move
  refine Runs_p rfl (Valid.call rfl (repeats_s _) ⟨argle rfl, trivial⟩) rfl rfl ?_ -- rle.go:107 call
  refine Runs_nil ?_
  refine thenQ_n ?_
  refine W_block ?_
  refine W_range (n := (reps s.data.toList).length) (vals := fun q => [Is (.int .u8 (((reps s.data.toList).getD q (0, 0)).1.toNat : Int)), Is (.int .i64 ((reps s.data.toList).getD q (0, 0)).2)]) (go := goT (reps s.data.toList)) (jc := .ret) (h0 := [(1, .var 3 [Is _]), (2, .var 4 [Is _])]) (hin := fun k => [(1, .var 3 [Is (.int .i64 (tolS (reps s.data.toList) k))]), (2, .var 4 [Is (.bool false)])]) (hin' := fun k => [(8, .var 3 [Is (.int .i64 (tolS (reps s.data.toList) k))]), (16, .var 4 [Is (.bool false)])]) (fx := [(2, Ptr 1 0), (3, Ptr 2 0)]) [(1, 8), (2, 16)] [] rfl (capsOk_fz capsOk_nil) (reps_it s (by omega)) (by kernel_rfl) (fun _ => rfl) (fun _ => valsOk_is [_, _]) (by kernel_rfl) ⟨(leq_ptr rfl rfl rfl), (leq_ptr rfl rfl rfl), trivial⟩ (fun _ => by kernel_rfl) ⟨⟨_, rfl, .var ⟨(leq_is rfl rfl rfl), trivial⟩⟩, ⟨_, rfl, .var ⟨(leq_is rfl rfl rfl), trivial⟩⟩, trivial⟩ (by kernel_rfl) (by kernel_rfl) (by kernel_rfl) ⟨hp_var rfl ⟨(leq_is rfl rfl (by rfl)), trivial⟩, hp_var rfl ⟨(leq_is rfl rfl (by rfl)), trivial⟩, trivial⟩ (by kernel_rfl) (by kernel_rfl) (fun _ => by kernel_rfl) (fun _ => by kernel_rfl) (fun _ => (hpup_cons (j := 8) rfl (cup_var (allup_cons (up_pure rfl) allup_nil)) (hpup_cons (j := 16) rfl (cup_var (allup_cons (up_pure rfl) allup_nil)) hpup_nil))) (by kernel_rfl) (fun _ => by kernel_rfl) ?_ ?_ ?_
  · intro k hk1 hgo1
    have hrl := reps_len s.data.toList
    rw [len_ba] at hrl
    have hbd := tolS_bd (l := s.data.toList) (k := k) (by omega) hgo1
    have hkb : k ≤ s.size + 1 := by split at hrl <;> omega
    refine W_regionE (c := 2) (c' := 3) (by kernel_rfl) rfl ?_
    refine Runs_p rfl (Valid.assignk (A := Is _) rfl rfl) rfl rfl ?_ -- rle.go:107 assign
    refine Runs_nil ?_
    refine ⟨rfl, ?_⟩
    refine W_block ?_
    refine W_seq ?_
    refine W_seq ?_
    refine W_regionE (c := 3) (c' := 5) (by kernel_rfl) rfl ?_
    refine Runs_p rfl (Valid.movek (A := Is _) rfl rfl) rfl rfl ?_ -- rle.go:108 move
    refine Runs_p rfl (Valid.eql rfl rfl rfl) rfl rfl ?_ -- rle.go:108 binOp
    refine Runs_nil ?_
    refine thenQ_n ?_
    refine W_cond _ rfl (fun hb1 => ?_) (fun hb1 => ?_)
    · try simp only [decide_eq_true_eq] at hb1
      all_goals (
        refine W_seq ?_
        refine W_regionE (c := 5) (c' := 7) (by kernel_rfl) rfl ?_
        refine Runs_op rfl (Valid.store rfl sz3 rfl rfl (Nat.le_of_ble_eq_true rfl) (One.is rfl rfl rfl)) rfl ?_ -- rle.go:109 store
        refine Runs_op rfl (Valid.store rfl sz4 rfl rfl (Nat.le_of_ble_eq_true rfl) (One.is rfl rfl rfl)) rfl ?_ -- rle.go:109 store
        refine Runs_nil ?_
        refine thenQ_n ?_
        refine W_ret ?_
        refine thenQ_r ?_
        refine blockQ_r ?_
        exact roundQ_r [] (goT_f (by assumption)) ⟨hp_var rfl ⟨(leq_is rfl rfl (by first | rfl | exact congrArg (Value.int .i64) (goT_n (goT_f (by assumption))).symm | exact congrArg (Value.int .i64) (goT_y (goT_t (by assumption))).symm)), trivial⟩, hp_var rfl ⟨(leq_is rfl rfl (by first | rfl | exact congrArg (Value.int .i64) (goT_n (goT_f (by assumption))).symm | exact congrArg (Value.int .i64) (goT_y (goT_t (by assumption))).symm)), trivial⟩, trivial⟩ rfl rfl
        done)
    · try simp only [decide_eq_false_iff_not] at hb1
      all_goals (
        refine W_skip ?_
        refine thenQ_n ?_
        refine W_regionE (c := 5) (c' := 9) (by kernel_rfl) rfl ?_
        refine Runs_p rfl (Valid.load _ rfl ag3 rfl rfl rfl) rfl rfl ?_ -- rle.go:111 load
        refine Runs_p rfl (Valid.movek (A := Is _) rfl rfl) rfl rfl ?_ -- rle.go:111 move
        refine Runs_p rfl (Valid.add rfl rfl rfl (room64 (by have hg2 := reps_ge (go_k hk1 (goT_t (by assumption))); omega) (by have hg2 := reps_ge (go_k hk1 (goT_t (by assumption))); omega))) rfl rfl ?_ -- rle.go:111 binOp
        refine Runs_op rfl (Valid.store rfl sz3 rfl rfl (Nat.le_of_ble_eq_true rfl) (One.is rfl rfl rfl)) rfl ?_ -- rle.go:111 store
        refine Runs_nil ?_
        refine blockQ_n ?_
        exact roundQ_n [] (goT_t (by assumption)) ⟨hp_var rfl ⟨(leq_is rfl rfl (by first | rfl | exact congrArg (Value.int .i64) (goT_n (goT_f (by assumption))).symm | exact congrArg (Value.int .i64) (goT_y (goT_t (by assumption))).symm)), trivial⟩, hp_var rfl ⟨(leq_is rfl rfl (by first | rfl | exact congrArg (Value.int .i64) (goT_n (goT_f (by assumption))).symm | exact congrArg (Value.int .i64) (goT_y (goT_t (by assumption))).symm)), trivial⟩, trivial⟩ rfl rfl
        done)
  · intro hall1
    refine blockQ_n ?_
    refine thenQ_n ?_
    refine W_seq ?_
    refine W_regionE (c := 6) (c' := 9) (by kernel_rfl) rfl ?_
    refine Runs_p rfl (Valid.load _ rfl ag3 rfl rfl rfl) rfl rfl ?_ -- rle.go:113 load
    refine Runs_op rfl (Valid.store rfl sz3 rfl rfl (Nat.le_of_ble_eq_true rfl) (One.is rfl rfl rfl)) rfl ?_ -- rle.go:113 store
    refine Runs_op rfl (Valid.store rfl sz4 rfl rfl (Nat.le_of_ble_eq_true rfl) (One.is rfl rfl rfl)) rfl ?_ -- rle.go:113 store
    refine Runs_nil ?_
    refine thenQ_n ?_
    refine W_ret ?_
    refine finQ_r ?_
    refine ResOk.two rfl (RVal.cell ag3 rfl rfl rfl (by first | exact argle (congrArg (fun z : Int × Bool => Is (Value.int .i64 z.1)) (tol_end hall1).symm) | exact argle (congrArg (fun z : Int => Is (Value.int .i64 z)) (show tolS (reps s.data.toList) (k + 1) = (tolV s.data.toList).1 by rw [tol_stop hk1 hgk1, goT_n hgk1])) | exact argle (congrArg (fun z : Int × Bool => Is (Value.bool z.2)) (tol_end hall1).symm) | exact argle (congrArg (fun z : Int × Bool => Is (Value.bool z.2)) (tol_stop hk1 hgk1).symm))) (RVal.cell ag4 rfl rfl rfl (by first | exact argle (congrArg (fun z : Int × Bool => Is (Value.int .i64 z.1)) (tol_end hall1).symm) | exact argle (congrArg (fun z : Int => Is (Value.int .i64 z)) (show tolS (reps s.data.toList) (k + 1) = (tolV s.data.toList).1 by rw [tol_stop hk1 hgk1, goT_n hgk1])) | exact argle (congrArg (fun z : Int × Bool => Is (Value.bool z.2)) (tol_end hall1).symm) | exact argle (congrArg (fun z : Int × Bool => Is (Value.bool z.2)) (tol_stop hk1 hgk1).symm)))
  · intro k hk1 hgo1 hgk1
    refine W_ret ?_
    refine blockQ_r ?_
    refine thenQ_r ?_
    refine finQ_r ?_
    refine ResOk.two rfl (RVal.cell ag3 rfl rfl rfl (by first | exact argle (congrArg (fun z : Int × Bool => Is (Value.int .i64 z.1)) (tol_end hall1).symm) | exact argle (congrArg (fun z : Int => Is (Value.int .i64 z)) (show tolS (reps s.data.toList) (k + 1) = (tolV s.data.toList).1 by rw [tol_stop hk1 hgk1, goT_n hgk1])) | exact argle (congrArg (fun z : Int × Bool => Is (Value.bool z.2)) (tol_end hall1).symm) | exact argle (congrArg (fun z : Int × Bool => Is (Value.bool z.2)) (tol_stop hk1 hgk1).symm))) (RVal.cell ag4 rfl rfl rfl (by first | exact argle (congrArg (fun z : Int × Bool => Is (Value.int .i64 z.1)) (tol_end hall1).symm) | exact argle (congrArg (fun z : Int => Is (Value.int .i64 z)) (show tolS (reps s.data.toList) (k + 1) = (tolV s.data.toList).1 by rw [tol_stop hk1 hgk1, goT_n hgk1])) | exact argle (congrArg (fun z : Int × Bool => Is (Value.bool z.2)) (tol_end hall1).symm) | exact argle (congrArg (fun z : Int × Bool => Is (Value.bool z.2)) (tol_stop hk1 hgk1).symm)))
end Rc
end Go.Proofs.Ytmilegikgbmjpaa
