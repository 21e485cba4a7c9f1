/-
  WALKS of stage 7: an alphabet has each byte of a text.
-/
import Derived.Test.YtlcephckjhiggaaRows
import Derived.Test.YtlcephckjhiggaaAbt
import Derived.Test.YtlcephckjhiggaaBb
import Derived.Test.YtlcephckjhiggaaCa
import Derived.Test.YtlcephckjhiggaaGa
import Derived.Test.YtlcephckjhiggaaGb
import Derived.Test.YtlcephckjhiggaaGc
import Derived.Test.YtlcephckjhiggaaGd
import Derived.Test.YtlcephckjhiggaaGe
import Derived.Test.YtlcephckjhiggaaGf
import Derived.Test.YtlcephckjhiggaaGg
import Derived.Test.YtlcephckjhiggaaGh
import Derived.Test.YtlcephckjhiggaaGi
import Derived.Test.YtlcephckjhiggaaGj
import Derived.Test.YtlcephckjhiggaaGk
namespace Go.Proofs.Ytlcephckjhiggaa
open Go.RowKit
namespace Hb
open Ab Bm Bt Bb Ca Ga Gb Gc Gd Ge Gf Gg Gh Gi Gj Gk
theorem tf25 : TwoF Try.prog 25 .i64 { name := "Data", type := 9, offset := 0, embedded := false, tag := "", pkgPath := "", byteOffset := 0 } { name := "N", type := 3, offset := 1, embedded := false, tag := "", pkgPath := "", byteOffset := 16 } where
  und := by kernel_rfl
  plain := by kernel_rfl
  guard := by kernel_rfl
  flds := by kernel_rfl
  nf := by decide
  ng := by decide
  sf := Try.underlying9
  sg := Try.underlying3
  pf := fun _ _ _ => by kernel_rfl
  pg := fun _ _ _ => by kernel_rfl
theorem or_i {s : ByteArray} {k c : Nat} : ((hasL s k).getD c false || decide ((((bat s (k : Int)).toNat : Nat) : Int) = ((c : Nat) : Int))) = (hasL s (k + 1)).getD c false := by
  rw [has_set, Bool.or_comm]
  congr 1
  exact decide_eq_decide.2 (by omega)
theorem or_j {s : ByteArray} {k c : Nat} : ((hasL s k).getD c false || decide (((c : Nat) : Int) = (((bat s (k : Int)).toNat : Nat) : Int))) = (hasL s (k + 1)).getD c false := by
  rw [has_set, Bool.or_comm]
  congr 1
  exact decide_eq_decide.2 (by omega)
theorem al_swap (x y : ByteArray) : alV (x ++ y) = alV (y ++ x ++ y) := al_of (has_ext fun c hc => by
  rw [has_cat _ _ hc, has_cat _ _ hc, has_cat _ _ hc]
  cases (hasV x).getD c false <;> cases (hasV y).getD c false <;> rfl)
theorem map_swap (x y : ByteArray) : mapB (x ++ y) = mapB (y ++ x ++ x) := map_of (has_ext fun c hc => by
  rw [has_cat _ _ hc, has_cat _ _ hc, has_cat _ _ hc]
  cases (hasV x).getD c false <;> cases (hasV y).getD c false <;> rfl)
theorem al_in {x : ByteArray} {k : Nat} (h : k < x.size) : (hasV (alV x)).getD (bat x (k : Int)).toNat false = true := by rw [has_alV]; exact has_y h rfl

set_option maxRecDepth 100000 in
set_option maxHeartbeats 1000000 in
theorem alph_law (s : ByteArray) (hs : s.size ≤ 9223372036854775807) (t : ByteArray) (ht : t.size ≤ 9223372036854775807) :
    FPure Try.prog 5 [Is (.string s), Is (.string t)] (Is (.bool true)) := by
  refine FPure.of Try.func5 Try.ntmps5 rfl (by kernel_rfl) rfl rfl rfl ?_
  refine W_seq ?_
  refine W_regionE (c := 1) (c' := 2) (by kernel_rfl) rfl ?_
  refine Runs_p rfl (Valid.assignk (A := Is _) rfl rfl) rfl rfl ?_ -- law.go:68 assign
  refine Runs_nil ?_
  refine thenQ_n ?_
  refine W_seq ?_
  refine W_regionE (c := 2) (c' := 4) (by kernel_rfl) rfl ?_
  refine Runs_p rfl (Valid.call rfl (awake7_s) trivial) rfl rfl ?_ -- law.go:69 call
  refine Runs_p rfl (Valid.assignk (A := Is _) rfl rfl) rfl rfl ?_ -- law.go:69 assign
  refine Runs_nil ?_
  refine thenQ_n ?_
  refine W_seq ?_
  refine W_regionE (c := 4) (c' := 10) (by kernel_rfl) rfl ?_
  refine Runs_p rfl (Valid.movek (A := Is _) rfl rfl) rfl rfl ?_ -- law.go:70 move
  refine Runs_p rfl (Valid.movek (A := Is _) rfl rfl) rfl rfl ?_ -- law.go:70 move
  refine Runs_p rfl (Valid.slen rfl Try.underlying9 rfl) rfl rfl ?_ -- law.go:70 call
  refine Runs_p rfl (Valid.min rfl rfl rfl) rfl rfl ?_ -- law.go:70 call
  refine Runs_p rfl (Valid.ssliceto rfl Try.underlying9 rfl rfl (by first | omega | (simp only [Int.toNat_natCast, toNat_add, toNat_add1, List.length_append, List.length_cons, List.length_nil, List.length_replicate]; omega))) rfl rfl ?_ -- law.go:70 slice
  refine Runs_p rfl (Valid.assignk (A := Is _) rfl rfl) rfl rfl ?_ -- law.go:70 assign
  refine Runs_nil ?_
  refine thenQ_n ?_
  refine W_seq ?_
  have hxs : (s.extract 0 (min (s.size : Int) 100).toNat).size ≤ 100 := by rw [ByteArray.size_extract]; omega
  generalize (s.extract 0 (min (s.size : Int) 100).toNat) = x at *
  refine W_regionE (c := 10) (c' := 16) (by kernel_rfl) rfl ?_
  refine Runs_p rfl (Valid.movek (A := Is _) rfl rfl) rfl rfl ?_ -- law.go:71 move
  refine Runs_p rfl (Valid.movek (A := Is _) rfl rfl) rfl rfl ?_ -- law.go:71 move
  refine Runs_p rfl (Valid.slen rfl Try.underlying9 rfl) rfl rfl ?_ -- law.go:71 call
  refine Runs_p rfl (Valid.min rfl rfl rfl) rfl rfl ?_ -- law.go:71 call
  refine Runs_p rfl (Valid.ssliceto rfl Try.underlying9 rfl rfl (by first | omega | (simp only [Int.toNat_natCast, toNat_add, toNat_add1, List.length_append, List.length_cons, List.length_nil, List.length_replicate]; omega))) rfl rfl ?_ -- law.go:71 slice
  refine Runs_p rfl (Valid.assignk (A := Is _) rfl rfl) rfl rfl ?_ -- law.go:71 assign
  refine Runs_nil ?_
  refine thenQ_n ?_
  refine W_seq ?_
  have hys : (t.extract 0 (min (t.size : Int) 100).toNat).size ≤ 100 := by rw [ByteArray.size_extract]; omega
  generalize (t.extract 0 (min (t.size : Int) 100).toNat) = y at *
  have has_ := alV_le x
  refine W_regionE (c := 16) (c' := 19) (by kernel_rfl) rfl ?_
  refine Runs_p rfl (Valid.movek (A := Is _) rfl rfl) rfl rfl ?_ -- law.go:72 move
  refine Runs_p rfl (Valid.call rfl (alph_s _ (by omega)) ⟨argle rfl, trivial⟩) rfl rfl ?_ -- law.go:72 call
  refine Runs_p rfl (Valid.assignk (A := Is _) rfl rfl) rfl rfl ?_ -- law.go:72 assign
  refine Runs_nil ?_
  refine thenQ_n ?_
  refine W_seq ?_
  refine W_seq ?_
  refine W_regionE (c := 19) (c' := 20) (by kernel_rfl) rfl ?_
  refine Runs_p rfl (Valid.assignk (A := Is _) rfl rfl) rfl rfl ?_ -- law.go:73 assign
  refine Runs_nil ?_
  refine thenQ_n ?_
  refine W_block ?_
  refine W_loopx (G := Nat) (fun (i : Nat) => i ≤ (alV x).size) [(5, Is _), (6, Is _), (7, Is _), (8, Is _)] (fun (i : Nat) => [(9, Is (.int .i64 (i : Int)))]) [] (fun (i : Nat) => []) 20 (fun (i : Nat) => (alV x).size - i) (0) [] (by first | trivial | omega | (simp; omega)) ⟨⟨(leq_is rfl rfl (by first | rfl | (simp; done) | omega | (simp [toNat_add, toNat_add1, Nat.add_assoc]; done) | (simp [toNat_add, toNat_add1]; omega))), trivial⟩, ⟨(leq_is rfl rfl rfl), (leq_is rfl rfl rfl), (leq_is rfl rfl rfl), (leq_is rfl rfl rfl), trivial⟩, trivial, trivial, rfl, ⟨supg rfl, trivial⟩, ⟨supg rfl, supg rfl, supg rfl, supg rfl, trivial⟩, trivial, trivial, rfl, rfl⟩ ?_
  intro i hI1
  refine W_seq ?_
  refine W_seq ?_
  refine W_regionE (c := 20) (c' := 24) (by kernel_rfl) rfl ?_
  refine Runs_p rfl (Valid.movek (A := Is _) rfl rfl) rfl rfl ?_ -- law.go:73 move
  refine Runs_p rfl (Valid.movek (A := Is _) rfl rfl) rfl rfl ?_ -- law.go:73 move
  refine Runs_p rfl (Valid.slen rfl Try.underlying9 rfl) rfl rfl ?_ -- law.go:73 call
  refine Runs_p rfl (Valid.lss rfl rfl rfl) rfl rfl ?_ -- law.go:73 binOp
  refine Runs_nil ?_
  refine thenQ_n ?_
  refine W_cond _ rfl (fun hb1 => ?_) (fun hb1 => ?_)
  · try simp only [decide_eq_true_eq] at hb1
    all_goals (
      refine W_skip ?_
      refine thenQ_n ?_
      refine W_seq ?_
      refine W_block ?_
      refine W_seq ?_
      refine W_regionE (c := 24) (c' := 25) (by kernel_rfl) rfl ?_
      refine Runs_p rfl (Valid.assignk (A := Is _) rfl rfl) rfl rfl ?_ -- law.go:74 assign
      refine Runs_nil ?_
      refine thenQ_n ?_
      refine W_seq ?_
      refine W_seq ?_
      refine W_regionE (c := 25) (c' := 26) (by kernel_rfl) rfl ?_
      refine Runs_p rfl (Valid.assignk (A := Is _) rfl rfl) rfl rfl ?_ -- law.go:75 assign
      refine Runs_nil ?_
      refine thenQ_n ?_
      refine W_block ?_
      refine W_loopx (G := Nat) (fun (k : Nat) => k ≤ x.size) [(5, Is _), (6, Is _), (7, Is _), (8, Is _), (9, Is _)] (fun (k : Nat) => [(11, Is (.int .i64 (k : Int))), (10, Is (.bool ((hasL x k).getD (bat (alV x) (i : Int)).toNat false)))]) [] (fun (k : Nat) => []) 26 (fun (k : Nat) => x.size - k) (0) [] (by first | trivial | omega | (simp; omega)) ⟨⟨(leq_is rfl rfl (by first | rfl | (rw [has_00]))), (leq_is rfl rfl (by first | rfl | (rw [has_00]))), trivial⟩, ⟨(leq_is rfl rfl rfl), (leq_is rfl rfl rfl), (leq_is rfl rfl rfl), (leq_is rfl rfl rfl), (leq_is rfl rfl rfl), trivial⟩, trivial, trivial, rfl, ⟨supg rfl, supg rfl, trivial⟩, ⟨supg rfl, supg rfl, supg rfl, supg rfl, supg rfl, trivial⟩, trivial, trivial, rfl, rfl⟩ ?_
      intro k hI2
      refine W_seq ?_
      refine W_seq ?_
      refine W_regionE (c := 26) (c' := 30) (by kernel_rfl) rfl ?_
      refine Runs_p rfl (Valid.movek (A := Is _) rfl rfl) rfl rfl ?_ -- law.go:75 move
      refine Runs_p rfl (Valid.movek (A := Is _) rfl rfl) rfl rfl ?_ -- law.go:75 move
      refine Runs_p rfl (Valid.slen rfl Try.underlying9 rfl) rfl rfl ?_ -- law.go:75 call
      refine Runs_p rfl (Valid.lss rfl rfl rfl) rfl rfl ?_ -- law.go:75 binOp
      refine Runs_nil ?_
      refine thenQ_n ?_
      refine W_cond _ rfl (fun hb2 => ?_) (fun hb2 => ?_)
      · try simp only [decide_eq_true_eq] at hb2
        all_goals (
          refine W_skip ?_
          refine thenQ_n ?_
          refine W_seq ?_
          refine W_block ?_
          refine W_drawE (c := 30) (c' := 41) (by kernel_rfl) rfl ?_
          refine Runs_p rfl (Valid.movek (A := Is _) rfl rfl) rfl rfl ?_ -- law.go:76 move
          refine Runs_p rfl (Valid.movek (A := Is _) rfl rfl) rfl rfl ?_ -- law.go:76 move
          refine Runs_cnd rfl rfl (Grd.is rfl) [] (fun hg => trivial) (fun hg => Valid.movek (A := Is _) rfl rfl) (by rfl) rfl ?_
          refine Runs_cnd rfl rfl (Grd.is rfl) [] (fun hg => trivial) (fun hg => Valid.movek (A := Is _) rfl rfl) (by rfl) rfl ?_
          refine Runs_cnd rfl rfl (Grd.is rfl) [(42, _), (43, _)] (fun hg => ⟨cnd_at rfl (by first | exact hg | exact hg.1 | exact hg.1.1 | exact hg.1.1.1), cnd_at rfl (by first | exact hg | exact hg.1 | exact hg.1.1 | exact hg.1.1.1), trivial⟩) (fun hg => Valid.sindex rfl Try.underlying9 rfl rfl (by (try simp only [Int.toNat_natCast, toNat_add, toNat_add1, decide_eq_true_eq, decide_eq_false_iff_not, Bool.and_eq_true, Bool.or_eq_true, Bool.and_eq_false_iff, Bool.or_eq_false_iff, Bool.not_eq_true', Bool.not_eq_false', Bool.true_eq_false, Bool.false_eq_true, not_true_eq_false, not_false_eq_true, ne_eq] at hg); first | omega | (simp only [Int.toNat_natCast, toNat_add, toNat_add1, List.length_append, List.length_cons, List.length_nil, List.length_replicate]; omega))) (by rfl) rfl ?_
          refine Runs_cnd rfl rfl (Grd.is rfl) [] (fun hg => trivial) (fun hg => Valid.movek (A := Is _) rfl rfl) (by rfl) rfl ?_
          refine Runs_cnd rfl rfl (Grd.is rfl) [] (fun hg => trivial) (fun hg => Valid.movek (A := Is _) rfl rfl) (by rfl) rfl ?_
          refine Runs_cnd rfl rfl (Grd.is rfl) [(45, _), (46, _)] (fun hg => ⟨cnd_at rfl (by first | exact hg | exact hg.1 | exact hg.1.1 | exact hg.1.1.1), cnd_at rfl (by first | exact hg | exact hg.1 | exact hg.1.1 | exact hg.1.1.1), trivial⟩) (fun hg => Valid.sindex rfl Try.underlying9 rfl rfl (by (try simp only [Int.toNat_natCast, toNat_add, toNat_add1, decide_eq_true_eq, decide_eq_false_iff_not, Bool.and_eq_true, Bool.or_eq_true, Bool.and_eq_false_iff, Bool.or_eq_false_iff, Bool.not_eq_true', Bool.not_eq_false', Bool.true_eq_false, Bool.false_eq_true, not_true_eq_false, not_false_eq_true, ne_eq] at hg); first | omega | (simp only [Int.toNat_natCast, toNat_add, toNat_add1, List.length_append, List.length_cons, List.length_nil, List.length_replicate]; omega))) (by rfl) rfl ?_
          refine Runs_cnd rfl rfl (Grd.is rfl) [(44, _), (47, _)] (fun hg => ⟨cnd_at rfl (by first | exact hg | exact hg.1 | exact hg.1.1 | exact hg.1.1.1), cnd_at rfl (by first | exact hg | exact hg.1 | exact hg.1.1 | exact hg.1.1.1), trivial⟩) (fun hg => Valid.eql rfl rfl rfl) (by rfl) rfl ?_
          refine Runs_p rfl (Valid.pickor rfl rfl rfl rfl (fun h => by first | exact h | exact ⟨hg, h⟩)) rfl rfl ?_ -- law.go:76 pick
          refine Runs_p rfl (Valid.assignk (A := Is _) rfl rfl) rfl rfl ?_ -- law.go:76 assign
          refine Runs_nil ?_
          refine ⟨_, _, rfl, rfl, by kernel_rfl, ?_⟩
          refine blockQ_n ?_
          refine thenQ_n ?_
          refine W_regionE (c := 41) (c' := 44) (by kernel_rfl) rfl ?_
          refine Runs_p rfl (Valid.movek (A := Is _) rfl rfl) rfl rfl ?_ -- law.go:75 move
          refine Runs_p rfl (Valid.add rfl rfl rfl (room64 (by first | omega | (simp only [Int.toNat_natCast, toNat_add, toNat_add1, List.length_append, List.length_cons, List.length_nil, List.length_replicate]; omega)) (by first | omega | (simp only [Int.toNat_natCast, toNat_add, toNat_add1, List.length_append, List.length_cons, List.length_nil, List.length_replicate]; omega)))) rfl rfl ?_ -- law.go:75 binOp
          refine Runs_p rfl (Valid.assignk (A := Is _) rfl rfl) rfl rfl ?_ -- law.go:75 assign
          refine Runs_nil ?_
          refine LoopQ.next (k + 1) [] (by omega) (by omega) ⟨⟨(leq_is rfl rfl (by first | rfl | omega | exact congrArg Value.bool or_i | exact congrArg Value.bool or_j)), (leq_is rfl rfl (by first | rfl | omega | exact congrArg Value.bool or_i | exact congrArg Value.bool or_j)), trivial⟩, ⟨(leq_is rfl rfl rfl), (leq_is rfl rfl rfl), (leq_is rfl rfl rfl), (leq_is rfl rfl rfl), (leq_is rfl rfl rfl), trivial⟩, trivial, trivial, rfl, ⟨supg rfl, supg rfl, trivial⟩, ⟨supg rfl, supg rfl, supg rfl, supg rfl, supg rfl, trivial⟩, trivial, trivial, rfl, rfl⟩
          done)
      · try simp only [decide_eq_false_iff_not] at hb2
        all_goals (
          refine W_exit ?_
          refine thenQ_e ?_
          refine loopQ_e ?_
          refine blockQ_x ?_
          refine thenQ_n ?_
          refine W_seq ?_
          refine W_drawE (c := 30) (c' := 46) (by kernel_rfl) rfl ?_
          refine Runs_p rfl (Valid.movek (A := Is _) rfl rfl) rfl rfl ?_ -- law.go:78 move
          refine Runs_p rfl (Valid.not rfl rfl) rfl rfl ?_ -- law.go:78 unOp
          refine Runs_p rfl (Valid.movek (A := Is _) rfl rfl) rfl rfl ?_ -- law.go:78 move
          refine Runs_cnd rfl rfl (Grd.is rfl) [] (fun hg => trivial) (fun hg => Valid.movek (A := Is _) rfl rfl) (by rfl) rfl ?_
          refine Runs_cnd rfl rfl (Grd.is rfl) [(53, _)] (fun hg => ⟨cnd_at rfl (by first | exact hg | exact hg.1 | exact hg.1.1 | exact hg.1.1.1), trivial⟩) (fun hg => Valid.gtr rfl rfl rfl) (by rfl) rfl ?_
          refine Runs_cnd rfl rfl (Grd.is rfl) [(54, _)] (fun hg => ⟨cnd_at rfl (by first | exact hg | exact hg.1 | exact hg.1.1 | exact hg.1.1.1), trivial⟩) (fun hg => Valid.movek (A := Is _) rfl rfl) (by rfl) rfl ?_
          refine Runs_cnd rfl rfl (Grd.cnd rfl) [] (fun hg => trivial) (fun hg => Valid.movek (A := Is _) rfl rfl) (by rfl) rfl ?_
          refine Runs_cnd rfl rfl (Grd.cnd rfl) [] (fun hg => trivial) (fun hg => Valid.movek (A := Is _) rfl rfl) (by rfl) rfl ?_
          refine Runs_cnd rfl rfl (Grd.cnd rfl) [(57, _)] (fun hg => ⟨cnd_at rfl (by first | exact hg | exact hg.1 | exact hg.1.1 | exact hg.1.1.1), trivial⟩) (fun hg => Valid.sub rfl rfl rfl (room64 (by (try simp only [decide_eq_true_eq, Bool.not_eq_false'] at hg); first | omega | (simp only [Int.toNat_natCast, toNat_add, toNat_add1, List.length_append, List.length_cons, List.length_nil, List.length_replicate]; omega)) (by (try simp only [decide_eq_true_eq, Bool.not_eq_false'] at hg); first | omega | (simp only [Int.toNat_natCast, toNat_add, toNat_add1, List.length_append, List.length_cons, List.length_nil, List.length_replicate]; omega)))) (by rfl) rfl ?_
          refine Runs_cnd rfl rfl (Grd.cnd rfl) [(56, _), (58, _)] (fun hg => ⟨cnd_at rfl (by first | exact hg | exact hg.1 | exact hg.1.1 | exact hg.1.1.1), cnd_at rfl (by first | exact hg | exact hg.1 | exact hg.1.1 | exact hg.1.1.1), trivial⟩) (fun hg => Valid.sindex rfl Try.underlying9 rfl rfl (by (try simp only [decide_eq_true_eq, Bool.not_eq_false'] at hg); first | omega | (simp only [Int.toNat_natCast, toNat_add, toNat_add1, List.length_append, List.length_cons, List.length_nil, List.length_replicate]; omega))) (by rfl) rfl ?_
          refine Runs_cnd rfl rfl (Grd.cnd rfl) [] (fun hg => trivial) (fun hg => Valid.movek (A := Is _) rfl rfl) (by rfl) rfl ?_
          refine Runs_cnd rfl rfl (Grd.cnd rfl) [] (fun hg => trivial) (fun hg => Valid.movek (A := Is _) rfl rfl) (by rfl) rfl ?_
          refine Runs_cnd rfl rfl (Grd.cnd rfl) [(60, _), (61, _)] (fun hg => ⟨cnd_at rfl (by first | exact hg | exact hg.1 | exact hg.1.1 | exact hg.1.1.1), cnd_at rfl (by first | exact hg | exact hg.1 | exact hg.1.1 | exact hg.1.1.1), trivial⟩) (fun hg => Valid.sindex rfl Try.underlying9 rfl rfl (by (try simp only [decide_eq_true_eq, Bool.not_eq_false'] at hg); first | omega | (simp only [Int.toNat_natCast, toNat_add, toNat_add1, List.length_append, List.length_cons, List.length_nil, List.length_replicate]; omega))) (by rfl) rfl ?_
          refine Runs_cnd rfl rfl (Grd.cnd rfl) [(59, _), (62, _)] (fun hg => ⟨cnd_at rfl (by first | exact hg | exact hg.1 | exact hg.1.1 | exact hg.1.1.1), cnd_at rfl (by first | exact hg | exact hg.1 | exact hg.1.1 | exact hg.1.1.1), trivial⟩) (fun hg => Valid.geq rfl rfl rfl) (by rfl) rfl ?_
          refine Runs_cnd rfl rfl (Grd.is rfl) [(55, _)] (fun hg => ⟨cnd_at rfl (by first | exact hg | exact hg.1 | exact hg.1.1 | exact hg.1.1.1), trivial⟩) (fun hg => Valid.pickand rfl rfl rfl (fun h => by first | exact h | exact ⟨hg, h⟩) rfl) (by rfl) rfl ?_
          refine Runs_p rfl (Valid.pickor rfl rfl rfl rfl (fun h => by first | exact h | exact ⟨hg, h⟩)) rfl rfl ?_ -- law.go:78 pick
          refine Runs_nil ?_
          refine ⟨_, _, rfl, rfl, by kernel_rfl, ?_⟩
          refine thenQ_n ?_
          refine W_cond _ rfl (fun hb3 => ?_) (fun hb3 => ?_)
          · try simp only [decide_eq_true_eq, Bool.and_eq_true, Bool.or_eq_true, Bool.not_eq_true'] at hb3
            all_goals (
              exfalso
              obtain rfl : k = x.size := by omega
              rcases hb3 with h1 | ⟨h1, h2⟩
              · have h3 := alV_has (x := x) (i := i) (by omega)
                rw [hasV, h1] at h3; cases h3
              · have h3 := alV_up (x := x) (i := i - 1) (by omega)
                rw [show i - 1 + 1 = i by omega, show ((i - 1 : Nat) : Int) = (i : Int) - 1 by omega] at h3
                omega
              
              done)
          · try simp only [decide_eq_false_iff_not, Bool.and_eq_false_iff, Bool.or_eq_false_iff, Bool.not_eq_false'] at hb3
            all_goals (
              refine W_skip ?_
              refine blockQ_n ?_
              refine thenQ_n ?_
              refine W_regionE (c := 46) (c' := 49) (by kernel_rfl) rfl ?_
              refine Runs_p rfl (Valid.movek (A := Is _) rfl rfl) rfl rfl ?_ -- law.go:73 move
              refine Runs_p rfl (Valid.add rfl rfl rfl (room64 (by first | omega | (simp only [Int.toNat_natCast, toNat_add, toNat_add1, List.length_append, List.length_cons, List.length_nil, List.length_replicate]; omega)) (by first | omega | (simp only [Int.toNat_natCast, toNat_add, toNat_add1, List.length_append, List.length_cons, List.length_nil, List.length_replicate]; omega)))) rfl rfl ?_ -- law.go:73 binOp
              refine Runs_p rfl (Valid.assignk (A := Is _) rfl rfl) rfl rfl ?_ -- law.go:73 assign
              refine Runs_nil ?_
              refine LoopQ.next (i + 1) [] (by omega) (by omega) ⟨⟨(leq_is rfl rfl (by first | rfl | (simp; done) | omega | (simp [toNat_add, toNat_add1, Nat.add_assoc]; done) | (simp [toNat_add, toNat_add1]; omega))), trivial⟩, ⟨(leq_is rfl rfl rfl), (leq_is rfl rfl rfl), (leq_is rfl rfl rfl), (leq_is rfl rfl rfl), trivial⟩, trivial, trivial, rfl, ⟨supg rfl, trivial⟩, ⟨supg rfl, supg rfl, supg rfl, supg rfl, trivial⟩, trivial, trivial, rfl, rfl⟩
              done)
          done)
      done)
  · try simp only [decide_eq_false_iff_not] at hb1
    all_goals (
      refine W_exit ?_
      refine thenQ_e ?_
      refine loopQ_e ?_
      refine blockQ_x ?_
      refine thenQ_n ?_
      refine W_seq ?_
      refine W_seq ?_
      refine W_regionE (c := 24) (c' := 25) (by kernel_rfl) rfl ?_
      refine Runs_p rfl (Valid.assignk (A := Is _) rfl rfl) rfl rfl ?_ -- law.go:82 assign
      refine Runs_nil ?_
      refine thenQ_n ?_
      refine W_block ?_
      refine W_loopx (G := Nat) (fun (m : Nat) => m ≤ x.size) [(5, Is _), (6, Is _), (7, Is _), (8, Is _)] (fun (m : Nat) => [(12, Is (.int .i64 (m : Int)))]) [] (fun (m : Nat) => []) 25 (fun (m : Nat) => x.size - m) (0) [] (by first | trivial | omega | (simp; omega)) ⟨⟨(leq_is rfl rfl (by first | rfl | (simp; done) | omega | (simp [toNat_add, toNat_add1, Nat.add_assoc]; done) | (simp [toNat_add, toNat_add1]; omega))), trivial⟩, ⟨(leq_is rfl rfl rfl), (leq_is rfl rfl rfl), (leq_is rfl rfl rfl), (leq_is rfl rfl rfl), trivial⟩, trivial, trivial, rfl, ⟨supg rfl, trivial⟩, ⟨supg rfl, supg rfl, supg rfl, supg rfl, trivial⟩, trivial, trivial, rfl, rfl⟩ ?_
      intro m hI3
      refine W_seq ?_
      refine W_seq ?_
      refine W_regionE (c := 25) (c' := 29) (by kernel_rfl) rfl ?_
      refine Runs_p rfl (Valid.movek (A := Is _) rfl rfl) rfl rfl ?_ -- law.go:82 move
      refine Runs_p rfl (Valid.movek (A := Is _) rfl rfl) rfl rfl ?_ -- law.go:82 move
      refine Runs_p rfl (Valid.slen rfl Try.underlying9 rfl) rfl rfl ?_ -- law.go:82 call
      refine Runs_p rfl (Valid.lss rfl rfl rfl) rfl rfl ?_ -- law.go:82 binOp
      refine Runs_nil ?_
      refine thenQ_n ?_
      refine W_cond _ rfl (fun hb4 => ?_) (fun hb4 => ?_)
      · try simp only [decide_eq_true_eq] at hb4
        all_goals (
          refine W_skip ?_
          refine thenQ_n ?_
          refine W_seq ?_
          refine W_block ?_
          refine W_seq ?_
          refine W_regionE (c := 29) (c' := 30) (by kernel_rfl) rfl ?_
          refine Runs_p rfl (Valid.assignk (A := Is _) rfl rfl) rfl rfl ?_ -- law.go:83 assign
          refine Runs_nil ?_
          refine thenQ_n ?_
          refine W_seq ?_
          refine W_seq ?_
          refine W_regionE (c := 30) (c' := 31) (by kernel_rfl) rfl ?_
          refine Runs_p rfl (Valid.assignk (A := Is _) rfl rfl) rfl rfl ?_ -- law.go:84 assign
          refine Runs_nil ?_
          refine thenQ_n ?_
          refine W_block ?_
          refine W_loopx (G := Nat) (fun (j : Nat) => j ≤ (alV x).size) [(5, Is _), (6, Is _), (7, Is _), (8, Is _), (12, Is _)] (fun (j : Nat) => [(14, Is (.int .i64 (j : Int))), (13, Is (.bool ((hasL (alV x) j).getD (bat x (m : Int)).toNat false)))]) [] (fun (j : Nat) => []) 31 (fun (j : Nat) => (alV x).size - j) (0) [] (by first | trivial | omega | (simp; omega)) ⟨⟨(leq_is rfl rfl (by first | rfl | (rw [has_00]))), (leq_is rfl rfl (by first | rfl | (rw [has_00]))), trivial⟩, ⟨(leq_is rfl rfl rfl), (leq_is rfl rfl rfl), (leq_is rfl rfl rfl), (leq_is rfl rfl rfl), (leq_is rfl rfl rfl), trivial⟩, trivial, trivial, rfl, ⟨supg rfl, supg rfl, trivial⟩, ⟨supg rfl, supg rfl, supg rfl, supg rfl, supg rfl, trivial⟩, trivial, trivial, rfl, rfl⟩ ?_
          intro j hI4
          refine W_seq ?_
          refine W_seq ?_
          refine W_regionE (c := 31) (c' := 35) (by kernel_rfl) rfl ?_
          refine Runs_p rfl (Valid.movek (A := Is _) rfl rfl) rfl rfl ?_ -- law.go:84 move
          refine Runs_p rfl (Valid.movek (A := Is _) rfl rfl) rfl rfl ?_ -- law.go:84 move
          refine Runs_p rfl (Valid.slen rfl Try.underlying9 rfl) rfl rfl ?_ -- law.go:84 call
          refine Runs_p rfl (Valid.lss rfl rfl rfl) rfl rfl ?_ -- law.go:84 binOp
          refine Runs_nil ?_
          refine thenQ_n ?_
          refine W_cond _ rfl (fun hb5 => ?_) (fun hb5 => ?_)
          · try simp only [decide_eq_true_eq] at hb5
            all_goals (
              refine W_skip ?_
              refine thenQ_n ?_
              refine W_seq ?_
              refine W_block ?_
              refine W_drawE (c := 35) (c' := 46) (by kernel_rfl) rfl ?_
              refine Runs_p rfl (Valid.movek (A := Is _) rfl rfl) rfl rfl ?_ -- law.go:85 move
              refine Runs_p rfl (Valid.movek (A := Is _) rfl rfl) rfl rfl ?_ -- law.go:85 move
              refine Runs_cnd rfl rfl (Grd.is rfl) [] (fun hg => trivial) (fun hg => Valid.movek (A := Is _) rfl rfl) (by rfl) rfl ?_
              refine Runs_cnd rfl rfl (Grd.is rfl) [] (fun hg => trivial) (fun hg => Valid.movek (A := Is _) rfl rfl) (by rfl) rfl ?_
              refine Runs_cnd rfl rfl (Grd.is rfl) [(80, _), (81, _)] (fun hg => ⟨cnd_at rfl (by first | exact hg | exact hg.1 | exact hg.1.1 | exact hg.1.1.1), cnd_at rfl (by first | exact hg | exact hg.1 | exact hg.1.1 | exact hg.1.1.1), trivial⟩) (fun hg => Valid.sindex rfl Try.underlying9 rfl rfl (by (try simp only [Int.toNat_natCast, toNat_add, toNat_add1, decide_eq_true_eq, decide_eq_false_iff_not, Bool.and_eq_true, Bool.or_eq_true, Bool.and_eq_false_iff, Bool.or_eq_false_iff, Bool.not_eq_true', Bool.not_eq_false', Bool.true_eq_false, Bool.false_eq_true, not_true_eq_false, not_false_eq_true, ne_eq] at hg); first | omega | (simp only [Int.toNat_natCast, toNat_add, toNat_add1, List.length_append, List.length_cons, List.length_nil, List.length_replicate]; omega))) (by rfl) rfl ?_
              refine Runs_cnd rfl rfl (Grd.is rfl) [] (fun hg => trivial) (fun hg => Valid.movek (A := Is _) rfl rfl) (by rfl) rfl ?_
              refine Runs_cnd rfl rfl (Grd.is rfl) [] (fun hg => trivial) (fun hg => Valid.movek (A := Is _) rfl rfl) (by rfl) rfl ?_
              refine Runs_cnd rfl rfl (Grd.is rfl) [(83, _), (84, _)] (fun hg => ⟨cnd_at rfl (by first | exact hg | exact hg.1 | exact hg.1.1 | exact hg.1.1.1), cnd_at rfl (by first | exact hg | exact hg.1 | exact hg.1.1 | exact hg.1.1.1), trivial⟩) (fun hg => Valid.sindex rfl Try.underlying9 rfl rfl (by (try simp only [Int.toNat_natCast, toNat_add, toNat_add1, decide_eq_true_eq, decide_eq_false_iff_not, Bool.and_eq_true, Bool.or_eq_true, Bool.and_eq_false_iff, Bool.or_eq_false_iff, Bool.not_eq_true', Bool.not_eq_false', Bool.true_eq_false, Bool.false_eq_true, not_true_eq_false, not_false_eq_true, ne_eq] at hg); first | omega | (simp only [Int.toNat_natCast, toNat_add, toNat_add1, List.length_append, List.length_cons, List.length_nil, List.length_replicate]; omega))) (by rfl) rfl ?_
              refine Runs_cnd rfl rfl (Grd.is rfl) [(82, _), (85, _)] (fun hg => ⟨cnd_at rfl (by first | exact hg | exact hg.1 | exact hg.1.1 | exact hg.1.1.1), cnd_at rfl (by first | exact hg | exact hg.1 | exact hg.1.1 | exact hg.1.1.1), trivial⟩) (fun hg => Valid.eql rfl rfl rfl) (by rfl) rfl ?_
              refine Runs_p rfl (Valid.pickor rfl rfl rfl rfl (fun h => by first | exact h | exact ⟨hg, h⟩)) rfl rfl ?_ -- law.go:85 pick
              refine Runs_p rfl (Valid.assignk (A := Is _) rfl rfl) rfl rfl ?_ -- law.go:85 assign
              refine Runs_nil ?_
              refine ⟨_, _, rfl, rfl, by kernel_rfl, ?_⟩
              refine blockQ_n ?_
              refine thenQ_n ?_
              refine W_regionE (c := 46) (c' := 49) (by kernel_rfl) rfl ?_
              refine Runs_p rfl (Valid.movek (A := Is _) rfl rfl) rfl rfl ?_ -- law.go:84 move
              refine Runs_p rfl (Valid.add rfl rfl rfl (room64 (by first | omega | (simp only [Int.toNat_natCast, toNat_add, toNat_add1, List.length_append, List.length_cons, List.length_nil, List.length_replicate]; omega)) (by first | omega | (simp only [Int.toNat_natCast, toNat_add, toNat_add1, List.length_append, List.length_cons, List.length_nil, List.length_replicate]; omega)))) rfl rfl ?_ -- law.go:84 binOp
              refine Runs_p rfl (Valid.assignk (A := Is _) rfl rfl) rfl rfl ?_ -- law.go:84 assign
              refine Runs_nil ?_
              refine LoopQ.next (j + 1) [] (by omega) (by omega) ⟨⟨(leq_is rfl rfl (by first | rfl | omega | exact congrArg Value.bool or_i | exact congrArg Value.bool or_j)), (leq_is rfl rfl (by first | rfl | omega | exact congrArg Value.bool or_i | exact congrArg Value.bool or_j)), trivial⟩, ⟨(leq_is rfl rfl rfl), (leq_is rfl rfl rfl), (leq_is rfl rfl rfl), (leq_is rfl rfl rfl), (leq_is rfl rfl rfl), trivial⟩, trivial, trivial, rfl, ⟨supg rfl, supg rfl, trivial⟩, ⟨supg rfl, supg rfl, supg rfl, supg rfl, supg rfl, trivial⟩, trivial, trivial, rfl, rfl⟩
              done)
          · try simp only [decide_eq_false_iff_not] at hb5
            all_goals (
              refine W_exit ?_
              refine thenQ_e ?_
              refine loopQ_e ?_
              refine blockQ_x ?_
              refine thenQ_n ?_
              refine W_seq ?_
              refine W_regionE (c := 35) (c' := 37) (by kernel_rfl) rfl ?_
              refine Runs_p rfl (Valid.movek (A := Is _) rfl rfl) rfl rfl ?_ -- law.go:87 move
              refine Runs_p rfl (Valid.not rfl rfl) rfl rfl ?_ -- law.go:87 unOp
              refine Runs_nil ?_
              refine thenQ_n ?_
              refine W_cond _ rfl (fun hb6 => ?_) (fun hb6 => ?_)
              · try simp only [Bool.not_eq_true'] at hb6
                all_goals (
                  exfalso
                  obtain rfl : j = (alV x).size := by omega
                  have h3 := al_in (x := x) (k := m) (by omega)
                  rw [hasV, hb6] at h3; cases h3
                  
                  done)
              · try simp only [Bool.not_eq_false'] at hb6
                all_goals (
                  refine W_skip ?_
                  refine blockQ_n ?_
                  refine thenQ_n ?_
                  refine W_regionE (c := 37) (c' := 40) (by kernel_rfl) rfl ?_
                  refine Runs_p rfl (Valid.movek (A := Is _) rfl rfl) rfl rfl ?_ -- law.go:82 move
                  refine Runs_p rfl (Valid.add rfl rfl rfl (room64 (by first | omega | (simp only [Int.toNat_natCast, toNat_add, toNat_add1, List.length_append, List.length_cons, List.length_nil, List.length_replicate]; omega)) (by first | omega | (simp only [Int.toNat_natCast, toNat_add, toNat_add1, List.length_append, List.length_cons, List.length_nil, List.length_replicate]; omega)))) rfl rfl ?_ -- law.go:82 binOp
                  refine Runs_p rfl (Valid.assignk (A := Is _) rfl rfl) rfl rfl ?_ -- law.go:82 assign
                  refine Runs_nil ?_
                  refine LoopQ.next (m + 1) [] (by omega) (by omega) ⟨⟨(leq_is rfl rfl (by first | rfl | (simp; done) | omega | (simp [toNat_add, toNat_add1, Nat.add_assoc]; done) | (simp [toNat_add, toNat_add1]; omega))), trivial⟩, ⟨(leq_is rfl rfl rfl), (leq_is rfl rfl rfl), (leq_is rfl rfl rfl), (leq_is rfl rfl rfl), trivial⟩, trivial, trivial, rfl, ⟨supg rfl, trivial⟩, ⟨supg rfl, supg rfl, supg rfl, supg rfl, trivial⟩, trivial, trivial, rfl, rfl⟩
                  done)
              done)
          done)
      · try simp only [decide_eq_false_iff_not] at hb4
        all_goals (
          refine W_exit ?_
          refine thenQ_e ?_
          refine loopQ_e ?_
          refine blockQ_x ?_
          refine thenQ_n ?_
          refine W_seq ?_
          refine W_drawE (c := 29) (c' := 75) (by kernel_rfl) rfl ?_
          refine Runs_p rfl (Valid.movek (A := Is _) rfl rfl) rfl rfl ?_ -- law.go:91 move
          refine Runs_p rfl (Valid.movek (A := Is _) rfl rfl) rfl rfl ?_ -- law.go:91 move
          refine Runs_cnd rfl rfl (Grd.is rfl) [] (fun hg => trivial) (fun hg => Valid.movek (A := Is _) rfl rfl) (by rfl) rfl ?_
          refine Runs_cnd rfl rfl (Grd.is rfl) [] (fun hg => trivial) (fun hg => Valid.movek (A := Is _) rfl rfl) (by rfl) rfl ?_
          refine Runs_cnd rfl rfl (Grd.is rfl) [(92, _), (93, _)] (fun hg => ⟨cnd_at rfl (by first | exact hg | exact hg.1 | exact hg.1.1 | exact hg.1.1.1), cnd_at rfl (by first | exact hg | exact hg.1 | exact hg.1.1 | exact hg.1.1.1), trivial⟩) (fun hg => Valid.cat rfl rfl rfl (by (try simp only [] at hg); first | omega | (simp only [ByteArray.size_append, ByteArray.size_extract]; omega) | (simp only [maxLen]; omega))) (by rfl) rfl ?_
          refine Runs_cnd rfl rfl (Grd.is rfl) [(94, _)] (fun hg => ⟨cnd_at rfl (by first | exact hg | exact hg.1 | exact hg.1.1 | exact hg.1.1.1), trivial⟩) (fun hg => Valid.call rfl (alph_s _ (by (try simp only [] at hg); first | omega | (simp only [ByteArray.size_append]; omega))) ⟨argle rfl, trivial⟩) (by rfl) rfl ?_
          refine Runs_cnd rfl rfl (Grd.is rfl) [] (fun hg => trivial) (fun hg => Valid.movek (A := Is _) rfl rfl) (by rfl) rfl ?_
          refine Runs_cnd rfl rfl (Grd.is rfl) [] (fun hg => trivial) (fun hg => Valid.movek (A := Is _) rfl rfl) (by rfl) rfl ?_
          refine Runs_cnd rfl rfl (Grd.is rfl) [(96, _), (97, _)] (fun hg => ⟨cnd_at rfl (by first | exact hg | exact hg.1 | exact hg.1.1 | exact hg.1.1.1), cnd_at rfl (by first | exact hg | exact hg.1 | exact hg.1.1 | exact hg.1.1.1), trivial⟩) (fun hg => Valid.cat rfl rfl rfl (by (try simp only [] at hg); first | omega | (simp only [ByteArray.size_append, ByteArray.size_extract]; omega) | (simp only [maxLen]; omega))) (by rfl) rfl ?_
          refine Runs_cnd rfl rfl (Grd.is rfl) [] (fun hg => trivial) (fun hg => Valid.movek (A := Is _) rfl rfl) (by rfl) rfl ?_
          refine Runs_cnd rfl rfl (Grd.is rfl) [(98, _), (99, _)] (fun hg => ⟨cnd_at rfl (by first | exact hg | exact hg.1 | exact hg.1.1 | exact hg.1.1.1), cnd_at rfl (by first | exact hg | exact hg.1 | exact hg.1.1 | exact hg.1.1.1), trivial⟩) (fun hg => Valid.cat rfl rfl rfl (by (try simp only [] at hg); first | omega | (simp only [ByteArray.size_append]; omega) | (simp only [maxLen]; omega))) (by rfl) rfl ?_
          refine Runs_cnd rfl rfl (Grd.is rfl) [(100, _)] (fun hg => ⟨cnd_at rfl (by first | exact hg | exact hg.1 | exact hg.1.1 | exact hg.1.1.1), trivial⟩) (fun hg => Valid.call rfl (alph_s _ (by (try simp only [] at hg); first | omega | (simp only [ByteArray.size_append]; omega))) ⟨argle rfl, trivial⟩) (by rfl) rfl ?_
          refine Runs_cnd rfl rfl (Grd.is rfl) [(95, _), (101, _)] (fun hg => ⟨cnd_at rfl (by first | exact hg | exact hg.1 | exact hg.1.1 | exact hg.1.1.1), cnd_at rfl (by first | exact hg | exact hg.1 | exact hg.1.1 | exact hg.1.1.1), trivial⟩) (fun hg => Valid.seql rfl rfl rfl) (by rfl) rfl ?_
          refine Runs_p rfl (Valid.pickand rfl rfl rfl (fun h => by first | exact h | exact ⟨hg, h⟩) rfl) rfl rfl ?_ -- law.go:91 pick
          refine Runs_p rfl (Valid.movek (A := Is _) rfl rfl) rfl rfl ?_ -- law.go:91 move
          refine Runs_cnd rfl rfl (Grd.is rfl) [] (fun hg => trivial) (fun hg => Valid.movek (A := Is _) rfl rfl) (by rfl) rfl ?_
          refine Runs_cnd rfl rfl (Grd.is rfl) [] (fun hg => trivial) (fun hg => Valid.movek (A := Is _) rfl rfl) (by rfl) rfl ?_
          refine Runs_cnd rfl rfl (Grd.is rfl) [(105, _), (106, _)] (fun hg => ⟨cnd_at rfl (by first | exact hg | exact hg.1 | exact hg.1.1 | exact hg.1.1.1), cnd_at rfl (by first | exact hg | exact hg.1 | exact hg.1.1 | exact hg.1.1.1), trivial⟩) (fun hg => Valid.cat rfl rfl rfl (by (try simp only [decide_eq_true_eq, Bool.and_eq_true] at hg); first | omega | (simp only [ByteArray.size_append, ByteArray.size_extract]; omega) | (simp only [maxLen]; omega))) (by rfl) rfl ?_
          refine Runs_cnd rfl rfl (Grd.is rfl) [(107, _)] (fun hg => ⟨cnd_at rfl (by first | exact hg | exact hg.1 | exact hg.1.1 | exact hg.1.1.1), trivial⟩) (fun hg => Valid.call rfl (map_s _ (by (try simp only [decide_eq_true_eq, Bool.and_eq_true] at hg); first | omega | (simp only [ByteArray.size_append]; omega))) ⟨argle rfl, trivial⟩) (by rfl) rfl ?_
          refine Runs_cnd rfl rfl (Grd.is rfl) [] (fun hg => trivial) (fun hg => Valid.movek (A := Is _) rfl rfl) (by rfl) rfl ?_
          refine Runs_cnd rfl rfl (Grd.is rfl) [] (fun hg => trivial) (fun hg => Valid.movek (A := Is _) rfl rfl) (by rfl) rfl ?_
          refine Runs_cnd rfl rfl (Grd.is rfl) [(109, _), (110, _)] (fun hg => ⟨cnd_at rfl (by first | exact hg | exact hg.1 | exact hg.1.1 | exact hg.1.1.1), cnd_at rfl (by first | exact hg | exact hg.1 | exact hg.1.1 | exact hg.1.1.1), trivial⟩) (fun hg => Valid.cat rfl rfl rfl (by (try simp only [decide_eq_true_eq, Bool.and_eq_true] at hg); first | omega | (simp only [ByteArray.size_append, ByteArray.size_extract]; omega) | (simp only [maxLen]; omega))) (by rfl) rfl ?_
          refine Runs_cnd rfl rfl (Grd.is rfl) [] (fun hg => trivial) (fun hg => Valid.movek (A := Is _) rfl rfl) (by rfl) rfl ?_
          refine Runs_cnd rfl rfl (Grd.is rfl) [(111, _), (112, _)] (fun hg => ⟨cnd_at rfl (by first | exact hg | exact hg.1 | exact hg.1.1 | exact hg.1.1.1), cnd_at rfl (by first | exact hg | exact hg.1 | exact hg.1.1 | exact hg.1.1.1), trivial⟩) (fun hg => Valid.cat rfl rfl rfl (by (try simp only [decide_eq_true_eq, Bool.and_eq_true] at hg); first | omega | (simp only [ByteArray.size_append]; omega) | (simp only [maxLen]; omega))) (by rfl) rfl ?_
          refine Runs_cnd rfl rfl (Grd.is rfl) [(113, _)] (fun hg => ⟨cnd_at rfl (by first | exact hg | exact hg.1 | exact hg.1.1 | exact hg.1.1.1), trivial⟩) (fun hg => Valid.call rfl (map_s _ (by (try simp only [decide_eq_true_eq, Bool.and_eq_true] at hg); first | omega | (simp only [ByteArray.size_append]; omega))) ⟨argle rfl, trivial⟩) (by rfl) rfl ?_
          refine Runs_cnd rfl rfl (Grd.is rfl) [(108, _), (114, _)] (fun hg => ⟨cnd_at rfl (by first | exact hg | exact hg.1 | exact hg.1.1 | exact hg.1.1.1), cnd_at rfl (by first | exact hg | exact hg.1 | exact hg.1.1 | exact hg.1.1.1), trivial⟩) (fun hg => Valid.seqS tf25 rfl rfl rfl) (by rfl) rfl ?_
          refine Runs_p rfl (Valid.pickand rfl rfl rfl (fun h => by first | exact h | exact ⟨hg, h⟩) rfl) rfl rfl ?_ -- law.go:91 pick
          refine Runs_p rfl (Valid.movek (A := Is _) rfl rfl) rfl rfl ?_ -- law.go:91 move
          refine Runs_cnd rfl rfl (Grd.is rfl) [] (fun hg => trivial) (fun hg => Valid.movek (A := Is _) rfl rfl) (by rfl) rfl ?_
          refine Runs_cnd rfl rfl (Grd.is rfl) [(118, _)] (fun hg => ⟨cnd_at rfl (by first | exact hg | exact hg.1 | exact hg.1.1 | exact hg.1.1.1), trivial⟩) (fun hg => Valid.call rfl (alph_s _ (by (try simp only [decide_eq_true_eq, Bool.and_eq_true] at hg); first | omega | (simp only [ByteArray.size_append]; omega))) ⟨argle rfl, trivial⟩) (by rfl) rfl ?_
          refine Runs_cnd rfl rfl (Grd.is rfl) [] (fun hg => trivial) (fun hg => Valid.movek (A := Is _) rfl rfl) (by rfl) rfl ?_
          refine Runs_cnd rfl rfl (Grd.is rfl) [(119, _), (120, _)] (fun hg => ⟨cnd_at rfl (by first | exact hg | exact hg.1 | exact hg.1.1 | exact hg.1.1.1), cnd_at rfl (by first | exact hg | exact hg.1 | exact hg.1.1 | exact hg.1.1.1), trivial⟩) (fun hg => Valid.seql rfl rfl rfl) (by rfl) rfl ?_
          refine Runs_p rfl (Valid.pickand rfl rfl rfl (fun h => by first | exact h | exact ⟨hg, h⟩) rfl) rfl rfl ?_ -- law.go:91 pick
          refine Runs_p rfl (Valid.movek (A := Is _) rfl rfl) rfl rfl ?_ -- law.go:91 move
          refine Runs_cnd rfl rfl (Grd.is rfl) [] (fun hg => trivial) (fun hg => Valid.movek (A := Is _) rfl rfl) (by rfl) rfl ?_
          refine Runs_cnd rfl rfl (Grd.is rfl) [(124, _)] (fun hg => ⟨cnd_at rfl (by first | exact hg | exact hg.1 | exact hg.1.1 | exact hg.1.1.1), trivial⟩) (fun hg => Valid.call rfl (map_s _ (by (try simp only [decide_eq_true_eq, Bool.and_eq_true] at hg); first | omega | (simp only [ByteArray.size_append]; omega))) ⟨argle rfl, trivial⟩) (by rfl) rfl ?_
          refine Runs_cnd rfl rfl (Grd.is rfl) [] (fun hg => trivial) (fun hg => Valid.movek (A := Is _) rfl rfl) (by rfl) rfl ?_
          refine Runs_cnd rfl rfl (Grd.is rfl) [(126, _)] (fun hg => ⟨cnd_at rfl (by first | exact hg | exact hg.1 | exact hg.1.1 | exact hg.1.1.1), trivial⟩) (fun hg => Valid.call rfl (map_s _ (by (try simp only [decide_eq_true_eq, Bool.and_eq_true] at hg); first | omega | (simp only [ByteArray.size_append]; omega))) ⟨argle rfl, trivial⟩) (by rfl) rfl ?_
          refine Runs_cnd rfl rfl (Grd.is rfl) [(125, _), (127, _)] (fun hg => ⟨cnd_at rfl (by first | exact hg | exact hg.1 | exact hg.1.1 | exact hg.1.1.1), cnd_at rfl (by first | exact hg | exact hg.1 | exact hg.1.1 | exact hg.1.1.1), trivial⟩) (fun hg => Valid.seqS tf25 rfl rfl rfl) (by rfl) rfl ?_
          refine Runs_cnd rfl rfl (Grd.is rfl) [] (fun hg => trivial) (fun hg => Valid.movek (A := Is _) rfl rfl) (by rfl) rfl ?_
          refine Runs_cnd rfl rfl (Grd.is rfl) [] (fun hg => trivial) (fun hg => Valid.movek (A := Is _) rfl rfl) (by rfl) rfl ?_
          refine Runs_cnd rfl rfl (Grd.is rfl) [(130, _)] (fun hg => ⟨cnd_at rfl (by first | exact hg | exact hg.1 | exact hg.1.1 | exact hg.1.1.1), trivial⟩) (fun hg => Valid.call rfl (alph_s _ (by (try simp only [decide_eq_true_eq, Bool.and_eq_true] at hg); first | omega | (simp only [ByteArray.size_append]; omega))) ⟨argle rfl, trivial⟩) (by rfl) rfl ?_
          refine Runs_cnd rfl rfl (Grd.is rfl) [(129, _), (131, _)] (fun hg => ⟨cnd_at rfl (by first | exact hg | exact hg.1 | exact hg.1.1 | exact hg.1.1.1), cnd_at rfl (by first | exact hg | exact hg.1 | exact hg.1.1 | exact hg.1.1.1), trivial⟩) (fun hg => Valid.seql rfl rfl rfl) (by rfl) rfl ?_
          refine Runs_cnd rfl rfl (Grd.is rfl) [(128, _), (132, _)] (fun hg => ⟨cnd_at rfl (by first | exact hg | exact hg.1 | exact hg.1.1 | exact hg.1.1.1), cnd_at rfl (by first | exact hg | exact hg.1 | exact hg.1.1 | exact hg.1.1.1), trivial⟩) (fun hg => Valid.beql rfl rfl rfl Try.underlying4) (by rfl) rfl ?_
          refine Runs_p rfl (Valid.pickand rfl rfl rfl (fun h => by first | exact h | exact ⟨hg, h⟩) rfl) rfl rfl ?_ -- law.go:91 pick
          refine Runs_p rfl (Valid.assignk (A := Is _) rfl rfl) rfl rfl ?_ -- law.go:91 assign
          refine Runs_nil ?_
          refine ⟨_, _, rfl, rfl, by kernel_rfl, ?_⟩
          refine thenQ_n ?_
          refine W_ret ?_
          refine finQ_r ?_
          refine ResOk.one rfl (RVal.is rfl rfl (by first | rfl | (simp [al_swap x y, map_swap x y, al_al, map_al_iff x y])))
          done)
      done)
end Hb
end Go.Proofs.Ytlcephckjhiggaa
