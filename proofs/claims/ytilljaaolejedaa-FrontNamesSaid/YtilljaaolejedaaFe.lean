/-
  WALKS of stage 5: the law that is awake; what texts are drawn.
-/
import Derived.Test.YtilljaaolejedaaRows
import Derived.Test.YtilljaaolejedaaAbq
import Derived.Test.YtilljaaolejedaaCm
import Derived.Test.YtilljaaolejedaaFa
import Derived.Test.YtilljaaolejedaaFb
import Derived.Test.YtilljaaolejedaaFc
import Derived.Test.YtilljaaolejedaaFq
namespace Go.Proofs.Ytilljaaolejedaa
open Go.RowKit
namespace Fe
open Ab Cm Fa Fb Fc Fq
theorem ag3 (w : World) : (isAgg 3).run Try.prog w = .ok false w := by kernel_rfl
theorem sz3 (w : World) : (sizeOf 3).run Try.prog w = .ok 1 w := by kernel_rfl
abbrev abc : ByteArray := ⟨#[97, 98, 99]⟩
abbrev bbca : ByteArray := ⟨#[98, 98, 99, 97]⟩
abbrev dd : ByteArray := ⟨#[100]⟩
abbrev aba : ByteArray := ⟨#[97, 98, 97]⟩
theorem rAbc : RightP abc := by decide
theorem okAbc : okF abc.data.toList bbca := fun k hk => by
  have hk : k < 4 := hk
  have : k = 0 ∨ k = 1 ∨ k = 2 ∨ k = 3 := by omega
  rcases this with rfl | rfl | rfl | rfl <;> simp only [frL] <;> decide
theorem knF : frontV abc bbca = ([1, 0, 2, 2], 0) := by
  rw [frontV_ok rAbc okAbc]
  show (plL abc.data.toList bbca 4, (0 : Int)) = _
  simp only [plL, frL]; decide
theorem knA : afterV abc bbca = (⟨#[97, 99, 98]⟩, 0) := by
  rw [afterV_ok rAbc okAbc]
  show ((⟨(frL abc.data.toList bbca 4).toArray⟩ : ByteArray), (0 : Int)) = _
  simp only [frL]; decide
theorem knD : frontV abc dd = ([], 5) := by
  rw [frontV, if_neg (by simpa using rAbc), if_neg]
  intro h
  have := h 0 (by decide)
  rw [frL_0] at this
  exact absurd this (by decide)
theorem knB : backV abc [1, 0, 2, 2] = (bbca, 0) := by
  rw [backV, if_neg (by simpa using rAbc), if_pos (by decide)]
  show ((⟨(txL abc.data.toList [1, 0, 2, 2] 4).toArray⟩ : ByteArray), (0 : Int)) = _
  simp only [txL, bkL]; decide
theorem knC : backV abc [3] = (ByteArray.empty, 5) := by
  rw [backV, if_neg (by simpa using rAbc), if_neg (by decide)]
theorem knE : afterV aba ByteArray.empty = (ByteArray.empty, 1) := by rw [afterV, if_pos (by decide)]

theorem k1 : FPure Try.prog 15 [Is (.string ⟨#[97, 98, 99]⟩), Is (.string ⟨#[98, 98, 99, 97]⟩)] (Tup [Sl 1 4 ([(1 : Int), (0 : Int), (2 : Int), (2 : Int)].map (Value.int .i64)), Is (.int .i64 0)]) := by
  have h := front_s abc bbca (by decide) (by decide)
  rw [knF] at h
  exact h

theorem k2 : FPure Try.prog 20 [Is (.string ⟨#[97, 98, 99]⟩), Sl 1 4 ([(1 : Int), (0 : Int), (2 : Int), (2 : Int)].map (Value.int .i64))] (Tup [Is (.string ⟨#[98, 98, 99, 97]⟩), Is (.int .i64 0)]) := by
  have h := back_s abc [1, 0, 2, 2] (by decide) (by decide)
  rw [knB] at h
  exact h

theorem k3 : FPure Try.prog 17 [Is (.string ⟨#[97, 98, 99]⟩), Is (.string ⟨#[98, 98, 99, 97]⟩)] (Tup [Is (.string ⟨#[97, 99, 98]⟩), Is (.int .i64 0)]) := by
  have h := after_s abc bbca (by decide) (by decide)
  rw [knA] at h
  exact h

theorem k4 : FPure Try.prog 15 [Is (.string ⟨#[97, 98, 99]⟩), Is (.string ⟨#[100]⟩)] (Tup [Sl 1 0 ([].map (Value.int .i64)), Is (.int .i64 5)]) := by
  have h := front_s abc dd (by decide) (by decide)
  rw [knD] at h
  exact h

theorem k5 : FPure Try.prog 20 [Is (.string ⟨#[97, 98, 99]⟩), Sl 1 1 ([(3 : Int)].map (Value.int .i64))] (Tup [Is (.string ByteArray.empty), Is (.int .i64 5)]) := by
  have h := back_s abc [3] (by decide) (by decide)
  rw [knC] at h
  exact h

theorem k6 : FPure Try.prog 17 [Is (.string ⟨#[97, 98, 97]⟩), Is (.string ByteArray.empty)] (Tup [Is (.string ByteArray.empty), Is (.int .i64 1)]) := by
  have h := after_s aba ByteArray.empty (by decide) (by decide)
  rw [knE] at h
  exact h

theorem k7 : FPure Try.prog 12 [Is (.string ⟨#[97, 98]⟩)] (Is (.bool true)) := by
  have h := right_s ⟨#[97, 98]⟩ (by decide)
  rw [decide_eq_true (by decide)] at h
  exact h

theorem k8 : FPure Try.prog 12 [Is (.string ⟨#[97, 97]⟩)] (Is (.bool false)) := by
  have h := right_s ⟨#[97, 97]⟩ (by decide)
  rw [decide_eq_false (by decide)] at h
  exact h

set_option maxRecDepth 100000 in
set_option maxHeartbeats 1000000 in
theorem awake_s  :
    FPure Try.prog 9 [] (Is (.bool true)) := by
  refine FPure.of Try.func9 Try.ntmps9 rfl (by kernel_rfl) rfl rfl rfl ?_
  refine W_seq ?_
  refine W_regionE (c := 1) (c' := 2) (by kernel_rfl) rfl ?_
  refine Runs_p rfl (Valid.assignk (A := Is _) rfl rfl) rfl rfl ?_ -- law.go:41 assign
  refine Runs_nil ?_
  refine thenQ_n ?_
  refine W_seq ?_
  refine W_regionE (c := 2) (c' := 8) (by kernel_rfl) rfl ?_
  refine Runs_p rfl (Valid.call rfl (k1) ⟨argle rfl, argle rfl, trivial⟩) rfl rfl ?_ -- law.go:42 call
  refine Runs_p rfl (Valid.movek (A := Tup [Sl 1 _ _, Is _]) rfl rfl) rfl rfl ?_ -- law.go:42 move
  refine Runs_p rfl (Valid.extract _ rfl rfl rfl) rfl rfl ?_ -- law.go:42 extract
  refine Runs_p rfl (Valid.extract _ rfl rfl rfl) rfl rfl ?_ -- law.go:42 extract
  refine Runs_p rfl (Valid.assignk (A := Sl 1 _ _) rfl rfl) rfl rfl ?_ -- law.go:42 assign
  refine Runs_p rfl (Valid.assignk (A := Is _) rfl rfl) rfl rfl ?_ -- law.go:42 assign
  refine Runs_nil ?_
  refine thenQ_n ?_
  refine W_seq ?_
  refine W_regionE (c := 8) (c' := 15) (by kernel_rfl) rfl ?_
  refine Runs_p rfl (Valid.lit (el := 3) [_, _, _, _] rfl rfl (fun _ => by kernel_rfl) rfl (by decide)) rfl rfl ?_ -- law.go:43 buildSlice
  refine Runs_p rfl (Valid.call rfl (k2) ⟨argle rfl, argle_sl (Reads.sl rfl), trivial⟩) rfl rfl ?_ -- law.go:43 call
  refine Runs_p rfl (Valid.movek (A := Tup [Is _, Is _]) rfl rfl) rfl rfl ?_ -- law.go:43 move
  refine Runs_p rfl (Valid.extract _ rfl rfl rfl) rfl rfl ?_ -- law.go:43 extract
  refine Runs_p rfl (Valid.extract _ rfl rfl rfl) rfl rfl ?_ -- law.go:43 extract
  refine Runs_p rfl (Valid.assignk (A := Is _) rfl rfl) rfl rfl ?_ -- law.go:43 assign
  refine Runs_p rfl (Valid.assignk (A := Is _) rfl rfl) rfl rfl ?_ -- law.go:43 assign
  refine Runs_nil ?_
  refine thenQ_n ?_
  refine W_seq ?_
  refine W_regionE (c := 15) (c' := 21) (by kernel_rfl) rfl ?_
  refine Runs_p rfl (Valid.call rfl (k3) ⟨argle rfl, argle rfl, trivial⟩) rfl rfl ?_ -- law.go:44 call
  refine Runs_p rfl (Valid.movek (A := Tup [Is _, Is _]) rfl rfl) rfl rfl ?_ -- law.go:44 move
  refine Runs_p rfl (Valid.extract _ rfl rfl rfl) rfl rfl ?_ -- law.go:44 extract
  refine Runs_p rfl (Valid.extract _ rfl rfl rfl) rfl rfl ?_ -- law.go:44 extract
  refine Runs_p rfl (Valid.assignk (A := Is _) rfl rfl) rfl rfl ?_ -- law.go:44 assign
  refine Runs_p rfl (Valid.assignk (A := Is _) rfl rfl) rfl rfl ?_ -- law.go:44 assign
  refine Runs_nil ?_
  refine thenQ_n ?_
  refine W_seq ?_
  refine W_regionE (c := 21) (c' := 27) (by kernel_rfl) rfl ?_
  refine Runs_p rfl (Valid.call rfl (k4) ⟨argle rfl, argle rfl, trivial⟩) rfl rfl ?_ -- law.go:45 call
  refine Runs_p rfl (Valid.movek (A := Tup [Sl 1 _ _, Is _]) rfl rfl) rfl rfl ?_ -- law.go:45 move
  refine Runs_p rfl (Valid.extract _ rfl rfl rfl) rfl rfl ?_ -- law.go:45 extract
  refine Runs_p rfl (Valid.extract _ rfl rfl rfl) rfl rfl ?_ -- law.go:45 extract
  refine Runs_p rfl (Valid.assignk (A := Sl 1 _ _) rfl rfl) rfl rfl ?_ -- law.go:45 assign
  refine Runs_p rfl (Valid.assignk (A := Is _) rfl rfl) rfl rfl ?_ -- law.go:45 assign
  refine Runs_nil ?_
  refine thenQ_n ?_
  refine W_seq ?_
  refine W_regionE (c := 27) (c' := 34) (by kernel_rfl) rfl ?_
  refine Runs_p rfl (Valid.lit (el := 3) [_] rfl rfl (fun _ => by kernel_rfl) rfl (by decide)) rfl rfl ?_ -- law.go:46 buildSlice
  refine Runs_p rfl (Valid.call rfl (k5) ⟨argle rfl, argle_sl (Reads.sl rfl), trivial⟩) rfl rfl ?_ -- law.go:46 call
  refine Runs_p rfl (Valid.movek (A := Tup [Is _, Is _]) rfl rfl) rfl rfl ?_ -- law.go:46 move
  refine Runs_p rfl (Valid.extract _ rfl rfl rfl) rfl rfl ?_ -- law.go:46 extract
  refine Runs_p rfl (Valid.extract _ rfl rfl rfl) rfl rfl ?_ -- law.go:46 extract
  refine Runs_p rfl (Valid.assignk (A := Is _) rfl rfl) rfl rfl ?_ -- law.go:46 assign
  refine Runs_p rfl (Valid.assignk (A := Is _) rfl rfl) rfl rfl ?_ -- law.go:46 assign
  refine Runs_nil ?_
  refine thenQ_n ?_
  refine W_seq ?_
  refine W_regionE (c := 34) (c' := 40) (by kernel_rfl) rfl ?_
  refine Runs_p rfl (Valid.call rfl (k6) ⟨argle rfl, argle rfl, trivial⟩) rfl rfl ?_ -- law.go:47 call
  refine Runs_p rfl (Valid.movek (A := Tup [Is _, Is _]) rfl rfl) rfl rfl ?_ -- law.go:47 move
  refine Runs_p rfl (Valid.extract _ rfl rfl rfl) rfl rfl ?_ -- law.go:47 extract
  refine Runs_p rfl (Valid.extract _ rfl rfl rfl) rfl rfl ?_ -- law.go:47 extract
  refine Runs_p rfl (Valid.assignk (A := Is _) rfl rfl) rfl rfl ?_ -- law.go:47 assign
  refine Runs_p rfl (Valid.assignk (A := Is _) rfl rfl) rfl rfl ?_ -- law.go:47 assign
  refine Runs_nil ?_
  refine thenQ_n ?_
  refine W_seq ?_
  refine W_regionE (c := 40) (c' := 83) (by kernel_rfl) rfl ?_
  refine Runs_p rfl (Valid.movek (A := Is _) rfl rfl) rfl rfl ?_ -- law.go:48 move
  refine Runs_p rfl (Valid.eql rfl rfl rfl) rfl rfl ?_ -- law.go:48 binOp
  refine Runs_p rfl (Valid.movek (A := Is _) rfl rfl) rfl rfl ?_ -- law.go:48 move
  refine Runs_yesp rfl rfl (Grd.is rfl) (by decide) (Valid.movek (A := Sl 1 _ _) rfl rfl) rfl rfl ?_ -- law.go:48 move
  refine Runs_yesp rfl rfl (Grd.is rfl) (by decide) (Valid.lit (el := 3) [_, _, _, _] rfl rfl (fun _ => by kernel_rfl) rfl (by decide)) rfl rfl ?_ -- law.go:48 buildSlice
  refine Runs_yesp rfl rfl (Grd.is rfl) (by decide) (Valid.call rfl (ksame [1, 0, 2, 2] (by decide)) ⟨argle_sl (Reads.sl rfl), argle_sl (Reads.sl rfl), trivial⟩) rfl rfl ?_ -- law.go:48 call
  refine Runs_p rfl (Valid.pickt (A := Is _) rfl rfl rfl) rfl rfl ?_ -- law.go:48 pick
  refine Runs_p rfl (Valid.movek (A := Is _) rfl rfl) rfl rfl ?_ -- law.go:48 move
  refine Runs_yesp rfl rfl (Grd.is rfl) (by decide) (Valid.movek (A := Is _) rfl rfl) rfl rfl ?_ -- law.go:48 move
  refine Runs_yesp rfl rfl (Grd.is rfl) (by decide) (Valid.eql rfl rfl rfl) rfl rfl ?_ -- law.go:48 binOp
  refine Runs_p rfl (Valid.pickt (A := Is _) rfl rfl rfl) rfl rfl ?_ -- law.go:48 pick
  refine Runs_p rfl (Valid.movek (A := Is _) rfl rfl) rfl rfl ?_ -- law.go:48 move
  refine Runs_yesp rfl rfl (Grd.is rfl) (by decide) (Valid.movek (A := Is _) rfl rfl) rfl rfl ?_ -- law.go:48 move
  refine Runs_yesp rfl rfl (Grd.is rfl) (by decide) (Valid.seql rfl rfl rfl) rfl rfl ?_ -- law.go:48 binOp
  refine Runs_p rfl (Valid.pickt (A := Is _) rfl rfl rfl) rfl rfl ?_ -- law.go:48 pick
  refine Runs_p rfl (Valid.movek (A := Is _) rfl rfl) rfl rfl ?_ -- law.go:48 move
  refine Runs_yesp rfl rfl (Grd.is rfl) (by decide) (Valid.movek (A := Is _) rfl rfl) rfl rfl ?_ -- law.go:48 move
  refine Runs_yesp rfl rfl (Grd.is rfl) (by decide) (Valid.eql rfl rfl rfl) rfl rfl ?_ -- law.go:48 binOp
  refine Runs_p rfl (Valid.pickt (A := Is _) rfl rfl rfl) rfl rfl ?_ -- law.go:48 pick
  refine Runs_p rfl (Valid.movek (A := Is _) rfl rfl) rfl rfl ?_ -- law.go:48 move
  refine Runs_yesp rfl rfl (Grd.is rfl) (by decide) (Valid.movek (A := Is _) rfl rfl) rfl rfl ?_ -- law.go:48 move
  refine Runs_yesp rfl rfl (Grd.is rfl) (by decide) (Valid.seql rfl rfl rfl) rfl rfl ?_ -- law.go:48 binOp
  refine Runs_p rfl (Valid.pickt (A := Is _) rfl rfl rfl) rfl rfl ?_ -- law.go:48 pick
  refine Runs_p rfl (Valid.movek (A := Is _) rfl rfl) rfl rfl ?_ -- law.go:48 move
  refine Runs_yesp rfl rfl (Grd.is rfl) (by decide) (Valid.movek (A := Is _) rfl rfl) rfl rfl ?_ -- law.go:48 move
  refine Runs_yesp rfl rfl (Grd.is rfl) (by decide) (Valid.eql rfl rfl rfl) rfl rfl ?_ -- law.go:48 binOp
  refine Runs_p rfl (Valid.pickt (A := Is _) rfl rfl rfl) rfl rfl ?_ -- law.go:48 pick
  refine Runs_p rfl (Valid.movek (A := Is _) rfl rfl) rfl rfl ?_ -- law.go:48 move
  refine Runs_yesp rfl rfl (Grd.is rfl) (by decide) (Valid.movek (A := Is _) rfl rfl) rfl rfl ?_ -- law.go:48 move
  refine Runs_yesp rfl rfl (Grd.is rfl) (by decide) (Valid.eql rfl rfl rfl) rfl rfl ?_ -- law.go:48 binOp
  refine Runs_p rfl (Valid.pickt (A := Is _) rfl rfl rfl) rfl rfl ?_ -- law.go:48 pick
  refine Runs_p rfl (Valid.movek (A := Is _) rfl rfl) rfl rfl ?_ -- law.go:48 move
  refine Runs_yesp rfl rfl (Grd.is rfl) (by decide) (Valid.movek (A := Is _) rfl rfl) rfl rfl ?_ -- law.go:48 move
  refine Runs_yesp rfl rfl (Grd.is rfl) (by decide) (Valid.eql rfl rfl rfl) rfl rfl ?_ -- law.go:48 binOp
  refine Runs_p rfl (Valid.pickt (A := Is _) rfl rfl rfl) rfl rfl ?_ -- law.go:48 pick
  refine Runs_p rfl (Valid.movek (A := Is _) rfl rfl) rfl rfl ?_ -- law.go:48 move
  refine Runs_yesp rfl rfl (Grd.is rfl) (by decide) (Valid.call rfl (k7) ⟨argle rfl, trivial⟩) rfl rfl ?_ -- law.go:48 call
  refine Runs_p rfl (Valid.pickt (A := Is _) rfl rfl rfl) rfl rfl ?_ -- law.go:48 pick
  refine Runs_p rfl (Valid.movek (A := Is _) rfl rfl) rfl rfl ?_ -- law.go:48 move
  refine Runs_yesp rfl rfl (Grd.is rfl) (by decide) (Valid.call rfl (k8) ⟨argle rfl, trivial⟩) rfl rfl ?_ -- law.go:48 call
  refine Runs_yesp rfl rfl (Grd.is rfl) (by decide) (Valid.not rfl rfl) rfl rfl ?_ -- law.go:48 unOp
  refine Runs_p rfl (Valid.pickt (A := Is _) rfl rfl rfl) rfl rfl ?_ -- law.go:48 pick
  refine Runs_p rfl (Valid.assignk (A := Is _) rfl rfl) rfl rfl ?_ -- law.go:48 assign
  refine Runs_nil ?_
  refine thenQ_n ?_
  refine W_ret ?_
  refine finQ_r ?_
  refine ResOk.one rfl (RVal.is rfl rfl (rfl))

set_option maxRecDepth 100000 in
set_option maxHeartbeats 1000000 in
theorem pick_s (c n : Int) (h1 : -9223372036854775808 ≤ c) (h2 : c ≤ 9223372036854775807) (h3 : 0 < n) (_h4 : n ≤ 9223372036854775807) :
    FPure Try.prog 11 [Is (.int .i64 c), Is (.int .i64 n)] (Is (.int .i64 (pickV c n))) := by
  refine FPure.of Try.func11 Try.ntmps11 rfl (by kernel_rfl) rfl rfl rfl ?_
  refine W_seq ?_
  refine W_regionE (c := 1) (c' := 2) (by kernel_rfl) rfl ?_
  refine Runs_p rfl (Valid.assignk (A := Is _) rfl rfl) rfl rfl ?_ -- law.go:12 assign
  refine Runs_nil ?_
  refine thenQ_n ?_
  refine W_seq ?_
  refine W_seq ?_
  refine W_regionE (c := 2) (c' := 4) (by kernel_rfl) rfl ?_
  refine Runs_p rfl (Valid.movek (A := Is _) rfl rfl) rfl rfl ?_ -- law.go:13 move
  refine Runs_p rfl (Valid.lss rfl rfl rfl) rfl rfl ?_ -- law.go:13 binOp
  refine Runs_nil ?_
  refine thenQ_n ?_
  refine W_cond _ rfl (fun hb1 => ?_) (fun hb1 => ?_)
  · try simp only [decide_eq_true_eq] at hb1
    all_goals (
      refine W_regionE (c := 4) (c' := 8) (by kernel_rfl) rfl ?_
      refine Runs_p rfl (Valid.movek (A := Is _) rfl rfl) rfl rfl ?_ -- law.go:14 move
      refine Runs_p rfl (Valid.add rfl rfl rfl (room64 (by first | omega | (simp only [Int.toNat_natCast, toNat_add, toNat_add1, List.length_append, List.length_cons, List.length_nil, List.length_replicate]; omega)) (by first | omega | (simp only [Int.toNat_natCast, toNat_add, toNat_add1, List.length_append, List.length_cons, List.length_nil, List.length_replicate]; omega)))) rfl rfl ?_ -- law.go:14 binOp
      refine Runs_p rfl (Valid.neg rfl rfl (room64 (by first | omega | (simp only [Int.toNat_natCast, toNat_add, toNat_add1, List.length_append, List.length_cons, List.length_nil, List.length_replicate]; omega)) (by first | omega | (simp only [Int.toNat_natCast, toNat_add, toNat_add1, List.length_append, List.length_cons, List.length_nil, List.length_replicate]; omega)))) rfl rfl ?_ -- law.go:14 unOp
      refine Runs_p rfl (Valid.assignk (A := Is _) rfl rfl) rfl rfl ?_ -- law.go:14 assign
      refine Runs_nil ?_
      refine thenQ_n ?_
      refine W_seq ?_
      refine W_regionE (c := 8) (c' := 12) (by kernel_rfl) rfl ?_
      refine Runs_p rfl (Valid.movek (A := Is _) rfl rfl) rfl rfl ?_ -- law.go:16 move
      refine Runs_p rfl (Valid.movek (A := Is _) rfl rfl) rfl rfl ?_ -- law.go:16 move
      refine Runs_p rfl (Valid.rem rfl rfl rfl (by first | omega | (simp only [Int.toNat_natCast, toNat_add, toNat_add1, List.length_append, List.length_cons, List.length_nil, List.length_replicate]; omega)) (by first | omega | (simp only [Int.toNat_natCast, toNat_add, toNat_add1, List.length_append, List.length_cons, List.length_nil, List.length_replicate]; omega))) rfl rfl ?_ -- law.go:16 binOp
      refine Runs_p rfl (Valid.assignk (A := Is _) rfl rfl) rfl rfl ?_ -- law.go:16 assign
      refine Runs_nil ?_
      refine thenQ_n ?_
      refine W_ret ?_
      refine finQ_r ?_
      refine ResOk.one rfl (RVal.is rfl rfl (by simp only [pickV]; split <;> first | rfl | omega))
      done)
  · try simp only [decide_eq_false_iff_not] at hb1
    all_goals (
      refine W_skip ?_
      refine thenQ_n ?_
      refine W_seq ?_
      refine W_regionE (c := 4) (c' := 8) (by kernel_rfl) rfl ?_
      refine Runs_p rfl (Valid.movek (A := Is _) rfl rfl) rfl rfl ?_ -- law.go:16 move
      refine Runs_p rfl (Valid.movek (A := Is _) rfl rfl) rfl rfl ?_ -- law.go:16 move
      refine Runs_p rfl (Valid.rem rfl rfl rfl (by first | omega | (simp only [Int.toNat_natCast, toNat_add, toNat_add1, List.length_append, List.length_cons, List.length_nil, List.length_replicate]; omega)) (by first | omega | (simp only [Int.toNat_natCast, toNat_add, toNat_add1, List.length_append, List.length_cons, List.length_nil, List.length_replicate]; omega))) rfl rfl ?_ -- law.go:16 binOp
      refine Runs_p rfl (Valid.assignk (A := Is _) rfl rfl) rfl rfl ?_ -- law.go:16 assign
      refine Runs_nil ?_
      refine thenQ_n ?_
      refine W_ret ?_
      refine finQ_r ?_
      refine ResOk.one rfl (RVal.is rfl rfl (by simp only [pickV]; split <;> first | rfl | omega))
      done)

/-! alphabets -/
def one1 (s : ByteArray) (k : Nat) : ByteArray := s.extract k (k + 1)
def alphA (s : ByteArray) : Nat → ByteArray
  | 0 => ByteArray.empty
  | k + 1 => if (alphA s k).size < 30 ∧ RightP (alphA s k ++ one1 s k) then alphA s k ++ one1 s k else alphA s k
  termination_by k => k
def alphV (s : ByteArray) : ByteArray := alphA s s.size
theorem alph_0 (s : ByteArray) : alphA s 0 = ByteArray.empty := by rw [alphA]
theorem alph_y (s : ByteArray) (k : Nat) (h : ((alphA s k).size : Int) < 30) (hR : RightP (alphA s k ++ one1 s k)) : alphA s k ++ s.extract (k : Int).toNat ((k : Int) + 1).toNat = alphA s (k + 1) := by
  rw [alphA, if_pos ⟨by omega, hR⟩]
  unfold one1; congr 2
theorem alph_n (s : ByteArray) (k : Nat) (hR : ¬ RightP (alphA s k ++ one1 s k)) : alphA s k = alphA s (k + 1) := by rw [alphA, if_neg (fun h => hR h.2)]
theorem alph_stop (s : ByteArray) (k : Nat) (h : ¬ ((alphA s k).size : Int) < 30) : ∀ d, alphA s (k + d) = alphA s k
  | 0 => rfl
  | d + 1 => by
    have ih := alph_stop s k h d
    rw [← Nat.add_assoc, alphA, if_neg (fun h2 => by rw [ih] at h2; omega), ih]
theorem alph_end (s : ByteArray) (k : Nat) (hk : k ≤ s.size) (h : ¬ ((k : Int) < s.size ∧ ((alphA s k).size : Int) < 30)) : alphA s k = alphV s := by
  unfold alphV
  by_cases e : k = s.size
  · rw [e]
  · have := alph_stop s k (by omega) (s.size - k)
    rw [show k + (s.size - k) = s.size by omega] at this
    exact this.symm
theorem alph_size (s : ByteArray) : ∀ k, (alphA s k).size ≤ 30
  | 0 => by rw [alph_0]; decide
  | k + 1 => by
    have ih := alph_size s k
    rw [alphA]
    split
    · rename_i h
      have : (one1 s k).size ≤ 1 := by unfold one1; rw [ByteArray.size_extract]; omega
      rw [ByteArray.size_append]; omega
    · exact ih
theorem alph_right (s : ByteArray) : ∀ k, RightP (alphA s k)
  | 0 => by rw [alph_0]; intro i hi; exact absurd hi (Nat.not_lt_zero i)
  | k + 1 => by
    rw [alphA]
    split
    · rename_i h; exact h.2
    · exact alph_right s k

set_option maxRecDepth 100000 in
set_option maxHeartbeats 1000000 in
theorem alph_s (s : ByteArray) (hs : s.size ≤ 9223372036854775807) :
    FPure Try.prog 10 [Is (.string s)] (Is (.string (alphV s))) := by
  refine FPure.of Try.func10 Try.ntmps10 rfl (by kernel_rfl) rfl rfl rfl ?_
  refine W_seq ?_
  refine W_regionE (c := 1) (c' := 2) (by kernel_rfl) rfl ?_
  refine Runs_p rfl (Valid.assignk (A := Is _) rfl rfl) rfl rfl ?_ -- law.go:20 assign
  refine Runs_nil ?_
  refine thenQ_n ?_
  refine W_seq ?_
  refine W_regionE (c := 2) (c' := 3) (by kernel_rfl) rfl ?_
  refine Runs_p rfl (Valid.assignk (A := Is _) rfl rfl) rfl rfl ?_ -- law.go:21 assign
  refine Runs_nil ?_
  refine thenQ_n ?_
  refine W_seq ?_
  refine W_seq ?_
  refine W_regionE (c := 3) (c' := 4) (by kernel_rfl) rfl ?_
  refine Runs_p rfl (Valid.assignk (A := Is _) rfl rfl) rfl rfl ?_ -- law.go:22 assign
  refine Runs_nil ?_
  refine thenQ_n ?_
  refine W_block ?_
  refine W_loopx (G := Nat) (fun (k : Nat) => k ≤ s.size) [(0, Is _)] (fun (k : Nat) => [(4, Is (.int .i64 (k : Int))), (3, Is (.string (alphA s k)))]) [] (fun (k : Nat) => []) 4 (fun (k : Nat) => s.size - k) (0) [] (by first | trivial | omega | (simp; omega)) ⟨⟨(leq_is rfl rfl (by first | rfl | exact congrArg Value.string (alph_0 _).symm)), (leq_is rfl rfl (by first | rfl | exact congrArg Value.string (alph_0 _).symm)), trivial⟩, ⟨(leq_is rfl rfl rfl), trivial⟩, trivial, trivial, rfl, ⟨supg rfl, supg rfl, trivial⟩, ⟨supg rfl, trivial⟩, trivial, trivial, rfl, rfl⟩ ?_
  intro k hI1
  have has := alph_size s k
  have hex := ByteArray.size_extract (a := s) (b := (k : Int).toNat) (e := ((k : Int) + 1).toNat)
  have hcat := ByteArray.size_append (a := alphA s k) (b := s.extract (k : Int).toNat ((k : Int) + 1).toNat)
  refine W_seq ?_
  refine W_seq ?_
  refine W_regionE (c := 4) (c' := 13) (by kernel_rfl) rfl ?_
  refine Runs_p rfl (Valid.movek (A := Is _) rfl rfl) rfl rfl ?_ -- law.go:22 move
  refine Runs_p rfl (Valid.movek (A := Is _) rfl rfl) rfl rfl ?_ -- law.go:22 move
  refine Runs_p rfl (Valid.slen rfl Try.underlying9 rfl) rfl rfl ?_ -- law.go:22 call
  refine Runs_p rfl (Valid.lss rfl rfl rfl) rfl rfl ?_ -- law.go:22 binOp
  refine Runs_p rfl (Valid.movek (A := Is _) rfl rfl) rfl rfl ?_ -- law.go:22 move
  refine Runs_cnd rfl rfl (Grd.is rfl) [] (fun hg => trivial) (fun hg => Valid.movek (A := Is _) rfl rfl) (by rfl) rfl ?_
  refine Runs_cnd rfl rfl (Grd.is rfl) [(10, _)] (fun hg => ⟨cnd_at rfl (by first | exact hg | exact hg.1 | exact hg.1.1 | exact hg.1.1.1), trivial⟩) (fun hg => Valid.slen rfl Try.underlying9 rfl) (by rfl) rfl ?_
  refine Runs_cnd rfl rfl (Grd.is rfl) [(11, _)] (fun hg => ⟨cnd_at rfl (by first | exact hg | exact hg.1 | exact hg.1.1 | exact hg.1.1.1), trivial⟩) (fun hg => Valid.lss rfl rfl rfl) (by rfl) rfl ?_
  refine Runs_p rfl (Valid.pickand rfl rfl rfl (fun h => by first | exact h | exact ⟨hg, h⟩) rfl) rfl rfl ?_ -- law.go:22 pick
  refine Runs_nil ?_
  refine thenQ_n ?_
  refine W_cond _ rfl (fun hb1 => ?_) (fun hb1 => ?_)
  · try simp only [decide_eq_true_eq, Bool.and_eq_true] at hb1
    all_goals (
      have hsz : ((alphA s k).size : Int) < 30 := by omega
      refine W_skip ?_
      refine thenQ_n ?_
      refine W_seq ?_
      refine W_block ?_
      refine W_seq ?_
      refine W_regionE (c := 13) (c' := 21) (by kernel_rfl) rfl ?_
      refine Runs_p rfl (Valid.movek (A := Is _) rfl rfl) rfl rfl ?_ -- law.go:23 move
      refine Runs_p rfl (Valid.movek (A := Is _) rfl rfl) rfl rfl ?_ -- law.go:23 move
      refine Runs_p rfl (Valid.movek (A := Is _) rfl rfl) rfl rfl ?_ -- law.go:23 move
      refine Runs_p rfl (Valid.movek (A := Is _) rfl rfl) rfl rfl ?_ -- law.go:23 move
      refine Runs_p rfl (Valid.add rfl rfl rfl (room64 (by first | omega | (simp only [Int.toNat_natCast, toNat_add, toNat_add1, List.length_append, List.length_cons, List.length_nil, List.length_replicate]; omega)) (by first | omega | (simp only [Int.toNat_natCast, toNat_add, toNat_add1, List.length_append, List.length_cons, List.length_nil, List.length_replicate]; omega)))) rfl rfl ?_ -- law.go:23 binOp
      refine Runs_p rfl (Valid.sslice rfl Try.underlying9 rfl rfl rfl (by first | omega | (simp only [Int.toNat_natCast, toNat_add, toNat_add1, List.length_append, List.length_cons, List.length_nil, List.length_replicate]; omega))) rfl rfl ?_ -- law.go:23 slice
      refine Runs_p rfl (Valid.cat rfl rfl rfl (by first | omega | (simp only [ByteArray.size_append, ByteArray.size_extract]; omega) | (simp only [maxLen]; omega))) rfl rfl ?_ -- law.go:23 binOp
      refine Runs_p rfl (Valid.call rfl (rright_s _ (by rw [ByteArray.size_append]; omega)) ⟨argle rfl, trivial⟩) rfl rfl ?_ -- law.go:23 call
      refine Runs_nil ?_
      refine thenQ_n ?_
      refine W_cond _ rfl (fun hb2 => ?_) (fun hb2 => ?_)
      · try simp only [Int.toNat_natCast, toNat_add1, decide_eq_true_eq] at hb2
        all_goals (
          refine W_regionE (c := 21) (c' := 29) (by kernel_rfl) rfl ?_
          refine Runs_p rfl (Valid.movek (A := Is _) rfl rfl) rfl rfl ?_ -- law.go:24 move
          refine Runs_p rfl (Valid.movek (A := Is _) rfl rfl) rfl rfl ?_ -- law.go:24 move
          refine Runs_p rfl (Valid.movek (A := Is _) rfl rfl) rfl rfl ?_ -- law.go:24 move
          refine Runs_p rfl (Valid.movek (A := Is _) rfl rfl) rfl rfl ?_ -- law.go:24 move
          refine Runs_p rfl (Valid.add rfl rfl rfl (room64 (by first | omega | (simp only [Int.toNat_natCast, toNat_add, toNat_add1, List.length_append, List.length_cons, List.length_nil, List.length_replicate]; omega)) (by first | omega | (simp only [Int.toNat_natCast, toNat_add, toNat_add1, List.length_append, List.length_cons, List.length_nil, List.length_replicate]; omega)))) rfl rfl ?_ -- law.go:24 binOp
          refine Runs_p rfl (Valid.sslice rfl Try.underlying9 rfl rfl rfl (by first | omega | (simp only [Int.toNat_natCast, toNat_add, toNat_add1, List.length_append, List.length_cons, List.length_nil, List.length_replicate]; omega))) rfl rfl ?_ -- law.go:24 slice
          refine Runs_p rfl (Valid.cat rfl rfl rfl (by first | omega | (simp only [ByteArray.size_append, ByteArray.size_extract]; omega) | (simp only [maxLen]; omega))) rfl rfl ?_ -- law.go:24 binOp
          refine Runs_p rfl (Valid.assignk (A := Is _) rfl rfl) rfl rfl ?_ -- law.go:24 assign
          refine Runs_nil ?_
          refine blockQ_n ?_
          refine thenQ_n ?_
          refine W_regionE (c := 29) (c' := 32) (by kernel_rfl) rfl ?_
          refine Runs_p rfl (Valid.movek (A := Is _) rfl rfl) rfl rfl ?_ -- law.go:22 move
          refine Runs_p rfl (Valid.add rfl rfl rfl (room64 (by first | omega | (simp only [Int.toNat_natCast, toNat_add, toNat_add1, List.length_append, List.length_cons, List.length_nil, List.length_replicate]; omega)) (by first | omega | (simp only [Int.toNat_natCast, toNat_add, toNat_add1, List.length_append, List.length_cons, List.length_nil, List.length_replicate]; omega)))) rfl rfl ?_ -- law.go:22 binOp
          refine Runs_p rfl (Valid.assignk (A := Is _) rfl rfl) rfl rfl ?_ -- law.go:22 assign
          refine Runs_nil ?_
          refine LoopQ.next (k + 1) [] (by first | trivial | omega | (simp; omega)) (by first | omega | (dsimp only; omega)) ⟨⟨(leq_is rfl rfl (by first | rfl | exact congrArg Value.string (alph_y _ _ hsz (by assumption)) | exact congrArg Value.string (alph_n _ _ (by assumption)))), (leq_is rfl rfl (by first | rfl | exact congrArg Value.string (alph_y _ _ hsz (by assumption)) | exact congrArg Value.string (alph_n _ _ (by assumption)))), trivial⟩, ⟨(leq_is rfl rfl rfl), trivial⟩, trivial, trivial, rfl, ⟨supg rfl, supg rfl, trivial⟩, ⟨supg rfl, trivial⟩, trivial, trivial, rfl, rfl⟩
          done)
      · try simp only [Int.toNat_natCast, toNat_add1, decide_eq_false_iff_not] at hb2
        all_goals (
          refine W_skip ?_
          refine blockQ_n ?_
          refine thenQ_n ?_
          refine W_regionE (c := 21) (c' := 24) (by kernel_rfl) rfl ?_
          refine Runs_p rfl (Valid.movek (A := Is _) rfl rfl) rfl rfl ?_ -- law.go:22 move
          refine Runs_p rfl (Valid.add rfl rfl rfl (room64 (by first | omega | (simp only [Int.toNat_natCast, toNat_add, toNat_add1, List.length_append, List.length_cons, List.length_nil, List.length_replicate]; omega)) (by first | omega | (simp only [Int.toNat_natCast, toNat_add, toNat_add1, List.length_append, List.length_cons, List.length_nil, List.length_replicate]; omega)))) rfl rfl ?_ -- law.go:22 binOp
          refine Runs_p rfl (Valid.assignk (A := Is _) rfl rfl) rfl rfl ?_ -- law.go:22 assign
          refine Runs_nil ?_
          refine LoopQ.next (k + 1) [] (by first | trivial | omega | (simp; omega)) (by first | omega | (dsimp only; omega)) ⟨⟨(leq_is rfl rfl (by first | rfl | exact congrArg Value.string (alph_y _ _ hsz (by assumption)) | exact congrArg Value.string (alph_n _ _ (by assumption)))), (leq_is rfl rfl (by first | rfl | exact congrArg Value.string (alph_y _ _ hsz (by assumption)) | exact congrArg Value.string (alph_n _ _ (by assumption)))), trivial⟩, ⟨(leq_is rfl rfl rfl), trivial⟩, trivial, trivial, rfl, ⟨supg rfl, supg rfl, trivial⟩, ⟨supg rfl, trivial⟩, trivial, trivial, rfl, rfl⟩
          done)
      done)
  · try simp only [decide_eq_false_iff_not, Bool.and_eq_false_iff] at hb1
    all_goals (
      refine W_exit ?_
      refine thenQ_e ?_
      refine loopQ_e ?_
      refine blockQ_x ?_
      refine thenQ_n ?_
      refine W_seq ?_
      refine W_regionE (c := 13) (c' := 15) (by kernel_rfl) rfl ?_
      refine Runs_p rfl (Valid.movek (A := Is _) rfl rfl) rfl rfl ?_ -- law.go:27 move
      refine Runs_p rfl (Valid.assignk (A := Is _) rfl rfl) rfl rfl ?_ -- law.go:27 assign
      refine Runs_nil ?_
      refine thenQ_n ?_
      refine W_ret ?_
      refine finQ_r ?_
      refine ResOk.one rfl (RVal.is rfl rfl (by rw [alph_end s k (by omega) (by omega)]))
      done)

/-! texts of an alphabet -/
def txtA (a : ByteArray) (raw : List Int) : Nat → ByteArray
  | 0 => ByteArray.empty
  | k + 1 => txtA a raw k ++ a.extract (pickV (raw.getD k 0) a.size).toNat (pickV (raw.getD k 0) a.size + 1).toNat
  termination_by k => k
theorem txt_0 (a : ByteArray) (raw : List Int) : txtA a raw 0 = ByteArray.empty := by rw [txtA]
theorem txt_1 (a : ByteArray) (raw : List Int) (k : Nat) : txtA a raw k ++ a.extract (pickV (raw.getD (k : Int).toNat 0) a.size).toNat (pickV (raw.getD (k : Int).toNat 0) a.size + 1).toNat = txtA a raw (k + 1) := by rw [txtA]; rfl
def txtV (a : ByteArray) (raw : List Int) (most : Nat) : ByteArray := if a.size = 0 then ByteArray.empty else txtA a raw (min raw.length most)
theorem txtA_size (a : ByteArray) (raw : List Int) (h : 0 < a.size) : ∀ k, (txtA a raw k).size = k
  | 0 => by rw [txt_0]; rfl
  | k + 1 => by
    have := pickV_range (raw.getD k 0) a.size (by omega)
    rw [txtA, ByteArray.size_append, ByteArray.size_extract, txtA_size a raw h k]; omega
theorem txt_size (a : ByteArray) (raw : List Int) (most : Nat) : (txtV a raw most).size ≤ most := by
  unfold txtV
  split
  · exact Nat.zero_le _
  · rw [txtA_size a raw (by omega)]; omega
theorem txt_none (a : ByteArray) (raw : List Int) (most : Nat) (h : a = ByteArray.empty) : ByteArray.empty = txtV a raw most := by
  subst h; rfl
theorem eq_empty {x : ByteArray} (h : x.size = 0) : x = ByteArray.empty := ByteArray.size_eq_zero_iff.1 h
theorem txt_end (a : ByteArray) (raw : List Int) (most k : Nat) (hk : k ≤ raw.length) (hm : k ≤ most) (h : ¬ (((k : Int) < raw.length ∧ (k : Int) < most) ∧ a ≠ ByteArray.empty)) (h0 : a.size = 0 → k = 0) : txtA a raw k = txtV a raw most := by
  unfold txtV
  split
  · rename_i hz
    rw [h0 hz, txt_0]
  · rename_i hz
    have : a ≠ ByteArray.empty := fun e => hz (by rw [e]; rfl)
    have h2 : ¬ ((k : Int) < raw.length ∧ (k : Int) < most) := fun x => h ⟨x, this⟩
    rw [show k = min raw.length most by omega]
theorem ne_size {a : ByteArray} (h : ¬ a = ByteArray.empty) : 0 < a.size := by
  rcases Nat.eq_zero_or_pos a.size with e | e
  · exact absurd (eq_empty e) h
  · exact e

set_option maxRecDepth 100000 in
set_option maxHeartbeats 1000000 in
theorem text_s (a : ByteArray) (raw : List Int) (most : Nat) (ha : a.size ≤ 1000000) (hr : In64 raw) (hl : raw.length ≤ 9223372036854775807) (hm : most ≤ 1000000) :
    FPure Try.prog 14 [Is (.string a), Sl 1 raw.length (raw.map (Value.int .i64)), Is (.int .i64 (most : Int))] (Is (.string (txtV a raw most))) := by
  refine FPure.of Try.func14 Try.ntmps14 rfl (by kernel_rfl) rfl rfl rfl ?_
  refine W_seq ?_
  refine W_regionE (c := 1) (c' := 2) (by kernel_rfl) rfl ?_
  refine Runs_p rfl (Valid.assignk (A := Is _) rfl rfl) rfl rfl ?_ -- law.go:31 assign
  refine Runs_nil ?_
  refine thenQ_n ?_
  refine W_seq ?_
  refine W_regionE (c := 2) (c' := 3) (by kernel_rfl) rfl ?_
  refine Runs_p rfl (Valid.assignk (A := Is _) rfl rfl) rfl rfl ?_ -- law.go:32 assign
  refine Runs_nil ?_
  refine thenQ_n ?_
  refine W_seq ?_
  refine W_seq ?_
  refine W_regionE (c := 3) (c' := 4) (by kernel_rfl) rfl ?_
  refine Runs_p rfl (Valid.assignk (A := Is _) rfl rfl) rfl rfl ?_ -- law.go:33 assign
  refine Runs_nil ?_
  refine thenQ_n ?_
  refine W_block ?_
  refine W_loopx (G := Nat) (fun (k : Nat) => k ≤ raw.length ∧ k ≤ most ∧ (a.size = 0 → k = 0)) [(0, Is _), (1, Sl 1 _ _), (2, Is _)] (fun (k : Nat) => [(8, Is (.int .i64 (k : Int))), (7, Is (.string (txtA a raw k)))]) [] (fun (k : Nat) => []) 4 (fun (k : Nat) => raw.length - k) (0) [] (⟨by omega, by omega, fun _ => rfl⟩) ⟨⟨(leq_is rfl rfl (by first | rfl | exact congrArg Value.string (txt_0 _ _).symm)), (leq_is rfl rfl (by first | rfl | exact congrArg Value.string (txt_0 _ _).symm)), trivial⟩, ⟨(leq_is rfl rfl rfl), (leq_sl (Reads.sl rfl) rfl rfl rfl), (leq_is rfl rfl rfl), trivial⟩, trivial, trivial, rfl, ⟨supg rfl, supg rfl, trivial⟩, ⟨supg rfl, supg rfl, supg rfl, trivial⟩, trivial, trivial, rfl, rfl⟩ ?_
  intro k hI1
  obtain ⟨hk1, hk2, hk3⟩ := hI1
  refine W_seq ?_
  refine W_seq ?_
  refine W_regionE (c := 4) (c' := 17) (by kernel_rfl) rfl ?_
  refine Runs_p rfl (Valid.movek (A := Is _) rfl rfl) rfl rfl ?_ -- law.go:33 move
  refine Runs_p rfl (Valid.movek (A := Sl 1 _ _) rfl rfl) rfl rfl ?_ -- law.go:33 move
  refine Runs_p rfl (Valid.len rfl Try.underlying22 (Reads.sl rfl)) rfl rfl ?_ -- law.go:33 call
  refine Runs_p rfl (Valid.lss rfl rfl rfl) rfl rfl ?_ -- law.go:33 binOp
  refine Runs_p rfl (Valid.movek (A := Is _) rfl rfl) rfl rfl ?_ -- law.go:33 move
  refine Runs_cnd rfl rfl (Grd.is rfl) [] (fun hg => trivial) (fun hg => Valid.movek (A := Is _) rfl rfl) (by rfl) rfl ?_
  refine Runs_cnd rfl rfl (Grd.is rfl) [] (fun hg => trivial) (fun hg => Valid.movek (A := Is _) rfl rfl) (by rfl) rfl ?_
  refine Runs_cnd rfl rfl (Grd.is rfl) [(15, _), (16, _)] (fun hg => ⟨cnd_at rfl (by first | exact hg | exact hg.1 | exact hg.1.1 | exact hg.1.1.1), cnd_at rfl (by first | exact hg | exact hg.1 | exact hg.1.1 | exact hg.1.1.1), trivial⟩) (fun hg => Valid.lss rfl rfl rfl) (by rfl) rfl ?_
  refine Runs_p rfl (Valid.pickand rfl rfl rfl (fun h => by first | exact h | exact ⟨hg, h⟩) rfl) rfl rfl ?_ -- law.go:33 pick
  refine Runs_p rfl (Valid.movek (A := Is _) rfl rfl) rfl rfl ?_ -- law.go:33 move
  refine Runs_cnd rfl rfl (Grd.is rfl) [] (fun hg => trivial) (fun hg => Valid.movek (A := Is _) rfl rfl) (by rfl) rfl ?_
  refine Runs_cnd rfl rfl (Grd.is rfl) [(20, _)] (fun hg => ⟨cnd_at rfl (by first | exact hg | exact hg.1 | exact hg.1.1 | exact hg.1.1.1), trivial⟩) (fun hg => Valid.sneq rfl rfl rfl) (by rfl) rfl ?_
  refine Runs_p rfl (Valid.pickand rfl rfl rfl (fun h => by first | exact h | exact ⟨hg, h⟩) rfl) rfl rfl ?_ -- law.go:33 pick
  refine Runs_nil ?_
  refine thenQ_n ?_
  refine W_cond _ rfl (fun hb1 => ?_) (fun hb1 => ?_)
  · try simp only [decide_eq_true_eq, Bool.and_eq_true, ne_eq] at hb1
    all_goals (
      have hne : ¬ a = ByteArray.empty := hb1.2
      refine W_skip ?_
      refine thenQ_n ?_
      refine W_seq ?_
      refine W_block ?_
      refine W_seq ?_
      refine W_regionE (c := 17) (c' := 25) (by kernel_rfl) rfl ?_
      refine Runs_p rfl (Valid.movek (A := Sl 1 _ _) rfl rfl) rfl rfl ?_ -- law.go:34 move
      refine Runs_p rfl (Valid.movek (A := Is _) rfl rfl) rfl rfl ?_ -- law.go:34 move
      refine Runs_p rfl (Valid.eltaddr1 0 rfl Try.underlying22 sz3 (Reads.sl rfl) rfl (by first | omega | (simp only [Int.toNat_natCast, toNat_add, toNat_add1, List.length_append, List.length_cons, List.length_nil, List.length_replicate]; omega)) (by first | rfl | simp)) rfl rfl ?_ -- law.go:34 indexAddr
      refine Runs_p rfl (Valid.loadelt rfl ag3 rfl) rfl rfl ?_ -- law.go:34 load
      refine Runs_p rfl (Valid.movek (A := Is _) rfl rfl) rfl rfl ?_ -- law.go:34 move
      refine Runs_p rfl (Valid.slen rfl Try.underlying9 rfl) rfl rfl ?_ -- law.go:34 call
      refine Runs_p rfl (Valid.call rfl (pick_s _ _ (hr.at_ _).1 (hr.at_ _).2 (by have := ne_size hne; omega) (by omega)) ⟨argle rfl, argle rfl, trivial⟩) rfl rfl ?_ -- law.go:34 call
      refine Runs_p rfl (Valid.assignk (A := Is _) rfl rfl) rfl rfl ?_ -- law.go:34 assign
      refine Runs_nil ?_
      refine thenQ_n ?_
      refine W_regionE (c := 25) (c' := 33) (by kernel_rfl) rfl ?_
      refine Runs_p rfl (Valid.movek (A := Is _) rfl rfl) rfl rfl ?_ -- law.go:35 move
      refine Runs_p rfl (Valid.movek (A := Is _) rfl rfl) rfl rfl ?_ -- law.go:35 move
      refine Runs_p rfl (Valid.movek (A := Is _) rfl rfl) rfl rfl ?_ -- law.go:35 move
      refine Runs_p rfl (Valid.movek (A := Is _) rfl rfl) rfl rfl ?_ -- law.go:35 move
      refine Runs_p rfl (Valid.add rfl rfl rfl (room64 (by have h1 := ne_size hne; have h2 := pickV_range (raw.getD (k : Int).toNat 0) a.size (by omega); have h3 := txtA_size a raw h1 k; first | omega | (simp only [ByteArray.size_extract]; omega)) (by have h1 := ne_size hne; have h2 := pickV_range (raw.getD (k : Int).toNat 0) a.size (by omega); have h3 := txtA_size a raw h1 k; first | omega | (simp only [ByteArray.size_extract]; omega)))) rfl rfl ?_ -- law.go:35 binOp
      refine Runs_p rfl (Valid.sslice rfl Try.underlying9 rfl rfl rfl (by have h1 := ne_size hne; have h2 := pickV_range (raw.getD (k : Int).toNat 0) a.size (by omega); omega)) rfl rfl ?_ -- law.go:35 slice
      refine Runs_p rfl (Valid.cat rfl rfl rfl (by have h1 := ne_size hne; have h2 := pickV_range (raw.getD (k : Int).toNat 0) a.size (by omega); have h3 := txtA_size a raw h1 k; first | omega | (simp only [ByteArray.size_extract]; omega))) rfl rfl ?_ -- law.go:35 binOp
      refine Runs_p rfl (Valid.assignk (A := Is _) rfl rfl) rfl rfl ?_ -- law.go:35 assign
      refine Runs_nil ?_
      refine blockQ_n ?_
      refine thenQ_n ?_
      refine W_regionE (c := 33) (c' := 36) (by kernel_rfl) rfl ?_
      refine Runs_p rfl (Valid.movek (A := Is _) rfl rfl) rfl rfl ?_ -- law.go:33 move
      refine Runs_p rfl (Valid.add rfl rfl rfl (room64 (by first | omega | (simp only [Int.toNat_natCast, toNat_add, toNat_add1, List.length_append, List.length_cons, List.length_nil, List.length_replicate]; omega)) (by first | omega | (simp only [Int.toNat_natCast, toNat_add, toNat_add1, List.length_append, List.length_cons, List.length_nil, List.length_replicate]; omega)))) rfl rfl ?_ -- law.go:33 binOp
      refine Runs_p rfl (Valid.assignk (A := Is _) rfl rfl) rfl rfl ?_ -- law.go:33 assign
      refine Runs_nil ?_
      refine LoopQ.next (k + 1) [] (⟨by omega, by omega, fun h => by have := ne_size hne; omega⟩) (by first | omega | (dsimp only; omega)) ⟨⟨(leq_is rfl rfl (by first | rfl | exact congrArg Value.string (txt_1 _ _ _))), (leq_is rfl rfl (by first | rfl | exact congrArg Value.string (txt_1 _ _ _))), trivial⟩, ⟨(leq_is rfl rfl rfl), (leq_sl (Reads.sl rfl) rfl rfl rfl), (leq_is rfl rfl rfl), trivial⟩, trivial, trivial, rfl, ⟨supg rfl, supg rfl, trivial⟩, ⟨supg rfl, supg rfl, supg rfl, trivial⟩, trivial, trivial, rfl, rfl⟩
      done)
  · try simp only [decide_eq_false_iff_not, Bool.and_eq_false_iff, ne_eq] at hb1
    all_goals (
      refine W_exit ?_
      refine thenQ_e ?_
      refine loopQ_e ?_
      refine blockQ_x ?_
      refine thenQ_n ?_
      refine W_seq ?_
      refine W_regionE (c := 17) (c' := 19) (by kernel_rfl) rfl ?_
      refine Runs_p rfl (Valid.movek (A := Is _) rfl rfl) rfl rfl ?_ -- law.go:37 move
      refine Runs_p rfl (Valid.assignk (A := Is _) rfl rfl) rfl rfl ?_ -- law.go:37 assign
      refine Runs_nil ?_
      refine thenQ_n ?_
      refine W_ret ?_
      refine finQ_r ?_
      refine ResOk.one rfl (RVal.is rfl rfl (by rw [txt_end a raw most k (by omega) (by omega) (fun h => by
            rcases hb1 with (h1 | h1) | h1
            · exact h1 h.1.1
            · exact h1 h.1.2
            · exact h1 h.2) hk3]))
      done)
end Fe
end Go.Proofs.Ytilljaaolejedaa
