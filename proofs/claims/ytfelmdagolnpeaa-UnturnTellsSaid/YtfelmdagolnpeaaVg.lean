/-
  WALKS of stage 14: the law that is awake.
-/
import Derived.Test.YtfelmdagolnpeaaRows
import Derived.Test.YtfelmdagolnpeaaCm
import Derived.Test.YtfelmdagolnpeaaVm
import Derived.Test.YtfelmdagolnpeaaVa
import Derived.Test.YtfelmdagolnpeaaVd
import Derived.Test.YtfelmdagolnpeaaVn
import Derived.Test.YtfelmdagolnpeaaVb
import Derived.Test.YtfelmdagolnpeaaVe
import Derived.Test.YtfelmdagolnpeaaVo
import Derived.Test.YtfelmdagolnpeaaVp
import Derived.Test.YtfelmdagolnpeaaVf
namespace Go.Proofs.Ytfelmdagolnpeaa
open Go.RowKit
namespace Vg
open Ab Cm Vm Va Vd Vn Vb Ve Vo Vp Vf

theorem of_form (s : ByteArray) (c : Nat) : ∀ i, ofB s c i = ((List.range i).filter (fun k => byteA s k == c)).map Int.ofNat
  | 0 => by rw [of_0]; rfl
  | i + 1 => by
    rw [ofB, List.range_succ, List.filter_append, List.map_append, of_form s c i]
    by_cases h : byteA s i = c
    · rw [if_pos h]
      simp [h]
    · rw [if_neg h]
      simp [h]
theorem rv_form (s : ByteArray) : ∀ c, rvA s c = (List.range c).flatMap (fun c => ((List.range s.size).filter (fun k => byteA s k == c)).map Int.ofNat)
  | 0 => by rw [rv_0]; rfl
  | c + 1 => by
    rw [rvA, List.range_succ, List.flatMap_append, rv_form s c, of_form]
    simp
theorem vec_form (s : ByteArray) : vecL s = (List.range 256).flatMap (fun c => ((List.range s.size).filter (fun k => byteA s k == c)).map Int.ofNat) := by rw [vec_eq]; exact rv_form s 256
abbrev lN : ByteArray := ⟨#[110, 110, 98, 97, 97, 97]⟩
theorem vecN : vecL lN = [3, 4, 5, 2, 0, 1] := by rw [vec_form]; decide +kernel
theorem vecBA : vecL ⟨#[98, 97]⟩ = [1, 0] := by rw [vec_form]; decide +kernel
theorem vecAB : vecL ⟨#[97, 98]⟩ = [0, 1] := by rw [vec_form]; decide +kernel
theorem backN : backR lN 3 = (⟨#[98, 97, 110, 97, 110, 97]⟩, 0) := by
  rw [← ref_back, refR, if_neg (by decide)]
  have h : strR lN 3 6 = ⟨#[98, 97, 110, 97, 110, 97]⟩ := by
    simp only [strR, backA, vecN]
    decide
  exact congrArg (fun x => (x, (0 : Int))) h
theorem backM : backR lN 6 = (⟨#[]⟩, 1) := by rw [backR, if_pos (by decide)]; rfl
theorem backE1 : backR ⟨#[]⟩ 1 = (⟨#[]⟩, 1) := by rw [backR, if_pos (by decide)]; rfl
theorem backE0 : backR ⟨#[]⟩ 0 = (⟨#[]⟩, 0) := by
  rw [backR, if_neg (by decide)]
  have h : outL ⟨#[]⟩ 0 (ByteArray.mk #[]).size = [] := by
    show outL ⟨#[]⟩ 0 0 = []
    rw [outL]; rfl
  rw [h]
theorem cycBA : cycV ⟨#[98, 97]⟩ = 1 := by
  unfold cycV
  rw [vecBA]
  show cntM [1, 0] 2 = 1
  have h1 : ¬ isMin [1, 0] 1 := min_no (k := 1) (by rw [it_1, it_0]; decide)
  have h0 : isMin [1, 0] 0 := fun k => Nat.zero_le _
  rw [cnt_n h1, cnt_y h0, cnt_0]; rfl
theorem itAB : ∀ k, it [0, 1] 1 k = 1
  | 0 => it_0 _ _
  | k + 1 => by rw [it_1, itAB k]; rfl
theorem cycAB : cycV ⟨#[97, 98]⟩ = 2 := by
  unfold cycV
  rw [vecAB]
  show cntM [0, 1] 2 = 2
  have h1 : isMin [0, 1] 1 := fun k => by rw [itAB k]; exact Nat.le_refl _
  have h0 : isMin [0, 1] 0 := fun k => Nat.zero_le _
  rw [cnt_y h1, cnt_y h0, cnt_0]; rfl
theorem cycE : cycV ⟨#[]⟩ = 0 := cnt_0 _

theorem kb1 : FPure Try.prog 17 [Is (.string ⟨#[110, 110, 98, 97, 97, 97]⟩), Is (.int .i64 3)] (Tup [Is (.string ⟨#[98, 97, 110, 97, 110, 97]⟩), Is (.int .i64 0)]) := by
  have h := back_s lN 3 (by decide) (by decide)
  rw [backN] at h
  exact h

theorem kb2 : FPure Try.prog 17 [Is (.string ⟨#[110, 110, 98, 97, 97, 97]⟩), Is (.int .i64 6)] (Tup [Is (.string ⟨#[]⟩), Is (.int .i64 1)]) := by
  have h := back_s lN 6 (by decide) (by decide)
  rw [backM] at h
  exact h

theorem kb3 : FPure Try.prog 17 [Is (.string ⟨#[]⟩), Is (.int .i64 1)] (Tup [Is (.string ⟨#[]⟩), Is (.int .i64 1)]) := by
  have h := back_s ⟨#[]⟩ 1 (by decide) (by decide)
  rw [backE1] at h
  exact h

theorem kb4 : FPure Try.prog 17 [Is (.string ⟨#[]⟩), Is (.int .i64 0)] (Tup [Is (.string ⟨#[]⟩), Is (.int .i64 0)]) := by
  have h := back_s ⟨#[]⟩ 0 (by decide) (by decide)
  rw [backE0] at h
  exact h

theorem kv : FPure Try.prog 12 [Is (.string ⟨#[98, 97]⟩)] (Sl 1 2 (([1, 0] : List Int).map (Value.int .i64))) := by
  have h := vec_s ⟨#[98, 97]⟩ (by decide)
  rw [vecBA] at h
  exact h

theorem kc1 : FPure Try.prog 14 [Is (.string ⟨#[98, 97]⟩)] (Is (.int .i64 1)) := by
  have h := cyc_s ⟨#[98, 97]⟩ (by decide)
  rw [cycBA] at h
  exact h

theorem kc2 : FPure Try.prog 14 [Is (.string ⟨#[97, 98]⟩)] (Is (.int .i64 2)) := by
  have h := cyc_s ⟨#[97, 98]⟩ (by decide)
  rw [cycAB] at h
  exact h

theorem kc3 : FPure Try.prog 14 [Is (.string ⟨#[]⟩)] (Is (.int .i64 0)) := by
  have h := cyc_s ⟨#[]⟩ (by decide)
  rw [cycE] at h
  exact h

set_option maxRecDepth 100000 in
set_option maxHeartbeats 1000000 in
theorem awake_s  :
    FPure Try.prog 9 [] (Is (.bool true)) := by
  refine FPure.of Try.func9 Try.ntmps9 rfl (by kernel_rfl) rfl rfl rfl ?_
  refine W_seq ?_
  refine W_regionE (c := 1) (c' := 2) (by kernel_rfl) rfl ?_
  refine Runs_p rfl (Valid.assignk (A := Is _) rfl rfl) rfl rfl ?_ -- law.go:22 assign
  refine Runs_nil ?_
  refine thenQ_n ?_
  refine W_seq ?_
  refine W_regionE (c := 2) (c' := 8) (by kernel_rfl) rfl ?_
  refine Runs_p rfl (Valid.call rfl (kb1) ⟨argle rfl, argle rfl, trivial⟩) rfl rfl ?_ -- law.go:23 call
  refine Runs_p rfl (Valid.movek (A := Tup [Is _, Is _]) rfl rfl) rfl rfl ?_ -- law.go:23 move
  refine Runs_p rfl (Valid.extract _ rfl rfl rfl) rfl rfl ?_ -- law.go:23 extract
  refine Runs_p rfl (Valid.extract _ rfl rfl rfl) rfl rfl ?_ -- law.go:23 extract
  refine Runs_p rfl (Valid.assignk (A := Is _) rfl rfl) rfl rfl ?_ -- law.go:23 assign
  refine Runs_p rfl (Valid.assignk (A := Is _) rfl rfl) rfl rfl ?_ -- law.go:23 assign
  refine Runs_nil ?_
  refine thenQ_n ?_
  refine W_seq ?_
  refine W_regionE (c := 8) (c' := 14) (by kernel_rfl) rfl ?_
  refine Runs_p rfl (Valid.call rfl (kb2) ⟨argle rfl, argle rfl, trivial⟩) rfl rfl ?_ -- law.go:24 call
  refine Runs_p rfl (Valid.movek (A := Tup [Is _, Is _]) rfl rfl) rfl rfl ?_ -- law.go:24 move
  refine Runs_p rfl (Valid.extract _ rfl rfl rfl) rfl rfl ?_ -- law.go:24 extract
  refine Runs_p rfl (Valid.extract _ rfl rfl rfl) rfl rfl ?_ -- law.go:24 extract
  refine Runs_p rfl (Valid.assignk (A := Is _) rfl rfl) rfl rfl ?_ -- law.go:24 assign
  refine Runs_p rfl (Valid.assignk (A := Is _) rfl rfl) rfl rfl ?_ -- law.go:24 assign
  refine Runs_nil ?_
  refine thenQ_n ?_
  refine W_seq ?_
  refine W_regionE (c := 14) (c' := 20) (by kernel_rfl) rfl ?_
  refine Runs_p rfl (Valid.call rfl (kb3) ⟨argle rfl, argle rfl, trivial⟩) rfl rfl ?_ -- law.go:25 call
  refine Runs_p rfl (Valid.movek (A := Tup [Is _, Is _]) rfl rfl) rfl rfl ?_ -- law.go:25 move
  refine Runs_p rfl (Valid.extract _ rfl rfl rfl) rfl rfl ?_ -- law.go:25 extract
  refine Runs_p rfl (Valid.extract _ rfl rfl rfl) rfl rfl ?_ -- law.go:25 extract
  refine Runs_p rfl (Valid.assignk (A := Is _) rfl rfl) rfl rfl ?_ -- law.go:25 assign
  refine Runs_p rfl (Valid.assignk (A := Is _) rfl rfl) rfl rfl ?_ -- law.go:25 assign
  refine Runs_nil ?_
  refine thenQ_n ?_
  refine W_seq ?_
  refine W_regionE (c := 20) (c' := 26) (by kernel_rfl) rfl ?_
  refine Runs_p rfl (Valid.call rfl (kb4) ⟨argle rfl, argle rfl, trivial⟩) rfl rfl ?_ -- law.go:26 call
  refine Runs_p rfl (Valid.movek (A := Tup [Is _, Is _]) rfl rfl) rfl rfl ?_ -- law.go:26 move
  refine Runs_p rfl (Valid.extract _ rfl rfl rfl) rfl rfl ?_ -- law.go:26 extract
  refine Runs_p rfl (Valid.extract _ rfl rfl rfl) rfl rfl ?_ -- law.go:26 extract
  refine Runs_p rfl (Valid.assignk (A := Is _) rfl rfl) rfl rfl ?_ -- law.go:26 assign
  refine Runs_p rfl (Valid.assignk (A := Is _) rfl rfl) rfl rfl ?_ -- law.go:26 assign
  refine Runs_nil ?_
  refine thenQ_n ?_
  refine W_seq ?_
  refine W_regionE (c := 26) (c' := 66) (by kernel_rfl) rfl ?_
  refine Runs_p rfl (Valid.movek (A := Is _) rfl rfl) rfl rfl ?_ -- law.go:27 move
  refine Runs_p rfl (Valid.eql rfl rfl rfl) rfl rfl ?_ -- law.go:27 binOp
  refine Runs_p rfl (Valid.movek (A := Is _) rfl rfl) rfl rfl ?_ -- law.go:27 move
  refine Runs_yesp rfl rfl (Grd.is rfl) (by decide) (Valid.movek (A := Is _) rfl rfl) rfl rfl ?_ -- law.go:27 move
  refine Runs_yesp rfl rfl (Grd.is rfl) (by decide) (Valid.seql rfl rfl rfl) rfl rfl ?_ -- law.go:27 binOp
  refine Runs_p rfl (Valid.pickt (A := Is _) rfl rfl rfl) rfl rfl ?_ -- law.go:27 pick
  refine Runs_p rfl (Valid.movek (A := Is _) rfl rfl) rfl rfl ?_ -- law.go:27 move
  refine Runs_yesp rfl rfl (Grd.is rfl) (by decide) (Valid.movek (A := Is _) rfl rfl) rfl rfl ?_ -- law.go:27 move
  refine Runs_yesp rfl rfl (Grd.is rfl) (by decide) (Valid.eql rfl rfl rfl) rfl rfl ?_ -- law.go:27 binOp
  refine Runs_p rfl (Valid.pickt (A := Is _) rfl rfl rfl) rfl rfl ?_ -- law.go:27 pick
  refine Runs_p rfl (Valid.movek (A := Is _) rfl rfl) rfl rfl ?_ -- law.go:27 move
  refine Runs_yesp rfl rfl (Grd.is rfl) (by decide) (Valid.movek (A := Is _) rfl rfl) rfl rfl ?_ -- law.go:27 move
  refine Runs_yesp rfl rfl (Grd.is rfl) (by decide) (Valid.eql rfl rfl rfl) rfl rfl ?_ -- law.go:27 binOp
  refine Runs_p rfl (Valid.pickt (A := Is _) rfl rfl rfl) rfl rfl ?_ -- law.go:27 pick
  refine Runs_p rfl (Valid.movek (A := Is _) rfl rfl) rfl rfl ?_ -- law.go:27 move
  refine Runs_yesp rfl rfl (Grd.is rfl) (by decide) (Valid.movek (A := Is _) rfl rfl) rfl rfl ?_ -- law.go:27 move
  refine Runs_yesp rfl rfl (Grd.is rfl) (by decide) (Valid.eql rfl rfl rfl) rfl rfl ?_ -- law.go:27 binOp
  refine Runs_p rfl (Valid.pickt (A := Is _) rfl rfl rfl) rfl rfl ?_ -- law.go:27 pick
  refine Runs_p rfl (Valid.movek (A := Is _) rfl rfl) rfl rfl ?_ -- law.go:27 move
  refine Runs_yesp rfl rfl (Grd.is rfl) (by decide) (Valid.movek (A := Is _) rfl rfl) rfl rfl ?_ -- law.go:27 move
  refine Runs_yesp rfl rfl (Grd.is rfl) (by decide) (Valid.seql rfl rfl rfl) rfl rfl ?_ -- law.go:27 binOp
  refine Runs_p rfl (Valid.pickt (A := Is _) rfl rfl rfl) rfl rfl ?_ -- law.go:27 pick
  refine Runs_p rfl (Valid.movek (A := Is _) rfl rfl) rfl rfl ?_ -- law.go:27 move
  refine Runs_yesp rfl rfl (Grd.is rfl) (by decide) (Valid.call rfl (kv) ⟨argle rfl, trivial⟩) rfl rfl ?_ -- law.go:27 call
  refine Runs_yesp rfl rfl (Grd.is rfl) (by decide) (Valid.lit (el := 3) [_, _] rfl rfl (fun _ => by kernel_rfl) rfl (by decide)) rfl rfl ?_ -- law.go:27 buildSlice
  refine Runs_yesp rfl rfl (Grd.is rfl) (by decide) (Valid.call rfl (ksame [1, 0] (by decide)) ⟨argle_sl (Reads.sl rfl), argle_sl (Reads.sl rfl), trivial⟩) rfl rfl ?_ -- law.go:27 call
  refine Runs_p rfl (Valid.pickt (A := Is _) rfl rfl rfl) rfl rfl ?_ -- law.go:27 pick
  refine Runs_p rfl (Valid.movek (A := Is _) rfl rfl) rfl rfl ?_ -- law.go:27 move
  refine Runs_yesp rfl rfl (Grd.is rfl) (by decide) (Valid.call rfl (kc1) ⟨argle rfl, trivial⟩) rfl rfl ?_ -- law.go:27 call
  refine Runs_yesp rfl rfl (Grd.is rfl) (by decide) (Valid.eql rfl rfl rfl) rfl rfl ?_ -- law.go:27 binOp
  refine Runs_p rfl (Valid.pickt (A := Is _) rfl rfl rfl) rfl rfl ?_ -- law.go:27 pick
  refine Runs_p rfl (Valid.movek (A := Is _) rfl rfl) rfl rfl ?_ -- law.go:27 move
  refine Runs_yesp rfl rfl (Grd.is rfl) (by decide) (Valid.call rfl (kc2) ⟨argle rfl, trivial⟩) rfl rfl ?_ -- law.go:27 call
  refine Runs_yesp rfl rfl (Grd.is rfl) (by decide) (Valid.eql rfl rfl rfl) rfl rfl ?_ -- law.go:27 binOp
  refine Runs_p rfl (Valid.pickt (A := Is _) rfl rfl rfl) rfl rfl ?_ -- law.go:27 pick
  refine Runs_p rfl (Valid.movek (A := Is _) rfl rfl) rfl rfl ?_ -- law.go:27 move
  refine Runs_yesp rfl rfl (Grd.is rfl) (by decide) (Valid.call rfl (kc3) ⟨argle rfl, trivial⟩) rfl rfl ?_ -- law.go:27 call
  refine Runs_yesp rfl rfl (Grd.is rfl) (by decide) (Valid.eql rfl rfl rfl) rfl rfl ?_ -- law.go:27 binOp
  refine Runs_p rfl (Valid.pickt (A := Is _) rfl rfl rfl) rfl rfl ?_ -- law.go:27 pick
  refine Runs_p rfl (Valid.assignk (A := Is _) rfl rfl) rfl rfl ?_ -- law.go:27 assign
  refine Runs_nil ?_
  refine thenQ_n ?_
  refine W_ret ?_
  refine finQ_r ?_
  refine ResOk.one rfl (RVal.is rfl rfl (rfl))

set_option maxRecDepth 100000 in
set_option maxHeartbeats 1000000 in
theorem pick14_s (c n : Int) (h1 : -9223372036854775808 ≤ c) (h2 : c ≤ 9223372036854775807) (h3 : 0 < n) (_h4 : n ≤ 9223372036854775807) :
    FPure Try.prog 16 [Is (.int .i64 c), Is (.int .i64 n)] (Is (.int .i64 (pickV c n))) := by
  refine FPure.of Try.func16 Try.ntmps16 rfl (by kernel_rfl) rfl rfl rfl ?_
  refine W_seq ?_
  refine W_regionE (c := 1) (c' := 2) (by kernel_rfl) rfl ?_
  refine Runs_p rfl (Valid.assignk (A := Is _) rfl rfl) rfl rfl ?_ -- law.go:14 assign
  refine Runs_nil ?_
  refine thenQ_n ?_
  refine W_seq ?_
  refine W_seq ?_
  refine W_regionE (c := 2) (c' := 4) (by kernel_rfl) rfl ?_
  refine Runs_p rfl (Valid.movek (A := Is _) rfl rfl) rfl rfl ?_ -- law.go:15 move
  refine Runs_p rfl (Valid.lss rfl rfl rfl) rfl rfl ?_ -- law.go:15 binOp
  refine Runs_nil ?_
  refine thenQ_n ?_
  refine W_cond _ rfl (fun hb1 => ?_) (fun hb1 => ?_)
  · try simp only [decide_eq_true_eq] at hb1
    all_goals (
      refine W_regionE (c := 4) (c' := 8) (by kernel_rfl) rfl ?_
      refine Runs_p rfl (Valid.movek (A := Is _) rfl rfl) rfl rfl ?_ -- law.go:16 move
      refine Runs_p rfl (Valid.add rfl rfl rfl (room64 (by first | omega | (simp only [Int.toNat_natCast, toNat_add, toNat_add1, List.length_append, List.length_cons, List.length_nil, List.length_replicate]; omega)) (by first | omega | (simp only [Int.toNat_natCast, toNat_add, toNat_add1, List.length_append, List.length_cons, List.length_nil, List.length_replicate]; omega)))) rfl rfl ?_ -- law.go:16 binOp
      refine Runs_p rfl (Valid.neg rfl rfl (room64 (by first | omega | (simp only [Int.toNat_natCast, toNat_add, toNat_add1, List.length_append, List.length_cons, List.length_nil, List.length_replicate]; omega)) (by first | omega | (simp only [Int.toNat_natCast, toNat_add, toNat_add1, List.length_append, List.length_cons, List.length_nil, List.length_replicate]; omega)))) rfl rfl ?_ -- law.go:16 unOp
      refine Runs_p rfl (Valid.assignk (A := Is _) rfl rfl) rfl rfl ?_ -- law.go:16 assign
      refine Runs_nil ?_
      refine thenQ_n ?_
      refine W_seq ?_
      refine W_regionE (c := 8) (c' := 12) (by kernel_rfl) rfl ?_
      refine Runs_p rfl (Valid.movek (A := Is _) rfl rfl) rfl rfl ?_ -- law.go:18 move
      refine Runs_p rfl (Valid.movek (A := Is _) rfl rfl) rfl rfl ?_ -- law.go:18 move
      refine Runs_p rfl (Valid.rem rfl rfl rfl (by first | omega | (simp only [Int.toNat_natCast, toNat_add, toNat_add1, List.length_append, List.length_cons, List.length_nil, List.length_replicate]; omega)) (by first | omega | (simp only [Int.toNat_natCast, toNat_add, toNat_add1, List.length_append, List.length_cons, List.length_nil, List.length_replicate]; omega))) rfl rfl ?_ -- law.go:18 binOp
      refine Runs_p rfl (Valid.assignk (A := Is _) rfl rfl) rfl rfl ?_ -- law.go:18 assign
      refine Runs_nil ?_
      refine thenQ_n ?_
      refine W_ret ?_
      refine finQ_r ?_
      refine ResOk.one rfl (RVal.is rfl rfl (by simp only [pickV]; split <;> first | rfl | omega))
      done)
  · try simp only [decide_eq_false_iff_not] at hb1
    all_goals (
      refine W_skip ?_
      refine thenQ_n ?_
      refine W_seq ?_
      refine W_regionE (c := 4) (c' := 8) (by kernel_rfl) rfl ?_
      refine Runs_p rfl (Valid.movek (A := Is _) rfl rfl) rfl rfl ?_ -- law.go:18 move
      refine Runs_p rfl (Valid.movek (A := Is _) rfl rfl) rfl rfl ?_ -- law.go:18 move
      refine Runs_p rfl (Valid.rem rfl rfl rfl (by first | omega | (simp only [Int.toNat_natCast, toNat_add, toNat_add1, List.length_append, List.length_cons, List.length_nil, List.length_replicate]; omega)) (by first | omega | (simp only [Int.toNat_natCast, toNat_add, toNat_add1, List.length_append, List.length_cons, List.length_nil, List.length_replicate]; omega))) rfl rfl ?_ -- law.go:18 binOp
      refine Runs_p rfl (Valid.assignk (A := Is _) rfl rfl) rfl rfl ?_ -- law.go:18 assign
      refine Runs_nil ?_
      refine thenQ_n ?_
      refine W_ret ?_
      refine finQ_r ?_
      refine ResOk.one rfl (RVal.is rfl rfl (by simp only [pickV]; split <;> first | rfl | omega))
      done)
end Vg
end Go.Proofs.Ytfelmdagolnpeaa
