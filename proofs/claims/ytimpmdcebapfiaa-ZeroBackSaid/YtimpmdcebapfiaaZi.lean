/-
  WALKS of stage 6: more laws.
-/
import Derived.Test.YtimpmdcebapfiaaRows
import Derived.Test.YtimpmdcebapfiaaZm
import Derived.Test.YtimpmdcebapfiaaZn
import Derived.Test.YtimpmdcebapfiaaZo
import Derived.Test.YtimpmdcebapfiaaZp
import Derived.Test.YtimpmdcebapfiaaZq
import Derived.Test.YtimpmdcebapfiaaZa
import Derived.Test.YtimpmdcebapfiaaZb
import Derived.Test.YtimpmdcebapfiaaZc
import Derived.Test.YtimpmdcebapfiaaZd
import Derived.Test.YtimpmdcebapfiaaZe
import Derived.Test.YtimpmdcebapfiaaZf
import Derived.Test.YtimpmdcebapfiaaZg
import Derived.Test.YtimpmdcebapfiaaZh
namespace Go.Proofs.Ytimpmdcebapfiaa
open Go.RowKit
namespace Zi
open Ab Zm Zn Zo Zp Zq Za Zb Zc Zd Ze Zf Zg Zh
theorem ag3 (w : World) : (isAgg 3).run Try.prog w = .ok false w := by kernel_rfl
theorem sz3 (w : World) : (sizeOf 3).run Try.prog w = .ok 1 w := by kernel_rfl
theorem ti3 : TI Try.prog 3 1 8 := .mk' (z := (Value.int .i64 0)) (by kernel_rfl) rfl
theorem tz3 : (Try.prog.info? 3).map (fun i => (i.zero, i.size, i.bytes)) = some (some (.int .i64 0), 1, 8) := by kernel_rfl
theorem num_n {d : List Int} {n : Nat} {xs : List Value} (hn : n = d.length) (hx : xs = d.map (Value.int .i64)) (hb : badD d = false) (hl : d.length ≤ 39) : FPure Try.prog 16 [Sl 1 n xs] (Tup [Is (.int .i64 (numW d)), Is (.int .i64 0)]) := by
  subst hn hx
  have h := num_s d (by omega)
  rw [num_short hb hl] at h
  exact h
theorem num_d {k : Int} (h0 : 0 ≤ k) (h1 : k ≤ 1099511627776) : FPure Try.prog 16 [Sl 1 (digs k.toNat).length ((digs k.toNat).map (Value.int .i64))] (Tup [Is (.int .i64 k), Is (.int .i64 0)]) := by
  have h40 := digs_40 (a := k.toNat) (by omega)
  have h := num_s (digs k.toNat) (by omega)
  rw [num_digs (a := k.toNat) (by omega), Int.toNat_of_nonneg h0] at h
  exact h
theorem digs_ok {k : Int} {d : List Int} (hb : badD d = false) : ((((true && decide (k = k)) && decide (digs (numW d).toNat = d)) && decide (numW (0 :: d) = 2 * numW d + 1)) && decide (numW (1 :: d) = 2 * numW d + 2)) = true := by
  have h1 : numW (0 :: d) = 2 * numW d + 1 := by simp only [numW]; omega
  have h2 : numW (1 :: d) = 2 * numW d + 2 := by simp only [numW]; omega
  rw [digs_numW d hb, decide_eq_true h1, decide_eq_true h2, decide_eq_true rfl, decide_eq_true rfl]; rfl
theorem few_38 {raw : List Int} : 0 ≤ numW (fewL raw 38 2) ∧ numW (fewL raw 38 2) ≤ 549755813886 := by
  have h1 := numW_bd _ (few_bad (raw := raw) (most := 38))
  have h2 := numW_nn (few_bad (raw := raw) (most := 38))
  have h3 := pow_le (fewL raw 38 2).length 38 (few_len raw 38 2)
  omega

set_option maxRecDepth 100000 in
set_option maxHeartbeats 1000000 in
theorem digits_law (k0 : Int) (wk0 : -9223372036854775808 ≤ k0 ∧ k0 ≤ 9223372036854775807) (raw : List Int) (hr : In64 raw) (lraw : raw.length ≤ 9223372036854775807) :
    FPure Try.prog 5 [Is (.int .i64 k0), Sl 1 raw.length (raw.map (Value.int .i64))] (Is (.bool true)) := by
  refine FPure.of Try.func5 Try.ntmps5 rfl (by kernel_rfl) rfl rfl rfl ?_
  refine W_seq ?_
  refine W_regionE (c := 1) (c' := 2) (by kernel_rfl) rfl ?_
  refine Runs_p rfl (Valid.assignk (A := Is _) rfl rfl) rfl rfl ?_ -- law.go:88 assign
  refine Runs_nil ?_
  refine thenQ_n ?_
  refine W_seq ?_
  refine W_regionE (c := 2) (c' := 4) (by kernel_rfl) rfl ?_
  refine Runs_p rfl (Valid.call rfl (awake_s) trivial) rfl rfl ?_ -- law.go:89 call
  refine Runs_p rfl (Valid.assignk (A := Is _) rfl rfl) rfl rfl ?_ -- law.go:89 assign
  refine Runs_nil ?_
  refine thenQ_n ?_
  refine W_seq ?_
  refine W_regionE (c := 4) (c' := 7) (by kernel_rfl) rfl ?_
  refine Runs_p rfl (Valid.movek (A := Is _) rfl rfl) rfl rfl ?_ -- law.go:90 move
  refine Runs_p rfl (Valid.call rfl (pick_s _ _ (by omega) (by omega) (by omega) (by omega)) ⟨argle rfl, argle rfl, trivial⟩) rfl rfl ?_ -- law.go:90 call
  refine Runs_p rfl (Valid.assignk (A := Is _) rfl rfl) rfl rfl ?_ -- law.go:90 assign
  refine Runs_nil ?_
  refine thenQ_n ?_
  refine W_seq ?_
  refine W_regionE (c := 7) (c' := 15) (by kernel_rfl) rfl ?_
  refine Runs_p rfl (Valid.movek (A := Is _) rfl rfl) rfl rfl ?_ -- law.go:91 move
  refine Runs_p rfl (Valid.call rfl (digits_s (pickV k0 1099511627777) (by have := pickV_range k0 1099511627777 (by decide); omega)) ⟨argle rfl, trivial⟩) rfl rfl ?_ -- law.go:91 call
  refine Runs_p rfl (Valid.call rfl (num_d (k := pickV k0 1099511627777) (by have := pickV_range k0 1099511627777 (by decide); omega) (by have := pickV_range k0 1099511627777 (by decide); omega)) ⟨argle_sl (Reads.sl rfl), trivial⟩) rfl rfl ?_ -- law.go:91 call
  refine Runs_p rfl (Valid.movek (A := Tup [Is _, Is _]) rfl rfl) rfl rfl ?_ -- law.go:91 move
  refine Runs_p rfl (Valid.extract _ rfl rfl rfl) rfl rfl ?_ -- law.go:91 extract
  refine Runs_p rfl (Valid.extract _ rfl rfl rfl) rfl rfl ?_ -- law.go:91 extract
  refine Runs_p rfl (Valid.assignk (A := Is _) rfl rfl) rfl rfl ?_ -- law.go:91 assign
  refine Runs_p rfl (Valid.assignk (A := Is _) rfl rfl) rfl rfl ?_ -- law.go:91 assign
  refine Runs_nil ?_
  refine thenQ_n ?_
  refine W_seq ?_
  refine W_regionE (c := 15) (c' := 18) (by kernel_rfl) rfl ?_
  refine Runs_p rfl (Valid.movek (A := Sl 1 _ _) rfl rfl) rfl rfl ?_ -- law.go:92 move
  refine Runs_p rfl (Valid.call rfl (few_s raw 38 2 hr (by omega) (by decide) (by decide) (by decide)) ⟨argle_sl (Reads.sl rfl), argle rfl, argle rfl, trivial⟩) rfl rfl ?_ -- law.go:92 call
  refine Runs_p rfl (Valid.assignk (A := Sl 1 _ _) rfl rfl) rfl rfl ?_ -- law.go:92 assign
  refine Runs_nil ?_
  refine thenQ_n ?_
  refine W_seq ?_
  refine W_regionE (c := 18) (c' := 25) (by kernel_rfl) rfl ?_
  refine Runs_p rfl (Valid.movek (A := Sl 1 _ _) rfl rfl) rfl rfl ?_ -- law.go:93 move
  refine Runs_p rfl (Valid.call rfl (num_n (d := fewL raw 38 2) rfl rfl few_bad (by have := few_len raw 38 2; omega)) ⟨argle_sl (Reads.sl rfl), trivial⟩) rfl rfl ?_ -- law.go:93 call
  refine Runs_p rfl (Valid.movek (A := Tup [Is _, Is _]) rfl rfl) rfl rfl ?_ -- law.go:93 move
  refine Runs_p rfl (Valid.extract _ rfl rfl rfl) rfl rfl ?_ -- law.go:93 extract
  refine Runs_p rfl (Valid.extract _ rfl rfl rfl) rfl rfl ?_ -- law.go:93 extract
  refine Runs_p rfl (Valid.assignk (A := Is _) rfl rfl) rfl rfl ?_ -- law.go:93 assign
  refine Runs_p rfl (Valid.assignk (A := Is _) rfl rfl) rfl rfl ?_ -- law.go:93 assign
  refine Runs_nil ?_
  refine thenQ_n ?_
  refine W_seq ?_
  refine W_regionE (c := 25) (c' := 34) (by kernel_rfl) rfl ?_
  refine Runs_w rfl (Valid.litown (el := 3) [_] rfl rfl (fun _ => by kernel_rfl) rfl (by decide)) rfl rfl ?_ -- law.go:94 buildSlice
  refine Runs_p rfl (Valid.movek (A := Sl 1 _ _) rfl rfl) rfl rfl ?_ -- law.go:94 move
  refine Runs_w rfl (Valid.app rfl Try.underlying22 ti3 (by decide) rfl rfl (Reads.sl rfl) (by first | exact one_map (fun _ => rfl) | exact one_cons rfl one_nil | exact one_app (one_map (fun _ => rfl)) (one_cons rfl one_nil) | exact one_app (one_map (fun _ => rfl)) (one_map (fun _ => rfl)) | exact one_rep rfl | exact one_app (one_rep rfl) (one_map (fun _ => rfl)) | (intro u hu; simp at hu; rcases hu with rfl | hu <;> first | rfl | (subst hu; rfl))) (by have := few_len raw 38 2; simp only [maxLen]; omega) (by have := few_len raw 38 2; omega)) rfl rfl ?_ -- law.go:94 call
  refine Runs_p rfl (Valid.call rfl (num_n (d := 0 :: fewL raw 38 2) (by simp; omega) (by simp) (bad_cons (.inl rfl) few_bad) (by have := few_len raw 38 2; simp; omega)) ⟨argle_sl (Reads.own rfl), trivial⟩) rfl rfl ?_ -- law.go:94 call
  refine Runs_p rfl (Valid.movek (A := Tup [Is _, Is _]) rfl rfl) rfl rfl ?_ -- law.go:94 move
  refine Runs_p rfl (Valid.extract _ rfl rfl rfl) rfl rfl ?_ -- law.go:94 extract
  refine Runs_p rfl (Valid.extract _ rfl rfl rfl) rfl rfl ?_ -- law.go:94 extract
  refine Runs_p rfl (Valid.assignk (A := Is _) rfl rfl) rfl rfl ?_ -- law.go:94 assign
  refine Runs_p rfl (Valid.assignk (A := Is _) rfl rfl) rfl rfl ?_ -- law.go:94 assign
  refine Runs_nil ?_
  refine thenQ_n ?_
  refine W_seq ?_
  refine W_regionE (c := 34) (c' := 43) (by kernel_rfl) rfl ?_
  refine Runs_w rfl (Valid.litown (el := 3) [_] rfl rfl (fun _ => by kernel_rfl) rfl (by decide)) rfl rfl ?_ -- law.go:95 buildSlice
  refine Runs_p rfl (Valid.movek (A := Sl 1 _ _) rfl rfl) rfl rfl ?_ -- law.go:95 move
  refine Runs_w rfl (Valid.app rfl Try.underlying22 ti3 (by decide) rfl rfl (Reads.sl rfl) (by first | exact one_map (fun _ => rfl) | exact one_cons rfl one_nil | exact one_app (one_map (fun _ => rfl)) (one_cons rfl one_nil) | exact one_app (one_map (fun _ => rfl)) (one_map (fun _ => rfl)) | exact one_rep rfl | exact one_app (one_rep rfl) (one_map (fun _ => rfl)) | (intro u hu; simp at hu; rcases hu with rfl | hu <;> first | rfl | (subst hu; rfl))) (by have := few_len raw 38 2; simp only [maxLen]; omega) (by have := few_len raw 38 2; omega)) rfl rfl ?_ -- law.go:95 call
  refine Runs_p rfl (Valid.call rfl (num_n (d := 1 :: fewL raw 38 2) (by simp; omega) (by simp) (bad_cons (.inr rfl) few_bad) (by have := few_len raw 38 2; simp; omega)) ⟨argle_sl (Reads.own rfl), trivial⟩) rfl rfl ?_ -- law.go:95 call
  refine Runs_p rfl (Valid.movek (A := Tup [Is _, Is _]) rfl rfl) rfl rfl ?_ -- law.go:95 move
  refine Runs_p rfl (Valid.extract _ rfl rfl rfl) rfl rfl ?_ -- law.go:95 extract
  refine Runs_p rfl (Valid.extract _ rfl rfl rfl) rfl rfl ?_ -- law.go:95 extract
  refine Runs_p rfl (Valid.assignk (A := Is _) rfl rfl) rfl rfl ?_ -- law.go:95 assign
  refine Runs_p rfl (Valid.assignk (A := Is _) rfl rfl) rfl rfl ?_ -- law.go:95 assign
  refine Runs_nil ?_
  refine thenQ_n ?_
  refine W_seq ?_
  refine W_seq ?_
  refine W_regionE (c := 43) (c' := 57) (by kernel_rfl) rfl ?_
  refine Runs_p rfl (Valid.movek (A := Is _) rfl rfl) rfl rfl ?_ -- law.go:96 move
  refine Runs_p rfl (Valid.neq rfl rfl rfl) rfl rfl ?_ -- law.go:96 binOp
  refine Runs_p rfl (Valid.movek (A := Is _) rfl rfl) rfl rfl ?_ -- law.go:96 move
  refine Runs_yesp rfl rfl (Grd.is rfl) (by decide) (Valid.movek (A := Is _) rfl rfl) rfl rfl ?_ -- law.go:96 move
  refine Runs_yesp rfl rfl (Grd.is rfl) (by decide) (Valid.neq rfl rfl rfl) rfl rfl ?_ -- law.go:96 binOp
  refine Runs_p rfl (Valid.pickf (A := Is _) rfl rfl rfl) rfl rfl ?_ -- law.go:96 pick
  refine Runs_p rfl (Valid.movek (A := Is _) rfl rfl) rfl rfl ?_ -- law.go:96 move
  refine Runs_yesp rfl rfl (Grd.is rfl) (by decide) (Valid.movek (A := Is _) rfl rfl) rfl rfl ?_ -- law.go:96 move
  refine Runs_yesp rfl rfl (Grd.is rfl) (by decide) (Valid.neq rfl rfl rfl) rfl rfl ?_ -- law.go:96 binOp
  refine Runs_p rfl (Valid.pickf (A := Is _) rfl rfl rfl) rfl rfl ?_ -- law.go:96 pick
  refine Runs_p rfl (Valid.movek (A := Is _) rfl rfl) rfl rfl ?_ -- law.go:96 move
  refine Runs_yesp rfl rfl (Grd.is rfl) (by decide) (Valid.movek (A := Is _) rfl rfl) rfl rfl ?_ -- law.go:96 move
  refine Runs_yesp rfl rfl (Grd.is rfl) (by decide) (Valid.neq rfl rfl rfl) rfl rfl ?_ -- law.go:96 binOp
  refine Runs_p rfl (Valid.pickf (A := Is _) rfl rfl rfl) rfl rfl ?_ -- law.go:96 pick
  refine Runs_nil ?_
  refine thenQ_n ?_
  refine W_cond _ rfl (fun hb1 => ?_) (fun hb1 => ?_)
  · try simp only [decide_eq_true_eq, not_true_eq_false, ne_eq] at hb1
    all_goals (
      refine W_seq ?_
      refine W_regionE (c := 57) (c' := 58) (by kernel_rfl) rfl ?_
      refine Runs_p rfl (Valid.assignk (A := Is _) rfl rfl) rfl rfl ?_ -- law.go:97 assign
      refine Runs_nil ?_
      refine thenQ_n ?_
      refine W_ret ?_
      refine thenQ_r ?_
      refine finQ_r ?_
      refine ResOk.one rfl (RVal.is rfl rfl (by first | (exfalso; omega) | (exfalso; simp at *; done) | exact congrArg Value.bool (digs_ok few_bad)))
      done)
  · try simp only [decide_eq_false_iff_not, not_true_eq_false, not_false_eq_true, ne_eq] at hb1
    all_goals (
      refine W_skip ?_
      refine thenQ_n ?_
      refine W_seq ?_
      refine W_regionE (c := 57) (c' := 84) (by kernel_rfl) rfl ?_
      refine Runs_p rfl (Valid.movek (A := Is _) rfl rfl) rfl rfl ?_ -- law.go:99 move
      refine Runs_p rfl (Valid.movek (A := Is _) rfl rfl) rfl rfl ?_ -- law.go:99 move
      refine Runs_cnd rfl rfl (Grd.is rfl) [] (fun hg => trivial) (fun hg => Valid.movek (A := Is _) rfl rfl) (by rfl) rfl ?_
      refine Runs_cnd rfl rfl (Grd.is rfl) [] (fun hg => trivial) (fun hg => Valid.movek (A := Is _) rfl rfl) (by rfl) rfl ?_
      refine Runs_cnd rfl rfl (Grd.is rfl) [(62, _), (63, _)] (fun hg => ⟨cnd_at rfl (by first | exact hg | exact hg.1 | exact hg.1.1 | exact hg.1.1.1), cnd_at rfl (by first | exact hg | exact hg.1 | exact hg.1.1 | exact hg.1.1.1), trivial⟩) (fun hg => Valid.eql rfl rfl rfl) (by rfl) rfl ?_
      refine Runs_p rfl (Valid.pickand rfl rfl rfl (fun h => by first | exact h | exact ⟨hg, h⟩) rfl) rfl rfl ?_ -- law.go:99 pick
      refine Runs_p rfl (Valid.movek (A := Is _) rfl rfl) rfl rfl ?_ -- law.go:99 move
      refine Runs_cnd rfl rfl (Grd.is rfl) [] (fun hg => trivial) (fun hg => Valid.movek (A := Is _) rfl rfl) (by rfl) rfl ?_
      refine Runs_cnd rfl rfl (Grd.is rfl) [(67, _)] (fun hg => ⟨cnd_at rfl (by first | exact hg | exact hg.1 | exact hg.1.1 | exact hg.1.1.1), trivial⟩) (fun hg => Valid.call rfl (digits_s (numW (fewL raw 38 2)) (by (try simp only [decide_eq_true_eq, Bool.and_eq_true] at hg); have := few_38 (raw := raw); omega)) ⟨argle rfl, trivial⟩) (by rfl) rfl ?_
      refine Runs_cnd rfl rfl (Grd.is rfl) [] (fun hg => trivial) (fun hg => Valid.movek (A := Sl 1 _ _) rfl rfl) (by rfl) rfl ?_
      refine Runs_cnd rfl rfl (Grd.is rfl) [(68, _), (69, _)] (fun hg => ⟨cnd_at rfl (by first | exact hg | exact hg.1 | exact hg.1.1 | exact hg.1.1.1), cnd_at rfl (by first | exact hg | exact hg.1 | exact hg.1.1 | exact hg.1.1.1), trivial⟩) (fun hg => Valid.call rfl (ints_s _ _ (by (try simp only [decide_eq_true_eq, Bool.and_eq_true] at hg); rw [digs_numW _ few_bad]; have := few_len raw 38 2; omega) (by (try simp only [decide_eq_true_eq, Bool.and_eq_true] at hg); have := few_len raw 38 2; omega)) ⟨argle_sl (Reads.sl rfl), argle_sl (Reads.sl rfl), trivial⟩) (by rfl) rfl ?_
      refine Runs_p rfl (Valid.pickand rfl rfl rfl (fun h => by first | exact h | exact ⟨hg, h⟩) rfl) rfl rfl ?_ -- law.go:99 pick
      refine Runs_p rfl (Valid.movek (A := Is _) rfl rfl) rfl rfl ?_ -- law.go:99 move
      refine Runs_cnd rfl rfl (Grd.is rfl) [] (fun hg => trivial) (fun hg => Valid.movek (A := Is _) rfl rfl) (by rfl) rfl ?_
      refine Runs_cnd rfl rfl (Grd.is rfl) [] (fun hg => trivial) (fun hg => Valid.movek (A := Is _) rfl rfl) (by rfl) rfl ?_
      refine Runs_cnd rfl rfl (Grd.is rfl) [(74, _)] (fun hg => ⟨cnd_at rfl (by first | exact hg | exact hg.1 | exact hg.1.1 | exact hg.1.1.1), trivial⟩) (fun hg => Valid.mul rfl rfl rfl (room64 (by (try simp only [decide_eq_true_eq, Bool.and_eq_true] at hg); have h38 := few_38 (raw := raw); first | omega | (simp only [numW]; omega)) (by (try simp only [decide_eq_true_eq, Bool.and_eq_true] at hg); have h38 := few_38 (raw := raw); first | omega | (simp only [numW]; omega)))) (by rfl) rfl ?_
      refine Runs_cnd rfl rfl (Grd.is rfl) [(75, _)] (fun hg => ⟨cnd_at rfl (by first | exact hg | exact hg.1 | exact hg.1.1 | exact hg.1.1.1), trivial⟩) (fun hg => Valid.add rfl rfl rfl (room64 (by (try simp only [decide_eq_true_eq, Bool.and_eq_true] at hg); have h38 := few_38 (raw := raw); first | omega | (simp only [numW]; omega)) (by (try simp only [decide_eq_true_eq, Bool.and_eq_true] at hg); have h38 := few_38 (raw := raw); first | omega | (simp only [numW]; omega)))) (by rfl) rfl ?_
      refine Runs_cnd rfl rfl (Grd.is rfl) [(73, _), (76, _)] (fun hg => ⟨cnd_at rfl (by first | exact hg | exact hg.1 | exact hg.1.1 | exact hg.1.1.1), cnd_at rfl (by first | exact hg | exact hg.1 | exact hg.1.1 | exact hg.1.1.1), trivial⟩) (fun hg => Valid.eql rfl rfl rfl) (by rfl) rfl ?_
      refine Runs_p rfl (Valid.pickand rfl rfl rfl (fun h => by first | exact h | exact ⟨hg, h⟩) rfl) rfl rfl ?_ -- law.go:99 pick
      refine Runs_p rfl (Valid.movek (A := Is _) rfl rfl) rfl rfl ?_ -- law.go:99 move
      refine Runs_cnd rfl rfl (Grd.is rfl) [] (fun hg => trivial) (fun hg => Valid.movek (A := Is _) rfl rfl) (by rfl) rfl ?_
      refine Runs_cnd rfl rfl (Grd.is rfl) [] (fun hg => trivial) (fun hg => Valid.movek (A := Is _) rfl rfl) (by rfl) rfl ?_
      refine Runs_cnd rfl rfl (Grd.is rfl) [(81, _)] (fun hg => ⟨cnd_at rfl (by first | exact hg | exact hg.1 | exact hg.1.1 | exact hg.1.1.1), trivial⟩) (fun hg => Valid.mul rfl rfl rfl (room64 (by (try simp only [decide_eq_true_eq, Bool.and_eq_true] at hg); have h38 := few_38 (raw := raw); first | omega | (simp only [numW]; omega)) (by (try simp only [decide_eq_true_eq, Bool.and_eq_true] at hg); have h38 := few_38 (raw := raw); first | omega | (simp only [numW]; omega)))) (by rfl) rfl ?_
      refine Runs_cnd rfl rfl (Grd.is rfl) [(82, _)] (fun hg => ⟨cnd_at rfl (by first | exact hg | exact hg.1 | exact hg.1.1 | exact hg.1.1.1), trivial⟩) (fun hg => Valid.add rfl rfl rfl (room64 (by (try simp only [decide_eq_true_eq, Bool.and_eq_true] at hg); have h38 := few_38 (raw := raw); first | omega | (simp only [numW]; omega)) (by (try simp only [decide_eq_true_eq, Bool.and_eq_true] at hg); have h38 := few_38 (raw := raw); first | omega | (simp only [numW]; omega)))) (by rfl) rfl ?_
      refine Runs_cnd rfl rfl (Grd.is rfl) [(80, _), (83, _)] (fun hg => ⟨cnd_at rfl (by first | exact hg | exact hg.1 | exact hg.1.1 | exact hg.1.1.1), cnd_at rfl (by first | exact hg | exact hg.1 | exact hg.1.1 | exact hg.1.1.1), trivial⟩) (fun hg => Valid.eql rfl rfl rfl) (by rfl) rfl ?_
      refine Runs_p rfl (Valid.pickand rfl rfl rfl (fun h => by first | exact h | exact ⟨hg, h⟩) rfl) rfl rfl ?_ -- law.go:99 pick
      refine Runs_p rfl (Valid.assignk (A := Is _) rfl rfl) rfl rfl ?_ -- law.go:99 assign
      refine Runs_nil ?_
      refine thenQ_n ?_
      refine W_ret ?_
      refine finQ_r ?_
      refine ResOk.one rfl (RVal.is rfl rfl (by first | (exfalso; omega) | (exfalso; simp at *; done) | exact congrArg Value.bool (digs_ok few_bad)))
      done)

theorem enc_n {l : List Int} {n : Nat} {xs : List Value} (hn : n = l.length) (hx : xs = l.map (Value.int .i64)) (hl : l.length ≤ 100000000000) (ho : outV l 1099511627776 = false) : FPure Try.prog 14 [Sl 1 n xs] (Tup [Sl 1 (enc 0 l).length ((enc 0 l).map (Value.int .i64)), Is (.int .i64 0)]) := by
  subst hn hx
  have h := enc_s l hl
  rw [encV, ho] at h
  exact h
theorem ints_t {l m : List Int} {n k : Nat} {xs ys : List Value} (hn : n = l.length) (hx : xs = l.map (Value.int .i64)) (hk : k = m.length) (hy : ys = m.map (Value.int .i64)) (hl : l.length ≤ 1000000000000) (he : l = m) : FPure Try.prog 10 [Sl 1 n xs, Sl 1 k ys] (Is (.bool true)) := by
  subst hn hx hk hy he
  exact ksame l hl
theorem out_app {l m : List Int} {k : Int} (h1 : outV l k = false) (h2 : outV m k = false) : outV (l ++ m) k = false := by
  simp only [outV, List.any_append, Bool.or_eq_false_iff] at *; exact ⟨h1, h2⟩
theorem parts_eq (a b : List Int) : enc 0 (a ++ [7] ++ b) = enc 0 (a ++ [7]) ++ enc 0 b := by
  rw [List.append_assoc, List.singleton_append, enc_app b 7 (by decide)]

set_option maxRecDepth 100000 in
set_option maxHeartbeats 1000000 in
theorem few_m (raw : List Int) (most below : Int) (hr : In64 raw) (hl : raw.length ≤ 9223372036854775807) (h3 : 0 < below) (h4 : below ≤ 1000) (h5 : most ≤ 1000000) :
    FMem Try.prog 13 [Sl 1 raw.length (raw.map (Value.int .i64)), Is (.int .i64 most), Is (.int .i64 below)] [] (Own 8 1 (fewL raw most below).length ((fewL raw most below).map (Value.int .i64))) [(8, .row 3 1 (fewL raw most below).length ((fewL raw most below).map (Value.int .i64)))] := by
  refine FMem.of Try.func13 Try.ntmps13 rfl (by kernel_rfl) rfl rfl rfl ?_
  refine W_seq ?_
  refine W_regionE (c := 1) (c' := 2) (by kernel_rfl) rfl ?_
  refine Runs_p rfl (Valid.assignk (A := Is (.slice none 0 0)) rfl rfl) rfl rfl ?_ -- law.go:20 assign
  refine Runs_nil ?_
  refine thenQ_n ?_
  refine W_seq ?_
  refine W_regionE (c := 2) (c' := 3) (by kernel_rfl) rfl ?_
  refine Runs_p rfl (Valid.assignk (A := Is (.slice none 0 0)) rfl rfl) rfl rfl ?_ -- law.go:21 assign
  refine Runs_nil ?_
  refine thenQ_n ?_
  refine W_seq ?_
  refine W_seq ?_
  refine W_regionE (c := 3) (c' := 4) (by kernel_rfl) rfl ?_
  refine Runs_p rfl (Valid.assignk (A := Is _) rfl rfl) rfl rfl ?_ -- law.go:22 assign
  refine Runs_nil ?_
  refine thenQ_n ?_
  refine W_block ?_
  refine W.ent ?_ (Ent.ownnil 7 3 1 rfl)
  refine W_loopx (G := Nat) (fun (k : Nat) => k ≤ raw.length ∧ (k : Int) ≤ max most 0) [(0, Sl 1 _ _), (1, Is _), (2, Is _)] (fun (k : Nat) => [(7, Own 32 1 k (((raw.take k).map (fewF below)).map I64)), (8, Is (.int .i64 (k : Int)))]) [] (fun (k : Nat) => [(32, .row 3 1 k (((raw.take k).map (fewF below)).map I64))]) 5 (fun (k : Nat) => raw.length - k) (0) [] (by first | trivial | omega | (simp; omega)) ⟨⟨(leq_own rfl rfl rfl (by first | rfl | exact few_snoc _ _ _ (by omega)) (by first | rfl | exact few_snoc _ _ _ (by omega))), (leq_is rfl rfl (by first | rfl | exact few_snoc _ _ _ (by omega))), trivial⟩, ⟨(leq_sl (Reads.sl rfl) rfl rfl rfl), (leq_is rfl rfl rfl), (leq_is rfl rfl rfl), trivial⟩, ⟨hp_row rfl (by first | rfl | exact few_snoc _ _ _ (by omega)) (by first | rfl | exact few_snoc _ _ _ (by omega)), trivial⟩, trivial, rfl, ⟨supg rfl, supg rfl, trivial⟩, ⟨supg rfl, supg rfl, supg rfl, trivial⟩, ⟨suph rfl rfl, trivial⟩, trivial, rfl, rfl⟩ ?_
  intro k hI1
  obtain ⟨hk1, hk2⟩ := hI1
  refine W_seq ?_
  refine W_seq ?_
  refine W_regionE (c := 5) (c' := 14) (by kernel_rfl) rfl ?_
  refine Runs_p rfl (Valid.movek (A := Is _) rfl rfl) rfl rfl ?_ -- law.go:22 move
  refine Runs_p rfl (Valid.movek (A := Sl 1 _ _) rfl rfl) rfl rfl ?_ -- law.go:22 move
  refine Runs_p rfl (Valid.len rfl Try.underlying22 (Reads.sl rfl)) rfl rfl ?_ -- law.go:22 call
  refine Runs_p rfl (Valid.lss rfl rfl rfl) rfl rfl ?_ -- law.go:22 binOp
  refine Runs_p rfl (Valid.movek (A := Is _) rfl rfl) rfl rfl ?_ -- law.go:22 move
  refine Runs_cnd rfl rfl (Grd.is rfl) [] (fun hg => trivial) (fun hg => Valid.movek (A := Is _) rfl rfl) (by rfl) rfl ?_
  refine Runs_cnd rfl rfl (Grd.is rfl) [] (fun hg => trivial) (fun hg => Valid.movek (A := Is _) rfl rfl) (by rfl) rfl ?_
  refine Runs_cnd rfl rfl (Grd.is rfl) [(14, _), (15, _)] (fun hg => ⟨cnd_at rfl (by first | exact hg | exact hg.1 | exact hg.1.1 | exact hg.1.1.1), cnd_at rfl (by first | exact hg | exact hg.1 | exact hg.1.1 | exact hg.1.1.1), trivial⟩) (fun hg => Valid.lss rfl rfl rfl) (by rfl) rfl ?_
  refine Runs_p rfl (Valid.pickand rfl rfl rfl (fun h => by first | exact h | exact ⟨hg, h⟩) rfl) rfl rfl ?_ -- law.go:22 pick
  refine Runs_nil ?_
  refine thenQ_n ?_
  refine W_cond _ rfl (fun hb1 => ?_) (fun hb1 => ?_)
  · try simp only [decide_eq_true_eq, Bool.and_eq_true] at hb1
    all_goals (
      refine W_skip ?_
      refine thenQ_n ?_
      refine W_seq ?_
      refine W_block ?_
      refine W_regionE (c := 14) (c' := 28) (by kernel_rfl) rfl ?_
      refine Runs_p rfl (Valid.movek (A := Own 32 1 _ _) rfl rfl) rfl rfl ?_ -- law.go:23 move
      refine Runs_p rfl (Valid.movek (A := Sl 1 _ _) rfl rfl) rfl rfl ?_ -- law.go:23 move
      refine Runs_p rfl (Valid.movek (A := Is _) rfl rfl) rfl rfl ?_ -- law.go:23 move
      refine Runs_p rfl (Valid.eltaddr1 0 rfl Try.underlying22 sz3 (Reads.sl rfl) rfl (by first | omega | (simp only [Int.toNat_natCast, toNat_add, toNat_add1, List.length_append, List.length_cons, List.length_nil, List.length_replicate]; omega)) (by first | rfl | simp)) rfl rfl ?_ -- law.go:23 indexAddr
      refine Runs_p rfl (Valid.loadelt rfl ag3 rfl) rfl rfl ?_ -- law.go:23 load
      refine Runs_p rfl (Valid.movek (A := Is _) rfl rfl) rfl rfl ?_ -- law.go:23 move
      refine Runs_p rfl (Valid.mul rfl rfl rfl (room64 (by have := pickV_range (raw.getD (k : Int).toNat 0) (2 * below) (by omega); omega) (by have := pickV_range (raw.getD (k : Int).toNat 0) (2 * below) (by omega); omega))) rfl rfl ?_ -- law.go:23 binOp
      refine Runs_p rfl (Valid.call rfl (pick_s _ _ (hr.at_ _).1 (hr.at_ _).2 (by omega) (by omega)) ⟨argle rfl, argle rfl, trivial⟩) rfl rfl ?_ -- law.go:23 call
      refine Runs_p rfl (Valid.movek (A := Is _) rfl rfl) rfl rfl ?_ -- law.go:23 move
      refine Runs_p rfl (Valid.sub rfl rfl rfl (room64 (by have := pickV_range (raw.getD (k : Int).toNat 0) (2 * below) (by omega); omega) (by have := pickV_range (raw.getD (k : Int).toNat 0) (2 * below) (by omega); omega))) rfl rfl ?_ -- law.go:23 binOp
      refine Runs_p rfl (Valid.max rfl rfl rfl) rfl rfl ?_ -- law.go:23 call
      refine Runs_p rfl (Valid.lit (el := 3) [_] rfl rfl (fun _ => by kernel_rfl) rfl (by decide)) rfl rfl ?_ -- law.go:23 buildSlice
      refine Runs_w rfl (Valid.app rfl Try.underlying22 ti3 (by decide) rfl rfl (Reads.sl rfl) (by first | exact one_map (fun _ => rfl) | exact one_cons rfl one_nil | exact one_app (one_map (fun _ => rfl)) (one_cons rfl one_nil) | exact one_app (one_map (fun _ => rfl)) (one_map (fun _ => rfl)) | exact one_rep rfl | exact one_app (one_rep rfl) (one_map (fun _ => rfl)) | (intro u hu; simp at hu; rcases hu with rfl | hu <;> first | rfl | (subst hu; rfl))) (by first | (simp only [maxLen]; omega) | (simp only [maxLen, Int.toNat_natCast, toNat_add, toNat_add1, List.length_append, List.length_cons, List.length_nil, List.length_replicate]; omega)) (by first | omega | (simp only [Int.toNat_natCast, toNat_add, toNat_add1, List.length_append, List.length_cons, List.length_nil, List.length_replicate]; omega))) rfl rfl ?_ -- law.go:23 call
      refine Runs_p rfl (Valid.assignk (A := Own 208 1 _ _) rfl rfl) rfl rfl ?_ -- law.go:23 assign
      refine Runs_nil ?_
      refine blockQ_n ?_
      refine thenQ_n ?_
      refine W_regionE (c := 28) (c' := 31) (by kernel_rfl) rfl ?_
      refine Runs_p rfl (Valid.movek (A := Is _) rfl rfl) rfl rfl ?_ -- law.go:22 move
      refine Runs_p rfl (Valid.add rfl rfl rfl (room64 (by first | omega | (simp only [Int.toNat_natCast, toNat_add, toNat_add1, List.length_append, List.length_cons, List.length_nil, List.length_replicate]; omega)) (by first | omega | (simp only [Int.toNat_natCast, toNat_add, toNat_add1, List.length_append, List.length_cons, List.length_nil, List.length_replicate]; omega)))) rfl rfl ?_ -- law.go:22 binOp
      refine Runs_p rfl (Valid.assignk (A := Is _) rfl rfl) rfl rfl ?_ -- law.go:22 assign
      refine Runs_nil ?_
      refine LoopQ.next (k + 1) [(32, 208)] (⟨by omega, by omega⟩) (by first | omega | (dsimp only; omega)) ⟨⟨(leq_own rfl rfl rfl (by first | rfl | exact few_snoc _ _ _ (by omega)) (by first | rfl | exact few_snoc _ _ _ (by omega))), (leq_is rfl rfl (by first | rfl | exact few_snoc _ _ _ (by omega))), trivial⟩, ⟨(leq_sl (Reads.sl rfl) rfl rfl rfl), (leq_is rfl rfl rfl), (leq_is rfl rfl rfl), trivial⟩, ⟨hp_row rfl (by first | rfl | exact few_snoc _ _ _ (by omega)) (by first | rfl | exact few_snoc _ _ _ (by omega)), trivial⟩, trivial, rfl, ⟨supg rfl, supg rfl, trivial⟩, ⟨supg rfl, supg rfl, supg rfl, trivial⟩, ⟨suph rfl rfl, trivial⟩, trivial, rfl, rfl⟩
      done)
  · try simp only [decide_eq_false_iff_not, Bool.and_eq_false_iff] at hb1
    all_goals (
      refine W_exit ?_
      refine thenQ_e ?_
      refine loopQ_e ?_
      refine blockQ_x ?_
      refine thenQ_n ?_
      refine W_seq ?_
      refine W_regionE (c := 14) (c' := 16) (by kernel_rfl) rfl ?_
      refine Runs_p rfl (Valid.movek (A := Own 32 1 _ _) rfl rfl) rfl rfl ?_ -- law.go:25 move
      refine Runs_p rfl (Valid.assignk (A := Own 32 1 _ _) rfl rfl) rfl rfl ?_ -- law.go:25 assign
      refine Runs_nil ?_
      refine thenQ_n ?_
      refine W_ret ?_
      refine finMQ_r ?_
      exact FinM.leq [(8, 32)] (ResOk.one rfl (RVal.tmp (fun _ _ _ h => h))) (leq_own rfl rfl rfl (by first | rfl | (rw [← few_end raw k most below hk1 hk2 (by omega)]; simp only [List.length_map, List.length_take]; omega) | rw [← few_end raw k most below hk1 hk2 (by omega)]) (by first | rfl | (rw [← few_end raw k most below hk1 hk2 (by omega)]; simp only [List.length_map, List.length_take]; omega) | rw [← few_end raw k most below hk1 hk2 (by omega)])) ⟨hp_row rfl (by first | rfl | (rw [← few_end raw k most below hk1 hk2 (by omega)]; simp only [List.length_map, List.length_take]; omega) | rw [← few_end raw k most below hk1 hk2 (by omega)]) (by first | rfl | (rw [← few_end raw k most below hk1 hk2 (by omega)]; simp only [List.length_map, List.length_take]; omega) | rw [← few_end raw k most below hk1 hk2 (by omega)]), trivial⟩ rfl rfl
      done)

theorem out7 {ra : List Int} : outV (fewL ra 100 4 ++ [7]) 1099511627776 = false := out_app (few_out (by decide) (by decide)) (by decide)
theorem out4 {rb : List Int} : outV (fewL rb 100 4) 1099511627776 = false := few_out (by decide) (by decide)
theorem lenA {ra : List Int} : (fewL ra 100 4 ++ [7]).length ≤ 101 := by have := few_len ra 100 4; simp; omega
theorem lenB {rb : List Int} : (fewL rb 100 4).length ≤ 100 := by have := few_len rb 100 4; omega
theorem parts_ok (a b : List Int) {n k : Nat} (hn : n = a.length) (hk : k = b.length) : ((true && decide (((enc 0 a).length : Int) ≤ (n : Int))) && decide (((enc 0 b).length : Int) ≤ (k : Int))) = true := by
  subst hn hk
  have h1 := enc_0_len a; have h2 := enc_0_len b
  rw [decide_eq_true (by omega), decide_eq_true (by omega)]; rfl

set_option maxRecDepth 100000 in
set_option maxHeartbeats 1000000 in
theorem parts_law (ra : List Int) (ha : In64 ra) (lra : ra.length ≤ 9223372036854775807) (rb : List Int) (hb : In64 rb) (lrb : rb.length ≤ 9223372036854775807) :
    FPure Try.prog 6 [Sl 1 ra.length (ra.map (Value.int .i64)), Sl 1 rb.length (rb.map (Value.int .i64))] (Is (.bool true)) := by
  refine FPure.of Try.func6 Try.ntmps6 rfl (by kernel_rfl) rfl rfl rfl ?_
  refine W_seq ?_
  refine W_regionE (c := 1) (c' := 2) (by kernel_rfl) rfl ?_
  refine Runs_p rfl (Valid.assignk (A := Is _) rfl rfl) rfl rfl ?_ -- law.go:103 assign
  refine Runs_nil ?_
  refine thenQ_n ?_
  refine W_seq ?_
  refine W_regionE (c := 2) (c' := 4) (by kernel_rfl) rfl ?_
  refine Runs_p rfl (Valid.call rfl (awake_s) trivial) rfl rfl ?_ -- law.go:104 call
  refine Runs_p rfl (Valid.assignk (A := Is _) rfl rfl) rfl rfl ?_ -- law.go:104 assign
  refine Runs_nil ?_
  refine thenQ_n ?_
  refine W_seq ?_
  refine W_regionE (c := 4) (c' := 9) (by kernel_rfl) rfl ?_
  refine Runs_p rfl (Valid.movek (A := Sl 1 _ _) rfl rfl) rfl rfl ?_ -- law.go:105 move
  refine Runs_w rfl (Valid.callm [] rfl (.inl ⟨rfl, rfl⟩) (few_m ra 100 4 ha (by omega) (by decide) (by decide) (by decide)) ⟨(leq_sl (Reads.sl rfl) rfl rfl rfl), (leq_is rfl rfl rfl), (leq_is rfl rfl rfl), trivial⟩ trivial (up_own' (id' := 40) rfl) (hpup_cons (j := 40) rfl cup_row hpup_nil) (by kernel_rfl) (by kernel_rfl) (by kernel_rfl) (by kernel_rfl) (by kernel_rfl) (by kernel_rfl) (by kernel_rfl) (by kernel_rfl) (by kernel_rfl)) rfl rfl ?_ -- law.go:105 call
  refine Runs_p rfl (Valid.lit (el := 3) [_] rfl rfl (fun _ => by kernel_rfl) rfl (by decide)) rfl rfl ?_ -- law.go:105 buildSlice
  refine Runs_w rfl (Valid.app rfl Try.underlying22 ti3 (by decide) rfl rfl (Reads.sl rfl) (by first | exact one_map (fun _ => rfl) | exact one_cons rfl one_nil | exact one_app (one_map (fun _ => rfl)) (one_cons rfl one_nil) | exact one_app (one_map (fun _ => rfl)) (one_map (fun _ => rfl)) | exact one_rep rfl | exact one_app (one_rep rfl) (one_map (fun _ => rfl)) | (intro u hu; simp at hu; rcases hu with rfl | hu <;> first | rfl | (subst hu; rfl))) (by have := lenA (ra := ra); have := lenB (rb := rb); have := enc_0_len (fewL ra 100 4 ++ [7]); have := enc_0_len (fewL rb 100 4); simp only [maxLen, List.length_append, List.length_cons, List.length_nil] at *; omega) (by have := lenA (ra := ra); have := lenB (rb := rb); have := enc_0_len (fewL ra 100 4 ++ [7]); have := enc_0_len (fewL rb 100 4); simp only [List.length_append, List.length_cons, List.length_nil] at *; omega)) rfl rfl ?_ -- law.go:105 call
  refine Runs_p rfl (Valid.assignk (A := Own 56 1 _ _) rfl rfl) rfl rfl ?_ -- law.go:105 assign
  refine Runs_nil ?_
  refine thenQ_n ?_
  refine W_seq ?_
  refine W_regionE (c := 9) (c' := 12) (by kernel_rfl) rfl ?_
  refine Runs_p rfl (Valid.movek (A := Sl 1 _ _) rfl rfl) rfl rfl ?_ -- law.go:106 move
  refine Runs_p rfl (Valid.call rfl (few_s rb 100 4 hb (by omega) (by decide) (by decide) (by decide)) ⟨argle_sl (Reads.sl rfl), argle rfl, argle rfl, trivial⟩) rfl rfl ?_ -- law.go:106 call
  refine Runs_p rfl (Valid.assignk (A := Sl 1 _ _) rfl rfl) rfl rfl ?_ -- law.go:106 assign
  refine Runs_nil ?_
  refine thenQ_n ?_
  refine W_seq ?_
  refine W_regionE (c := 12) (c' := 19) (by kernel_rfl) rfl ?_
  refine Runs_p rfl (Valid.movek (A := Own 56 1 _ _) rfl rfl) rfl rfl ?_ -- law.go:107 move
  refine Runs_p rfl (Valid.call rfl (enc_n (l := (fewL ra 100 4 ++ [7])) (by simp) (by simp) (by have := lenA (ra := ra); omega) out7) ⟨argle_sl (Reads.own rfl), trivial⟩) rfl rfl ?_ -- law.go:107 call
  refine Runs_p rfl (Valid.movek (A := Tup [Sl 1 _ _, Is _]) rfl rfl) rfl rfl ?_ -- law.go:107 move
  refine Runs_p rfl (Valid.extract _ rfl rfl rfl) rfl rfl ?_ -- law.go:107 extract
  refine Runs_p rfl (Valid.extract _ rfl rfl rfl) rfl rfl ?_ -- law.go:107 extract
  refine Runs_p rfl (Valid.assignk (A := Sl 1 _ _) rfl rfl) rfl rfl ?_ -- law.go:107 assign
  refine Runs_p rfl (Valid.assignk (A := Is _) rfl rfl) rfl rfl ?_ -- law.go:107 assign
  refine Runs_nil ?_
  refine thenQ_n ?_
  refine W_seq ?_
  refine W_regionE (c := 19) (c' := 26) (by kernel_rfl) rfl ?_
  refine Runs_p rfl (Valid.movek (A := Sl 1 _ _) rfl rfl) rfl rfl ?_ -- law.go:108 move
  refine Runs_p rfl (Valid.call rfl (enc_n (l := (fewL rb 100 4)) rfl rfl (by have := lenB (rb := rb); omega) out4) ⟨argle_sl (Reads.sl rfl), trivial⟩) rfl rfl ?_ -- law.go:108 call
  refine Runs_p rfl (Valid.movek (A := Tup [Sl 1 _ _, Is _]) rfl rfl) rfl rfl ?_ -- law.go:108 move
  refine Runs_p rfl (Valid.extract _ rfl rfl rfl) rfl rfl ?_ -- law.go:108 extract
  refine Runs_p rfl (Valid.extract _ rfl rfl rfl) rfl rfl ?_ -- law.go:108 extract
  refine Runs_p rfl (Valid.assignk (A := Sl 1 _ _) rfl rfl) rfl rfl ?_ -- law.go:108 assign
  refine Runs_p rfl (Valid.assignk (A := Is _) rfl rfl) rfl rfl ?_ -- law.go:108 assign
  refine Runs_nil ?_
  refine thenQ_n ?_
  refine W_seq ?_
  refine W_regionE (c := 26) (c' := 36) (by kernel_rfl) rfl ?_
  refine Runs_p rfl (Valid.movek (A := Own 56 1 _ _) rfl rfl) rfl rfl ?_ -- law.go:109 move
  refine Runs_w rfl (Valid.appnil rfl Try.underlying22 ti3 (by decide) rfl (Reads.own rfl) (by first | exact one_map (fun _ => rfl) | exact one_cons rfl one_nil | exact one_app (one_map (fun _ => rfl)) (one_cons rfl one_nil) | exact one_app (one_map (fun _ => rfl)) (one_map (fun _ => rfl)) | exact one_rep rfl | exact one_app (one_rep rfl) (one_map (fun _ => rfl)) | (intro u hu; simp at hu; rcases hu with rfl | hu <;> first | rfl | (subst hu; rfl))) (by have := lenA (ra := ra); have := lenB (rb := rb); have := enc_0_len (fewL ra 100 4 ++ [7]); have := enc_0_len (fewL rb 100 4); simp only [maxLen, List.length_append, List.length_cons, List.length_nil] at *; omega) (by have := lenA (ra := ra); have := lenB (rb := rb); have := enc_0_len (fewL ra 100 4 ++ [7]); have := enc_0_len (fewL rb 100 4); simp only [List.length_append, List.length_cons, List.length_nil] at *; omega)) rfl rfl ?_ -- law.go:109 call
  refine Runs_p rfl (Valid.movek (A := Sl 1 _ _) rfl rfl) rfl rfl ?_ -- law.go:109 move
  refine Runs_w rfl (Valid.app rfl Try.underlying22 ti3 (by decide) rfl rfl (Reads.sl rfl) (by first | exact one_map (fun _ => rfl) | exact one_cons rfl one_nil | exact one_app (one_map (fun _ => rfl)) (one_cons rfl one_nil) | exact one_app (one_map (fun _ => rfl)) (one_map (fun _ => rfl)) | exact one_rep rfl | exact one_app (one_rep rfl) (one_map (fun _ => rfl)) | (intro u hu; simp at hu; rcases hu with rfl | hu <;> first | rfl | (subst hu; rfl))) (by have := lenA (ra := ra); have := lenB (rb := rb); have := enc_0_len (fewL ra 100 4 ++ [7]); have := enc_0_len (fewL rb 100 4); simp only [maxLen, List.length_append, List.length_cons, List.length_nil] at *; omega) (by have := lenA (ra := ra); have := lenB (rb := rb); have := enc_0_len (fewL ra 100 4 ++ [7]); have := enc_0_len (fewL rb 100 4); simp only [List.length_append, List.length_cons, List.length_nil] at *; omega)) rfl rfl ?_ -- law.go:109 call
  refine Runs_p rfl (Valid.call rfl (enc_n (l := (fewL ra 100 4 ++ [7]) ++ (fewL rb 100 4)) (by simp; omega) (by simp) (by have := lenA (ra := ra); have := lenB (rb := rb); rw [List.length_append]; omega) (out_app out7 out4)) ⟨argle_sl (Reads.own rfl), trivial⟩) rfl rfl ?_ -- law.go:109 call
  refine Runs_p rfl (Valid.movek (A := Tup [Sl 1 _ _, Is _]) rfl rfl) rfl rfl ?_ -- law.go:109 move
  refine Runs_p rfl (Valid.extract _ rfl rfl rfl) rfl rfl ?_ -- law.go:109 extract
  refine Runs_p rfl (Valid.extract _ rfl rfl rfl) rfl rfl ?_ -- law.go:109 extract
  refine Runs_p rfl (Valid.assignk (A := Sl 1 _ _) rfl rfl) rfl rfl ?_ -- law.go:109 assign
  refine Runs_p rfl (Valid.assignk (A := Is _) rfl rfl) rfl rfl ?_ -- law.go:109 assign
  refine Runs_nil ?_
  refine thenQ_n ?_
  refine W_seq ?_
  refine W_regionE (c := 36) (c' := 72) (by kernel_rfl) rfl ?_
  refine Runs_p rfl (Valid.movek (A := Is _) rfl rfl) rfl rfl ?_ -- law.go:110 move
  refine Runs_p rfl (Valid.movek (A := Is _) rfl rfl) rfl rfl ?_ -- law.go:110 move
  refine Runs_yesp rfl rfl (Grd.is rfl) (by decide) (Valid.movek (A := Is _) rfl rfl) rfl rfl ?_ -- law.go:110 move
  refine Runs_yesp rfl rfl (Grd.is rfl) (by decide) (Valid.eql rfl rfl rfl) rfl rfl ?_ -- law.go:110 binOp
  refine Runs_p rfl (Valid.pickt (A := Is _) rfl rfl rfl) rfl rfl ?_ -- law.go:110 pick
  refine Runs_p rfl (Valid.movek (A := Is _) rfl rfl) rfl rfl ?_ -- law.go:110 move
  refine Runs_yesp rfl rfl (Grd.is rfl) (by decide) (Valid.movek (A := Is _) rfl rfl) rfl rfl ?_ -- law.go:110 move
  refine Runs_yesp rfl rfl (Grd.is rfl) (by decide) (Valid.eql rfl rfl rfl) rfl rfl ?_ -- law.go:110 binOp
  refine Runs_p rfl (Valid.pickt (A := Is _) rfl rfl rfl) rfl rfl ?_ -- law.go:110 pick
  refine Runs_p rfl (Valid.movek (A := Is _) rfl rfl) rfl rfl ?_ -- law.go:110 move
  refine Runs_yesp rfl rfl (Grd.is rfl) (by decide) (Valid.movek (A := Is _) rfl rfl) rfl rfl ?_ -- law.go:110 move
  refine Runs_yesp rfl rfl (Grd.is rfl) (by decide) (Valid.eql rfl rfl rfl) rfl rfl ?_ -- law.go:110 binOp
  refine Runs_p rfl (Valid.pickt (A := Is _) rfl rfl rfl) rfl rfl ?_ -- law.go:110 pick
  refine Runs_p rfl (Valid.movek (A := Is _) rfl rfl) rfl rfl ?_ -- law.go:110 move
  refine Runs_yesp rfl rfl (Grd.is rfl) (by decide) (Valid.movek (A := Sl 1 _ _) rfl rfl) rfl rfl ?_ -- law.go:110 move
  refine Runs_yesp rfl rfl (Grd.is rfl) (by decide) (Valid.movek (A := Sl 1 _ _) rfl rfl) rfl rfl ?_ -- law.go:110 move
  refine Runs_yesw rfl rfl (Grd.is rfl) (by decide) (Valid.appnil rfl Try.underlying22 ti3 (by decide) rfl (Reads.sl rfl) (by first | exact one_map (fun _ => rfl) | exact one_cons rfl one_nil | exact one_app (one_map (fun _ => rfl)) (one_cons rfl one_nil) | exact one_app (one_map (fun _ => rfl)) (one_map (fun _ => rfl)) | exact one_rep rfl | exact one_app (one_rep rfl) (one_map (fun _ => rfl)) | (intro u hu; simp at hu; rcases hu with rfl | hu <;> first | rfl | (subst hu; rfl))) (by have := lenA (ra := ra); have := lenB (rb := rb); have := enc_0_len (fewL ra 100 4 ++ [7]); have := enc_0_len (fewL rb 100 4); simp only [maxLen, List.length_append, List.length_cons, List.length_nil] at *; omega) (by have := lenA (ra := ra); have := lenB (rb := rb); have := enc_0_len (fewL ra 100 4 ++ [7]); have := enc_0_len (fewL rb 100 4); simp only [List.length_append, List.length_cons, List.length_nil] at *; omega)) rfl rfl ?_ -- law.go:110 call
  refine Runs_yesp rfl rfl (Grd.is rfl) (by decide) (Valid.movek (A := Sl 1 _ _) rfl rfl) rfl rfl ?_ -- law.go:110 move
  refine Runs_yesw rfl rfl (Grd.is rfl) (by decide) (Valid.app rfl Try.underlying22 ti3 (by decide) rfl rfl (Reads.sl rfl) (by first | exact one_map (fun _ => rfl) | exact one_cons rfl one_nil | exact one_app (one_map (fun _ => rfl)) (one_cons rfl one_nil) | exact one_app (one_map (fun _ => rfl)) (one_map (fun _ => rfl)) | exact one_rep rfl | exact one_app (one_rep rfl) (one_map (fun _ => rfl)) | (intro u hu; simp at hu; rcases hu with rfl | hu <;> first | rfl | (subst hu; rfl))) (by have := lenA (ra := ra); have := lenB (rb := rb); have := enc_0_len (fewL ra 100 4 ++ [7]); have := enc_0_len (fewL rb 100 4); simp only [maxLen, List.length_append, List.length_cons, List.length_nil] at *; omega) (by have := lenA (ra := ra); have := lenB (rb := rb); have := enc_0_len (fewL ra 100 4 ++ [7]); have := enc_0_len (fewL rb 100 4); simp only [List.length_append, List.length_cons, List.length_nil] at *; omega)) rfl rfl ?_ -- law.go:110 call
  refine Runs_yesp rfl rfl (Grd.is rfl) (by decide) (Valid.call rfl (ints_t (l := enc 0 ((fewL ra 100 4 ++ [7]) ++ (fewL rb 100 4))) (m := enc 0 (fewL ra 100 4 ++ [7]) ++ enc 0 (fewL rb 100 4)) rfl rfl (by simp) (by simp) (by rw [parts_eq, List.length_append]; have := lenA (ra := ra); have := lenB (rb := rb); have := enc_0_len (fewL ra 100 4 ++ [7]); have := enc_0_len (fewL rb 100 4); omega) (parts_eq _ _)) ⟨argle_sl (Reads.sl rfl), argle_sl (Reads.own rfl), trivial⟩) rfl rfl ?_ -- law.go:110 call
  refine Runs_p rfl (Valid.pickt (A := Is _) rfl rfl rfl) rfl rfl ?_ -- law.go:110 pick
  refine Runs_p rfl (Valid.movek (A := Is _) rfl rfl) rfl rfl ?_ -- law.go:110 move
  refine Runs_cnd rfl rfl (Grd.is rfl) [] (fun hg => trivial) (fun hg => Valid.movek (A := Sl 1 _ _) rfl rfl) (by rfl) rfl ?_
  refine Runs_cnd rfl rfl (Grd.is rfl) [(61, _)] (fun hg => ⟨cnd_at rfl (by first | exact hg | exact hg.1 | exact hg.1.1 | exact hg.1.1.1), trivial⟩) (fun hg => Valid.len rfl Try.underlying22 (Reads.sl rfl)) (by rfl) rfl ?_
  refine Runs_cnd rfl rfl (Grd.is rfl) [] (fun hg => trivial) (fun hg => Valid.moveS rfl (Reads.own rfl)) (by rfl) rfl ?_
  refine Runs_cnd rfl rfl (Grd.is rfl) [(63, _)] (fun hg => ⟨cnd_at rfl (by first | exact hg | exact hg.1 | exact hg.1.1 | exact hg.1.1.1), trivial⟩) (fun hg => Valid.len rfl Try.underlying22 (Reads.sl rfl)) (by rfl) rfl ?_
  refine Runs_cnd rfl rfl (Grd.is rfl) [(62, _), (64, _)] (fun hg => ⟨cnd_at rfl (by first | exact hg | exact hg.1 | exact hg.1.1 | exact hg.1.1.1), cnd_at rfl (by first | exact hg | exact hg.1 | exact hg.1.1 | exact hg.1.1.1), trivial⟩) (fun hg => Valid.leq rfl rfl rfl) (by rfl) rfl ?_
  refine Runs_p rfl (Valid.pickand rfl rfl rfl (fun h => by first | exact h | exact ⟨hg, h⟩) rfl) rfl rfl ?_ -- law.go:110 pick
  refine Runs_p rfl (Valid.movek (A := Is _) rfl rfl) rfl rfl ?_ -- law.go:110 move
  refine Runs_cnd rfl rfl (Grd.is rfl) [] (fun hg => trivial) (fun hg => Valid.movek (A := Sl 1 _ _) rfl rfl) (by rfl) rfl ?_
  refine Runs_cnd rfl rfl (Grd.is rfl) [(68, _)] (fun hg => ⟨cnd_at rfl (by first | exact hg | exact hg.1 | exact hg.1.1 | exact hg.1.1.1), trivial⟩) (fun hg => Valid.len rfl Try.underlying22 (Reads.sl rfl)) (by rfl) rfl ?_
  refine Runs_cnd rfl rfl (Grd.is rfl) [] (fun hg => trivial) (fun hg => Valid.movek (A := Sl 1 _ _) rfl rfl) (by rfl) rfl ?_
  refine Runs_cnd rfl rfl (Grd.is rfl) [(70, _)] (fun hg => ⟨cnd_at rfl (by first | exact hg | exact hg.1 | exact hg.1.1 | exact hg.1.1.1), trivial⟩) (fun hg => Valid.len rfl Try.underlying22 (Reads.sl rfl)) (by rfl) rfl ?_
  refine Runs_cnd rfl rfl (Grd.is rfl) [(69, _), (71, _)] (fun hg => ⟨cnd_at rfl (by first | exact hg | exact hg.1 | exact hg.1.1 | exact hg.1.1.1), cnd_at rfl (by first | exact hg | exact hg.1 | exact hg.1.1 | exact hg.1.1.1), trivial⟩) (fun hg => Valid.leq rfl rfl rfl) (by rfl) rfl ?_
  refine Runs_p rfl (Valid.pickand rfl rfl rfl (fun h => by first | exact h | exact ⟨hg, h⟩) rfl) rfl rfl ?_ -- law.go:110 pick
  refine Runs_p rfl (Valid.assignk (A := Is _) rfl rfl) rfl rfl ?_ -- law.go:110 assign
  refine Runs_nil ?_
  refine thenQ_n ?_
  refine W_ret ?_
  refine finQ_r ?_
  refine ResOk.one rfl (RVal.is rfl rfl (congrArg Value.bool (parts_ok (fewL ra 100 4 ++ [7]) (fewL rb 100 4) (by simp) rfl)))

theorem enc_mem {l : List Int} (h : ∀ x ∈ l, 0 ≤ x ∧ x ≤ 1000) : ∀ z, ∀ x ∈ enc z l, 0 ≤ x ∧ x ≤ 1001 := by
  have hd : ∀ n, ∀ x ∈ digs n, 0 ≤ x ∧ x ≤ 1001 := fun n x hx => by
    obtain ⟨k, hk, e⟩ := List.mem_iff_getElem.1 hx
    have := bad_at (digs_bad n) hk
    rw [List.getD_eq_getElem?_getD, List.getElem?_eq_getElem hk] at this
    simp only [Option.getD_some, e] at this; omega
  induction l with
  | nil => intro z x hx; exact hd z x hx
  | cons y l ih =>
    intro z x hx
    have h1 := ih (fun u hu => h u (by simp [hu]))
    have hy := h y (by simp)
    rw [enc] at hx
    split at hx
    · exact h1 _ x hx
    · rcases List.mem_append.1 hx with hx | hx
      · exact hd z x hx
      · rcases List.mem_cons.1 hx with rfl | hx
        · omega
        · exact h1 _ x hx
def backL (p : Int) (ra : List Int) : List Int := List.replicate p.toNat 0 ++ fewL ra 200 4
theorem back_mem {p : Int} {ra : List Int} : ∀ x ∈ backL p ra, 0 ≤ x ∧ x ≤ 1000 := fun x hx => by
  rcases List.mem_append.1 hx with h | h
  · have := List.eq_of_mem_replicate h; omega
  · have := few_mem (below := 4) (by decide) x h; omega
theorem back_out {p : Int} {ra : List Int} : outV (backL p ra) 1099511627776 = false := by
  cases hb : outV (backL p ra) 1099511627776 with
  | false => rfl
  | true =>
    obtain ⟨x, hx, hp⟩ := List.any_eq_true.1 hb
    have := back_mem x hx
    simp only [outP, Bool.or_eq_true, decide_eq_true_eq] at hp; omega
theorem back_len {c : Int} {ra : List Int} : (backL (pickV c 300) ra).length ≤ 500 := by
  have := few_len ra 200 4; have := pickV_range c 300 (by decide)
  simp [backL]; omega
theorem back_in {p : Int} {ra : List Int} : In64 (enc 0 (backL p ra)) := fun x hx => by
  have := enc_mem back_mem 0 x hx; omega
theorem back_neg {p : Int} {ra : List Int} : (enc 0 (backL p ra)).any (fun x => decide (x < 0)) = false := by
  cases hb : (enc 0 (backL p ra)).any (fun x => decide (x < 0)) with
  | false => rfl
  | true =>
    obtain ⟨x, hx, hp⟩ := List.any_eq_true.1 hb
    have := enc_mem back_mem 0 x hx
    simp at hp; omega
theorem back_dec {c : Int} {ra : List Int} : decR (enc 0 (backL (pickV c 300) ra)) = some (backL (pickV c 300) ra) := by
  have := dec_enc (backL (pickV c 300) ra) 0 (fun x hx => (back_mem x hx).1) (by have := back_len (c := c) (ra := ra); omega)
  simpa using this
theorem dec_all {c : Int} {ra : List Int} {n : Int} (hn : n = (backL (pickV c 300) ra).length) : FPure Try.prog 19 [Sl 1 (enc 0 (backL (pickV c 300) ra)).length ((enc 0 (backL (pickV c 300) ra)).map (Value.int .i64)), Is (.int .i64 n)] (Tup [Sl 1 (backL (pickV c 300) ra).length ((backL (pickV c 300) ra).map (Value.int .i64)), Is (.int .i64 0)]) := by
  have hl := back_len (c := c) (ra := ra); have h1 := enc_0_len (backL (pickV c 300) ra)
  have h := dec_s (enc 0 (backL (pickV c 300) ra)) n (by omega) back_in (by omega) (by omega)
  rw [decV_ok back_neg back_dec (by omega)] at h
  exact h
theorem dec_one_less {c : Int} {ra : List Int} {n : Int} (hn : n = (backL (pickV c 300) ra).length - 1) : FPure Try.prog 19 [Sl 1 (enc 0 (backL (pickV c 300) ra)).length ((enc 0 (backL (pickV c 300) ra)).map (Value.int .i64)), Is (.int .i64 n)] (Tup [Sl 1 0 [], Is (.int .i64 4)]) := by
  have hl := back_len (c := c) (ra := ra); have h1 := enc_0_len (backL (pickV c 300) ra)
  have h := dec_s (enc 0 (backL (pickV c 300) ra)) n (by omega) back_in (by omega) (by omega)
  rw [decV_no back_neg (by rw [back_dec]; simp [fitsO]; omega)] at h
  exact h
theorem back_last {d : List Int} (hn : d.any (fun x => decide (x < 0)) = false) (hd : ∀ x ∈ d, x ≤ 1000) (h : ¬ (decV d 5000).2 = 4) : encV (decV d 5000).1 = (d, 0) := by
  rcases most_ok d 5000 hn with ⟨_, o, h1, _, h3⟩ | ⟨h1, _⟩
  · rw [h3]
    obtain ⟨h4, h5⟩ := enc_dec d.length d o (Nat.le_refl _) h1
    have ho : outV o 1099511627776 = false := by
      cases hb : outV o 1099511627776 with
      | false => rfl
      | true =>
        obtain ⟨x, hx, hp⟩ := List.any_eq_true.1 hb
        have h6 := h5 x hx
        simp only [outP, Bool.or_eq_true, decide_eq_true_eq] at hp
        rcases h6.2 with h7 | h7
        · omega
        · have := hd _ h7; omega
    rw [encV, ho, h4]; rfl
  · exact absurd h1 h
theorem back_len2 {ra : List Int} (h : ¬ (decV (fewL ra 200 4) 5000).2 = 4) : (encV (decV (fewL ra 200 4) 5000).1).1.length ≤ 1000000000000 := by
  rw [back_last (few_neg (by decide)) (fun x hx => by have := few_mem (below := 4) (by decide) x hx; omega) h]
  have := few_len ra 200 4
  dsimp only; omega
theorem back_fin {d : List Int} (hn : d.any (fun x => decide (x < 0)) = false) (hd : ∀ x ∈ d, x ≤ 1000) (h : ¬ (decV d 5000).2 = 4) : (((true && decide ((decV d 5000).2 = 0)) && decide ((encV (decV d 5000).1).2 = 0)) && decide ((encV (decV d 5000).1).1 = d)) = true := by
  have h0 : (decV d 5000).2 = 0 := by
    rcases most_ok d 5000 hn with h1 | h1
    · exact h1.1
    · exact absurd h1.1 h
  rw [back_last hn hd h, decide_eq_true h0]; simp

set_option maxRecDepth 100000 in
set_option maxHeartbeats 1000000 in
theorem back_law (ra : List Int) (ha : In64 ra) (lra : ra.length ≤ 9223372036854775807) (c0 : Int) (wc0 : -9223372036854775808 ≤ c0 ∧ c0 ≤ 9223372036854775807) :
    FPure Try.prog 4 [Sl 1 ra.length (ra.map (Value.int .i64)), Is (.int .i64 c0)] (Is (.bool true)) := by
  refine FPure.of Try.func4 Try.ntmps4 rfl (by kernel_rfl) rfl rfl rfl ?_
  refine W_seq ?_
  refine W_regionE (c := 1) (c' := 2) (by kernel_rfl) rfl ?_
  refine Runs_p rfl (Valid.assignk (A := Is _) rfl rfl) rfl rfl ?_ -- law.go:69 assign
  refine Runs_nil ?_
  refine thenQ_n ?_
  refine W_seq ?_
  refine W_regionE (c := 2) (c' := 4) (by kernel_rfl) rfl ?_
  refine Runs_p rfl (Valid.call rfl (awake_s) trivial) rfl rfl ?_ -- law.go:70 call
  refine Runs_p rfl (Valid.assignk (A := Is _) rfl rfl) rfl rfl ?_ -- law.go:70 assign
  refine Runs_nil ?_
  refine thenQ_n ?_
  refine W_seq ?_
  refine W_drawE (c := 4) (c' := 11) (by kernel_rfl) rfl ?_
  refine Runs_p rfl (Valid.movek (A := Is _) rfl rfl) rfl rfl ?_ -- law.go:71 move
  refine Runs_p rfl (Valid.call rfl (pick_s _ _ (by omega) (by omega) (by omega) (by omega)) ⟨argle rfl, argle rfl, trivial⟩) rfl rfl ?_ -- law.go:71 call
  refine Runs_w rfl (Valid.makeown rfl Try.underlying22 tz3 rfl rfl (by have := pickV_range c0 300 (by decide); omega) (by have := pickV_range c0 300 (by decide); omega) (by have := pickV_range c0 300 (by decide); omega)) rfl rfl ?_ -- law.go:71 makeSlice
  refine Runs_p rfl (Valid.movek (A := Sl 1 _ _) rfl rfl) rfl rfl ?_ -- law.go:71 move
  refine Runs_p rfl (Valid.call rfl (few_s ra 200 4 ha (by omega) (by decide) (by decide) (by decide)) ⟨argle_sl (Reads.sl rfl), argle rfl, argle rfl, trivial⟩) rfl rfl ?_ -- law.go:71 call
  refine Runs_w rfl (Valid.app rfl Try.underlying22 ti3 (by decide) rfl rfl (Reads.sl rfl) (by first | exact one_map (fun _ => rfl) | exact one_cons rfl one_nil | exact one_app (one_map (fun _ => rfl)) (one_cons rfl one_nil) | exact one_app (one_map (fun _ => rfl)) (one_map (fun _ => rfl)) | exact one_rep rfl | exact one_app (one_rep rfl) (one_map (fun _ => rfl)) | (intro u hu; simp at hu; rcases hu with rfl | hu <;> first | rfl | (subst hu; rfl))) (by have := few_len ra 200 4; have := pickV_range c0 300 (by decide); simp only [maxLen]; omega) (by have := few_len ra 200 4; have := pickV_range c0 300 (by decide); omega)) rfl rfl ?_ -- law.go:71 call
  refine Runs_p rfl (Valid.assignk (A := Own 72 1 _ _) rfl rfl) rfl rfl ?_ -- law.go:71 assign
  refine Runs_nil ?_
  refine ⟨_, _, rfl, rfl, by kernel_rfl, ?_⟩
  refine thenQ_n ?_
  refine W_seq ?_
  refine W_regionE (c := 11) (c' := 18) (by kernel_rfl) rfl ?_
  refine Runs_p rfl (Valid.movek (A := Own 72 1 _ _) rfl rfl) rfl rfl ?_ -- law.go:72 move
  refine Runs_p rfl (Valid.call rfl (enc_n (l := (backL (pickV c0 300) ra)) (by simp [backL]) (by simp [backL]) (by have := back_len (c := c0) (ra := ra); omega) back_out) ⟨argle_sl (Reads.own rfl), trivial⟩) rfl rfl ?_ -- law.go:72 call
  refine Runs_p rfl (Valid.movek (A := Tup [Sl 1 _ _, Is _]) rfl rfl) rfl rfl ?_ -- law.go:72 move
  refine Runs_p rfl (Valid.extract _ rfl rfl rfl) rfl rfl ?_ -- law.go:72 extract
  refine Runs_p rfl (Valid.extract _ rfl rfl rfl) rfl rfl ?_ -- law.go:72 extract
  refine Runs_p rfl (Valid.assignk (A := Sl 1 _ _) rfl rfl) rfl rfl ?_ -- law.go:72 assign
  refine Runs_p rfl (Valid.assignk (A := Is _) rfl rfl) rfl rfl ?_ -- law.go:72 assign
  refine Runs_nil ?_
  refine thenQ_n ?_
  refine W_seq ?_
  refine W_regionE (c := 18) (c' := 27) (by kernel_rfl) rfl ?_
  refine Runs_p rfl (Valid.movek (A := Sl 1 _ _) rfl rfl) rfl rfl ?_ -- law.go:73 move
  refine Runs_p rfl (Valid.movek (A := Own 72 1 _ _) rfl rfl) rfl rfl ?_ -- law.go:73 move
  refine Runs_p rfl (Valid.len rfl Try.underlying22 (Reads.own rfl)) rfl rfl ?_ -- law.go:73 call
  refine Runs_p rfl (Valid.call rfl (dec_all (c := c0) (ra := ra) (by simp [backL])) ⟨argle_sl (Reads.sl rfl), argle rfl, trivial⟩) rfl rfl ?_ -- law.go:73 call
  refine Runs_p rfl (Valid.movek (A := Tup [Sl 1 _ _, Is _]) rfl rfl) rfl rfl ?_ -- law.go:73 move
  refine Runs_p rfl (Valid.extract _ rfl rfl rfl) rfl rfl ?_ -- law.go:73 extract
  refine Runs_p rfl (Valid.extract _ rfl rfl rfl) rfl rfl ?_ -- law.go:73 extract
  refine Runs_p rfl (Valid.assignk (A := Sl 1 _ _) rfl rfl) rfl rfl ?_ -- law.go:73 assign
  refine Runs_p rfl (Valid.assignk (A := Is _) rfl rfl) rfl rfl ?_ -- law.go:73 assign
  refine Runs_nil ?_
  refine thenQ_n ?_
  refine W_seq ?_
  refine W_regionE (c := 27) (c' := 37) (by kernel_rfl) rfl ?_
  refine Runs_p rfl (Valid.movek (A := Sl 1 _ _) rfl rfl) rfl rfl ?_ -- law.go:74 move
  refine Runs_p rfl (Valid.movek (A := Own 72 1 _ _) rfl rfl) rfl rfl ?_ -- law.go:74 move
  refine Runs_p rfl (Valid.len rfl Try.underlying22 (Reads.own rfl)) rfl rfl ?_ -- law.go:74 call
  refine Runs_p rfl (Valid.sub rfl rfl rfl (room64 (by have := few_len ra 200 4; have := pickV_range c0 300 (by decide); first | omega | (simp only [List.length_append, List.length_replicate]; omega)) (by have := few_len ra 200 4; have := pickV_range c0 300 (by decide); first | omega | (simp only [List.length_append, List.length_replicate]; omega)))) rfl rfl ?_ -- law.go:74 binOp
  refine Runs_p rfl (Valid.call rfl (dec_one_less (c := c0) (ra := ra) (by simp [backL])) ⟨argle_sl (Reads.sl rfl), argle rfl, trivial⟩) rfl rfl ?_ -- law.go:74 call
  refine Runs_p rfl (Valid.movek (A := Tup [Sl 1 _ _, Is _]) rfl rfl) rfl rfl ?_ -- law.go:74 move
  refine Runs_p rfl (Valid.extract _ rfl rfl rfl) rfl rfl ?_ -- law.go:74 extract
  refine Runs_p rfl (Valid.extract _ rfl rfl rfl) rfl rfl ?_ -- law.go:74 extract
  refine Runs_p rfl (Valid.assignk (A := Sl 1 _ _) rfl rfl) rfl rfl ?_ -- law.go:74 assign
  refine Runs_p rfl (Valid.assignk (A := Is _) rfl rfl) rfl rfl ?_ -- law.go:74 assign
  refine Runs_nil ?_
  refine thenQ_n ?_
  refine W_seq ?_
  refine W_seq ?_
  refine W_regionE (c := 37) (c' := 53) (by kernel_rfl) rfl ?_
  refine Runs_p rfl (Valid.movek (A := Is _) rfl rfl) rfl rfl ?_ -- law.go:75 move
  refine Runs_p rfl (Valid.neq rfl rfl rfl) rfl rfl ?_ -- law.go:75 binOp
  refine Runs_p rfl (Valid.movek (A := Is _) rfl rfl) rfl rfl ?_ -- law.go:75 move
  refine Runs_yesp rfl rfl (Grd.is rfl) (by decide) (Valid.movek (A := Is _) rfl rfl) rfl rfl ?_ -- law.go:75 move
  refine Runs_yesp rfl rfl (Grd.is rfl) (by decide) (Valid.neq rfl rfl rfl) rfl rfl ?_ -- law.go:75 binOp
  refine Runs_p rfl (Valid.pickf (A := Is _) rfl rfl rfl) rfl rfl ?_ -- law.go:75 pick
  refine Runs_p rfl (Valid.movek (A := Is _) rfl rfl) rfl rfl ?_ -- law.go:75 move
  refine Runs_yesp rfl rfl (Grd.is rfl) (by decide) (Valid.movek (A := Sl 1 _ _) rfl rfl) rfl rfl ?_ -- law.go:75 move
  refine Runs_yesp rfl rfl (Grd.is rfl) (by decide) (Valid.movek (A := Own 72 1 _ _) rfl rfl) rfl rfl ?_ -- law.go:75 move
  refine Runs_yesp rfl rfl (Grd.is rfl) (by decide) (Valid.call rfl (ints_t (l := (backL (pickV c0 300) ra)) (m := (backL (pickV c0 300) ra)) rfl rfl (by simp [backL]) (by simp [backL]) (by have := back_len (c := c0) (ra := ra); omega) rfl) ⟨argle_sl (Reads.sl rfl), argle_sl (Reads.own rfl), trivial⟩) rfl rfl ?_ -- law.go:75 call
  refine Runs_yesp rfl rfl (Grd.is rfl) (by decide) (Valid.not rfl rfl) rfl rfl ?_ -- law.go:75 unOp
  refine Runs_p rfl (Valid.pickf (A := Is _) rfl rfl rfl) rfl rfl ?_ -- law.go:75 pick
  refine Runs_p rfl (Valid.movek (A := Is _) rfl rfl) rfl rfl ?_ -- law.go:75 move
  refine Runs_yesp rfl rfl (Grd.is rfl) (by decide) (Valid.movek (A := Is _) rfl rfl) rfl rfl ?_ -- law.go:75 move
  refine Runs_yesp rfl rfl (Grd.is rfl) (by decide) (Valid.neq rfl rfl rfl) rfl rfl ?_ -- law.go:75 binOp
  refine Runs_p rfl (Valid.pickf (A := Is _) rfl rfl rfl) rfl rfl ?_ -- law.go:75 pick
  refine Runs_nil ?_
  refine thenQ_n ?_
  refine W_cond _ rfl (fun hb1 => ?_) (fun hb1 => ?_)
  · try simp only [decide_eq_true_eq, not_true_eq_false, ne_eq] at hb1
    all_goals (
      refine W_seq ?_
      refine W_regionE (c := 53) (c' := 54) (by kernel_rfl) rfl ?_
      refine Runs_p rfl (Valid.assignk (A := Is _) rfl rfl) rfl rfl ?_ -- law.go:76 assign
      refine Runs_nil ?_
      refine thenQ_n ?_
      refine W_ret ?_
      refine thenQ_r ?_
      refine finQ_r ?_
      refine ResOk.one rfl (RVal.is rfl rfl (by first | (exfalso; omega) | (exfalso; simp at *; done) | exact congrArg Value.bool (back_fin (few_neg (by decide)) (fun x hx => by have := few_mem (below := 4) (by decide) x hx; omega) (by assumption)) | (rw [(most_bad (fewL ra 200 4) 5000 (few_neg (by decide)) (by omega)).2]; rfl)))
      done)
  · try simp only [decide_eq_false_iff_not, not_true_eq_false, not_false_eq_true, ne_eq] at hb1
    all_goals (
      refine W_skip ?_
      refine thenQ_n ?_
      refine W_seq ?_
      refine W_regionE (c := 53) (c' := 56) (by kernel_rfl) rfl ?_
      refine Runs_p rfl (Valid.movek (A := Sl 1 _ _) rfl rfl) rfl rfl ?_ -- law.go:78 move
      refine Runs_p rfl (Valid.call rfl (few_s ra 200 4 ha (by omega) (by decide) (by decide) (by decide)) ⟨argle_sl (Reads.sl rfl), argle rfl, argle rfl, trivial⟩) rfl rfl ?_ -- law.go:78 call
      refine Runs_p rfl (Valid.assignk (A := Sl 1 _ _) rfl rfl) rfl rfl ?_ -- law.go:78 assign
      refine Runs_nil ?_
      refine thenQ_n ?_
      refine W_seq ?_
      refine W_regionE (c := 56) (c' := 63) (by kernel_rfl) rfl ?_
      refine Runs_p rfl (Valid.movek (A := Sl 1 _ _) rfl rfl) rfl rfl ?_ -- law.go:79 move
      refine Runs_p rfl (Valid.call rfl (dec_s (fewL ra 200 4) 5000 (by have := few_len ra 200 4; omega) (few_in (by decide) (by decide)) (by decide) (by decide)) ⟨argle_sl (Reads.sl rfl), argle rfl, trivial⟩) rfl rfl ?_ -- law.go:79 call
      refine Runs_p rfl (Valid.movek (A := Tup [Sl 1 _ _, Is _]) rfl rfl) rfl rfl ?_ -- law.go:79 move
      refine Runs_p rfl (Valid.extract _ rfl rfl rfl) rfl rfl ?_ -- law.go:79 extract
      refine Runs_p rfl (Valid.extract _ rfl rfl rfl) rfl rfl ?_ -- law.go:79 extract
      refine Runs_p rfl (Valid.assignk (A := Sl 1 _ _) rfl rfl) rfl rfl ?_ -- law.go:79 assign
      refine Runs_p rfl (Valid.assignk (A := Is _) rfl rfl) rfl rfl ?_ -- law.go:79 assign
      refine Runs_nil ?_
      refine thenQ_n ?_
      refine W_seq ?_
      refine W_seq ?_
      refine W_regionE (c := 63) (c' := 65) (by kernel_rfl) rfl ?_
      refine Runs_p rfl (Valid.movek (A := Is _) rfl rfl) rfl rfl ?_ -- law.go:80 move
      refine Runs_p rfl (Valid.eql rfl rfl rfl) rfl rfl ?_ -- law.go:80 binOp
      refine Runs_nil ?_
      refine thenQ_n ?_
      refine W_cond _ rfl (fun hb2 => ?_) (fun hb2 => ?_)
      · try simp only [decide_eq_true_eq] at hb2
        all_goals (
          refine W_seq ?_
          refine W_regionE (c := 65) (c' := 72) (by kernel_rfl) rfl ?_
          refine Runs_p rfl (Valid.movek (A := Is _) rfl rfl) rfl rfl ?_ -- law.go:81 move
          refine Runs_p rfl (Valid.movek (A := Is _) rfl rfl) rfl rfl ?_ -- law.go:81 move
          refine Runs_cnd rfl rfl (Grd.is rfl) [] (fun hg => trivial) (fun hg => Valid.movek (A := Sl 1 _ _) rfl rfl) (by rfl) rfl ?_
          refine Runs_cnd rfl rfl (Grd.is rfl) [(72, _)] (fun hg => ⟨cnd_at rfl (by first | exact hg | exact hg.1 | exact hg.1.1 | exact hg.1.1.1), trivial⟩) (fun hg => Valid.len rfl Try.underlying22 (Reads.sl rfl)) (by rfl) rfl ?_
          refine Runs_cnd rfl rfl (Grd.is rfl) [(73, _)] (fun hg => ⟨cnd_at rfl (by first | exact hg | exact hg.1 | exact hg.1.1 | exact hg.1.1.1), trivial⟩) (fun hg => Valid.eql rfl rfl rfl) (by rfl) rfl ?_
          refine Runs_p rfl (Valid.pickand rfl rfl rfl (fun h => by first | exact h | exact ⟨hg, h⟩) rfl) rfl rfl ?_ -- law.go:81 pick
          refine Runs_p rfl (Valid.assignk (A := Is _) rfl rfl) rfl rfl ?_ -- law.go:81 assign
          refine Runs_nil ?_
          refine thenQ_n ?_
          refine W_ret ?_
          refine thenQ_r ?_
          refine finQ_r ?_
          refine ResOk.one rfl (RVal.is rfl rfl (by first | (exfalso; omega) | (exfalso; simp at *; done) | exact congrArg Value.bool (back_fin (few_neg (by decide)) (fun x hx => by have := few_mem (below := 4) (by decide) x hx; omega) (by assumption)) | (rw [(most_bad (fewL ra 200 4) 5000 (few_neg (by decide)) (by omega)).2]; rfl)))
          done)
      · try simp only [decide_eq_false_iff_not] at hb2
        all_goals (
          refine W_skip ?_
          refine thenQ_n ?_
          refine W_seq ?_
          refine W_regionE (c := 65) (c' := 72) (by kernel_rfl) rfl ?_
          refine Runs_p rfl (Valid.movek (A := Sl 1 _ _) rfl rfl) rfl rfl ?_ -- law.go:83 move
          refine Runs_p rfl (Valid.call rfl (enc_s _ (by have := dec_in (m := (fewL ra 200 4)) (n := 5000); omega)) ⟨argle_sl (Reads.sl rfl), trivial⟩) rfl rfl ?_ -- law.go:83 call
          refine Runs_p rfl (Valid.movek (A := Tup [Sl 1 _ _, Is _]) rfl rfl) rfl rfl ?_ -- law.go:83 move
          refine Runs_p rfl (Valid.extract _ rfl rfl rfl) rfl rfl ?_ -- law.go:83 extract
          refine Runs_p rfl (Valid.extract _ rfl rfl rfl) rfl rfl ?_ -- law.go:83 extract
          refine Runs_p rfl (Valid.assignk (A := Sl 1 _ _) rfl rfl) rfl rfl ?_ -- law.go:83 assign
          refine Runs_p rfl (Valid.assignk (A := Is _) rfl rfl) rfl rfl ?_ -- law.go:83 assign
          refine Runs_nil ?_
          refine thenQ_n ?_
          refine W_seq ?_
          refine W_regionE (c := 72) (c' := 87) (by kernel_rfl) rfl ?_
          refine Runs_p rfl (Valid.movek (A := Is _) rfl rfl) rfl rfl ?_ -- law.go:84 move
          refine Runs_p rfl (Valid.movek (A := Is _) rfl rfl) rfl rfl ?_ -- law.go:84 move
          refine Runs_cnd rfl rfl (Grd.is rfl) [] (fun hg => trivial) (fun hg => Valid.movek (A := Is _) rfl rfl) (by rfl) rfl ?_
          refine Runs_cnd rfl rfl (Grd.is rfl) [(83, _)] (fun hg => ⟨cnd_at rfl (by first | exact hg | exact hg.1 | exact hg.1.1 | exact hg.1.1.1), trivial⟩) (fun hg => Valid.eql rfl rfl rfl) (by rfl) rfl ?_
          refine Runs_p rfl (Valid.pickand rfl rfl rfl (fun h => by first | exact h | exact ⟨hg, h⟩) rfl) rfl rfl ?_ -- law.go:84 pick
          refine Runs_p rfl (Valid.movek (A := Is _) rfl rfl) rfl rfl ?_ -- law.go:84 move
          refine Runs_cnd rfl rfl (Grd.is rfl) [] (fun hg => trivial) (fun hg => Valid.movek (A := Is _) rfl rfl) (by rfl) rfl ?_
          refine Runs_cnd rfl rfl (Grd.is rfl) [(87, _)] (fun hg => ⟨cnd_at rfl (by first | exact hg | exact hg.1 | exact hg.1.1 | exact hg.1.1.1), trivial⟩) (fun hg => Valid.eql rfl rfl rfl) (by rfl) rfl ?_
          refine Runs_p rfl (Valid.pickand rfl rfl rfl (fun h => by first | exact h | exact ⟨hg, h⟩) rfl) rfl rfl ?_ -- law.go:84 pick
          refine Runs_p rfl (Valid.movek (A := Is _) rfl rfl) rfl rfl ?_ -- law.go:84 move
          refine Runs_cnd rfl rfl (Grd.is rfl) [] (fun hg => trivial) (fun hg => Valid.movek (A := Sl 1 _ _) rfl rfl) (by rfl) rfl ?_
          refine Runs_cnd rfl rfl (Grd.is rfl) [] (fun hg => trivial) (fun hg => Valid.movek (A := Sl 1 _ _) rfl rfl) (by rfl) rfl ?_
          refine Runs_cnd rfl rfl (Grd.is rfl) [(91, _), (92, _)] (fun hg => ⟨cnd_at rfl (by first | exact hg | exact hg.1 | exact hg.1.1 | exact hg.1.1.1), cnd_at rfl (by first | exact hg | exact hg.1 | exact hg.1.1 | exact hg.1.1.1), trivial⟩) (fun hg => Valid.call rfl (ints_s _ _ (back_len2 (by (try simp only [decide_eq_true_eq, Bool.and_eq_true] at hg); assumption)) (by (try simp only [decide_eq_true_eq, Bool.and_eq_true] at hg); have := few_len ra 200 4; omega)) ⟨argle_sl (Reads.sl rfl), argle_sl (Reads.sl rfl), trivial⟩) (by rfl) rfl ?_
          refine Runs_p rfl (Valid.pickand rfl rfl rfl (fun h => by first | exact h | exact ⟨hg, h⟩) rfl) rfl rfl ?_ -- law.go:84 pick
          refine Runs_p rfl (Valid.assignk (A := Is _) rfl rfl) rfl rfl ?_ -- law.go:84 assign
          refine Runs_nil ?_
          refine thenQ_n ?_
          refine W_ret ?_
          refine finQ_r ?_
          refine ResOk.one rfl (RVal.is rfl rfl (by first | (exfalso; omega) | (exfalso; simp at *; done) | exact congrArg Value.bool (back_fin (few_neg (by decide)) (fun x hx => by have := few_mem (below := 4) (by decide) x hx; omega) (by assumption)) | (rw [(most_bad (fewL ra 200 4) 5000 (few_neg (by decide)) (by omega)).2]; rfl)))
          done)
      done)
end Zi
end Go.Proofs.Ytimpmdcebapfiaa
