/-
  WALKS of stage 10: weights that are drawn; the law that is awake.
-/
import Derived.Test.YtidbnpbccpmjlaaRows
import Derived.Test.YtidbnpbccpmjlaaMgc
import Derived.Test.YtidbnpbccpmjlaaWa
import Derived.Test.YtidbnpbccpmjlaaWb
import Derived.Test.YtidbnpbccpmjlaaWm
import Derived.Test.YtidbnpbccpmjlaaWc
import Derived.Test.YtidbnpbccpmjlaaWd
import Derived.Test.YtidbnpbccpmjlaaWe
import Derived.Test.YtidbnpbccpmjlaaWf
import Derived.Test.YtidbnpbccpmjlaaWg
import Derived.Test.YtidbnpbccpmjlaaOa
import Derived.Test.YtidbnpbccpmjlaaOb
import Derived.Test.YtidbnpbccpmjlaaOc
import Derived.Test.YtidbnpbccpmjlaaOd
import Derived.Test.YtidbnpbccpmjlaaOf
import Derived.Test.YtidbnpbccpmjlaaOi
import Derived.Test.YtidbnpbccpmjlaaWh
import Derived.Test.YtidbnpbccpmjlaaCm
namespace Go.Proofs.Ytidbnpbccpmjlaa
open Go.RowKit
namespace Wi
open Ab Wa Wb Wm Wc Wd We Wf Wg Oa Ob Oc Od Of Oi Wh Cm
theorem ag3 (w : World) : (isAgg 3).run Try.prog w = .ok false w := by kernel_rfl
theorem sz3 (w : World) : (sizeOf 3).run Try.prog w = .ok 1 w := by kernel_rfl
theorem ti3 : TI Try.prog 3 1 8 := .mk' (z := (Value.int .i64 0)) (by kernel_rfl) rfl
set_option maxRecDepth 100000 in
set_option maxHeartbeats 1000000 in
theorem pick10_s (c n : Int) (h1 : -9223372036854775808 ≤ c) (h2 : c ≤ 9223372036854775807) (h3 : 0 < n) (_h4 : n ≤ 9223372036854775807) :
    FPure Try.prog 6 [Is (.int .i64 c), Is (.int .i64 n)] (Is (.int .i64 (pickV c n))) := by
  refine FPure.of Try.func6 Try.ntmps6 rfl (by kernel_rfl) rfl rfl rfl ?_
  refine W_seq ?_
  refine W_regionE (c := 1) (c' := 2) (by kernel_rfl) rfl ?_
  refine Runs_p rfl (Valid.assignk (A := Is _) rfl rfl) rfl rfl ?_ -- law.go:14 assign
  refine Runs_nil ?_
  refine thenQ_n ?_
  refine W_seq ?_
  refine W_seq ?_
  refine W_regionE (c := 2) (c' := 4) (by kernel_rfl) rfl ?_
  refine Runs_p rfl (Valid.movek (A := Is _) rfl rfl) rfl rfl ?_ -- law.go:15 move
  refine Runs_p rfl (Valid.lss rfl rfl rfl) rfl rfl ?_ -- law.go:15 binOp
  refine Runs_nil ?_
  refine thenQ_n ?_
  refine W_cond _ rfl (fun hb1 => ?_) (fun hb1 => ?_)
  · try simp only [decide_eq_true_eq] at hb1
    all_goals (
      refine W_regionE (c := 4) (c' := 8) (by kernel_rfl) rfl ?_
      refine Runs_p rfl (Valid.movek (A := Is _) rfl rfl) rfl rfl ?_ -- law.go:16 move
      refine Runs_p rfl (Valid.add rfl rfl rfl (room64 (by first | omega | (simp only [Int.toNat_natCast, toNat_add, toNat_add1, List.length_append, List.length_cons, List.length_nil, List.length_replicate]; omega)) (by first | omega | (simp only [Int.toNat_natCast, toNat_add, toNat_add1, List.length_append, List.length_cons, List.length_nil, List.length_replicate]; omega)))) rfl rfl ?_ -- law.go:16 binOp
      refine Runs_p rfl (Valid.neg rfl rfl (room64 (by first | omega | (simp only [Int.toNat_natCast, toNat_add, toNat_add1, List.length_append, List.length_cons, List.length_nil, List.length_replicate]; omega)) (by first | omega | (simp only [Int.toNat_natCast, toNat_add, toNat_add1, List.length_append, List.length_cons, List.length_nil, List.length_replicate]; omega)))) rfl rfl ?_ -- law.go:16 unOp
      refine Runs_p rfl (Valid.assignk (A := Is _) rfl rfl) rfl rfl ?_ -- law.go:16 assign
      refine Runs_nil ?_
      refine thenQ_n ?_
      refine W_seq ?_
      refine W_regionE (c := 8) (c' := 12) (by kernel_rfl) rfl ?_
      refine Runs_p rfl (Valid.movek (A := Is _) rfl rfl) rfl rfl ?_ -- law.go:18 move
      refine Runs_p rfl (Valid.movek (A := Is _) rfl rfl) rfl rfl ?_ -- law.go:18 move
      refine Runs_p rfl (Valid.rem rfl rfl rfl (by first | omega | (simp only [Int.toNat_natCast, toNat_add, toNat_add1, List.length_append, List.length_cons, List.length_nil, List.length_replicate]; omega)) (by first | omega | (simp only [Int.toNat_natCast, toNat_add, toNat_add1, List.length_append, List.length_cons, List.length_nil, List.length_replicate]; omega))) rfl rfl ?_ -- law.go:18 binOp
      refine Runs_p rfl (Valid.assignk (A := Is _) rfl rfl) rfl rfl ?_ -- law.go:18 assign
      refine Runs_nil ?_
      refine thenQ_n ?_
      refine W_ret ?_
      refine finQ_r ?_
      refine ResOk.one rfl (RVal.is rfl rfl (by simp only [pickV]; split <;> first | rfl | omega))
      done)
  · try simp only [decide_eq_false_iff_not] at hb1
    all_goals (
      refine W_skip ?_
      refine thenQ_n ?_
      refine W_seq ?_
      refine W_regionE (c := 4) (c' := 8) (by kernel_rfl) rfl ?_
      refine Runs_p rfl (Valid.movek (A := Is _) rfl rfl) rfl rfl ?_ -- law.go:18 move
      refine Runs_p rfl (Valid.movek (A := Is _) rfl rfl) rfl rfl ?_ -- law.go:18 move
      refine Runs_p rfl (Valid.rem rfl rfl rfl (by first | omega | (simp only [Int.toNat_natCast, toNat_add, toNat_add1, List.length_append, List.length_cons, List.length_nil, List.length_replicate]; omega)) (by first | omega | (simp only [Int.toNat_natCast, toNat_add, toNat_add1, List.length_append, List.length_cons, List.length_nil, List.length_replicate]; omega))) rfl rfl ?_ -- law.go:18 binOp
      refine Runs_p rfl (Valid.assignk (A := Is _) rfl rfl) rfl rfl ?_ -- law.go:18 assign
      refine Runs_nil ?_
      refine thenQ_n ?_
      refine W_ret ?_
      refine finQ_r ?_
      refine ResOk.one rfl (RVal.is rfl rfl (by simp only [pickV]; split <;> first | rfl | omega))
      done)

def drW (raw : List Int) (i : Nat) : Int := pickV (raw.getD i 0) 1048577
theorem drW_bd (raw : List Int) (i : Nat) : okW (drW raw i) := by
  have := pickV_range (raw.getD i 0) 1048577 (by decide)
  unfold okW drW; omega
/-- the weights that are drawn -/
def wnS (raw : List Int) : Nat → List Int
  | 0 => [0, 3]
  | i + 1 => if i < 2 then (wnS raw i).set i (drW raw i) else wnS raw i ++ [drW raw i]
theorem wnS_len (raw : List Int) : ∀ i, (wnS raw i).length = max 2 i
  | 0 => rfl
  | i + 1 => by
    have ih := wnS_len raw i
    rw [wnS]
    split
    · rw [List.length_set]; omega
    · rw [List.length_append, List.length_singleton]; omega
theorem wnS_bnd (raw : List Int) : ∀ i, bnd (wnS raw i)
  | 0 => by show bnd [0, 3]; decide
  | i + 1 => by
    have ih := wnS_bnd raw i
    have hd := drW_bd raw i
    rw [wnS]
    split
    · intro x hx
      rcases List.mem_or_eq_of_mem_set hx with h | h
      · exact ih x h
      · rw [h]; exact hd
    · intro x hx
      rcases List.mem_append.1 hx with h | h
      · exact ih x h
      · simp at h; rw [h]; exact hd
theorem wnS_a {raw : List Int} {i : Nat} (h : i < 2) : (wnS raw i).set (i : Int).toNat (drW raw i) = wnS raw (i + 1) := by rw [wnS, if_pos h]; rfl
theorem wnS_b {raw : List Int} {i : Nat} (h : ¬ i < 2) : wnS raw i ++ [drW raw i] = wnS raw (i + 1) := by rw [wnS, if_neg h]
def wns (raw : List Int) (most : Nat) : List Int := wnS raw (min raw.length most)
theorem wns_eq {raw : List Int} {most i : Nat} (h1 : i ≤ raw.length) (h2 : i ≤ most) (h : ¬ ((i : Int) < raw.length ∧ (i : Int) < most)) : wns raw most = wnS raw i := by
  rw [wns, show min raw.length most = i by omega]
theorem wns_len (raw : List Int) (most : Nat) : 2 ≤ (wns raw most).length ∧ (wns raw most).length ≤ max 2 most := by
  unfold wns; rw [wnS_len]; omega
theorem wns_bnd (raw : List Int) (most : Nat) : bnd (wns raw most) := wnS_bnd raw _
theorem bnd.in64 {l : List Int} (h : bnd l) : In64 l := fun x hx => by have := h x hx; unfold okW at this; omega

set_option maxRecDepth 100000 in
set_option maxHeartbeats 1000000 in
theorem weights_s (raw : List Int) (most : Nat) (hr : In64 raw) (hl : raw.length ≤ 9223372036854775807) (hm : most ≤ 200) :
    FPure Try.prog 5 [Sl 1 raw.length (raw.map (Value.int .i64)), Is (.int .i64 (most : Int))] (Sl 1 (wns raw most).length ((wns raw most).map (Value.int .i64))) := by
  refine FPure.of Try.func5 Try.ntmps5 rfl (by kernel_rfl) rfl rfl rfl ?_
  refine W_seq ?_
  refine W_regionE (c := 1) (c' := 2) (by kernel_rfl) rfl ?_
  refine Runs_p rfl (Valid.assignk (A := Is (.slice none 0 0)) rfl rfl) rfl rfl ?_ -- law.go:22 assign
  refine Runs_nil ?_
  refine thenQ_n ?_
  refine W_seq ?_
  refine W_regionE (c := 2) (c' := 4) (by kernel_rfl) rfl ?_
  refine Runs_w rfl (Valid.litbuf (el := 3) (Value.int .i64) ([0, 3]) rfl rfl (fun _ => by kernel_rfl) rfl (by decide)) rfl rfl ?_ -- law.go:23 buildSlice
  refine Runs_p rfl (Valid.assignk (A := Buf 16 _) rfl rfl) rfl rfl ?_ -- law.go:23 assign
  refine Runs_nil ?_
  refine thenQ_n ?_
  refine W_seq ?_
  refine W_seq ?_
  refine W_regionE (c := 4) (c' := 5) (by kernel_rfl) rfl ?_
  refine Runs_p rfl (Valid.assignk (A := Is _) rfl rfl) rfl rfl ?_ -- law.go:24 assign
  refine Runs_nil ?_
  refine thenQ_n ?_
  refine W_block ?_
  refine W_loopx (G := Nat) (fun (i : Nat) => i ≤ raw.length ∧ i ≤ most) [(0, Sl 1 _ _), (1, Is _)] (fun (i : Nat) => [(6, Is (.int .i64 (i : Int))), (5, Buf 16 (max 2 i))]) [] (fun (i : Nat) => [(16, .buf 3 ((wnS raw i).map (Value.int .i64)))]) 5 (fun (i : Nat) => raw.length - i) (0) [] (⟨by omega, by omega⟩) ⟨⟨(leq_is rfl rfl (by first | rfl)), (leq_buf rfl rfl rfl (by first | rfl)), trivial⟩, ⟨(leq_sl (Reads.sl rfl) rfl rfl rfl), (leq_is rfl rfl rfl), trivial⟩, ⟨hp_buf rfl (by first | rfl), trivial⟩, trivial, rfl, ⟨supg rfl, supg rfl, trivial⟩, ⟨supg rfl, supg rfl, trivial⟩, ⟨suph rfl rfl, trivial⟩, trivial, rfl, rfl⟩ ?_
  intro i hI1
  obtain ⟨hi1, hi2⟩ := hI1
  have hcl := wnS_len raw i
  have hna : (wnS raw i ++ [drW raw i]).length = (wnS raw i).length + 1 := by simp
  refine W_seq ?_
  refine W_seq ?_
  refine W_regionE (c := 5) (c' := 14) (by kernel_rfl) rfl ?_
  refine Runs_p rfl (Valid.movek (A := Is _) rfl rfl) rfl rfl ?_ -- law.go:24 move
  refine Runs_p rfl (Valid.movek (A := Sl 1 _ _) rfl rfl) rfl rfl ?_ -- law.go:24 move
  refine Runs_p rfl (Valid.len rfl Try.underlying22 (Reads.sl rfl)) rfl rfl ?_ -- law.go:24 call
  refine Runs_p rfl (Valid.lss rfl rfl rfl) rfl rfl ?_ -- law.go:24 binOp
  refine Runs_p rfl (Valid.movek (A := Is _) rfl rfl) rfl rfl ?_ -- law.go:24 move
  refine Runs_cnd rfl rfl (Grd.is rfl) [] (fun hg => trivial) (fun hg => Valid.movek (A := Is _) rfl rfl) (by rfl) rfl ?_
  refine Runs_cnd rfl rfl (Grd.is rfl) [] (fun hg => trivial) (fun hg => Valid.movek (A := Is _) rfl rfl) (by rfl) rfl ?_
  refine Runs_cnd rfl rfl (Grd.is rfl) [(14, _), (15, _)] (fun hg => ⟨cnd_at rfl (by first | exact hg | exact hg.1 | exact hg.1.1 | exact hg.1.1.1), cnd_at rfl (by first | exact hg | exact hg.1 | exact hg.1.1 | exact hg.1.1.1), trivial⟩) (fun hg => Valid.lss rfl rfl rfl) (by rfl) rfl ?_
  refine Runs_p rfl (Valid.pickand rfl rfl rfl (fun h => by first | exact h | exact ⟨hg, h⟩) rfl) rfl rfl ?_ -- law.go:24 pick
  refine Runs_nil ?_
  refine thenQ_n ?_
  refine W_cond _ rfl (fun hb1 => ?_) (fun hb1 => ?_)
  · try simp only [decide_eq_true_eq, Bool.and_eq_true] at hb1
    all_goals (
      refine W_skip ?_
      refine thenQ_n ?_
      refine W_seq ?_
      refine W_block ?_
      refine W_seq ?_
      refine W_regionE (c := 14) (c' := 20) (by kernel_rfl) rfl ?_
      refine Runs_p rfl (Valid.movek (A := Sl 1 _ _) rfl rfl) rfl rfl ?_ -- law.go:25 move
      refine Runs_p rfl (Valid.movek (A := Is _) rfl rfl) rfl rfl ?_ -- law.go:25 move
      refine Runs_p rfl (Valid.eltaddr1 0 rfl Try.underlying22 sz3 (Reads.sl rfl) rfl (by first | omega | (simp only [Int.toNat_natCast, toNat_add, toNat_add1, List.length_append, List.length_cons, List.length_nil, List.length_replicate]; omega)) (by first | rfl | simp)) rfl rfl ?_ -- law.go:25 indexAddr
      refine Runs_p rfl (Valid.loadelt rfl ag3 rfl) rfl rfl ?_ -- law.go:25 load
      refine Runs_p rfl (Valid.call rfl (pick10_s _ _ (hr.at_ _).1 (hr.at_ _).2 (by decide) (by decide)) ⟨argle rfl, argle rfl, trivial⟩) rfl rfl ?_ -- law.go:25 call
      refine Runs_p rfl (Valid.assignk (A := Is _) rfl rfl) rfl rfl ?_ -- law.go:25 assign
      refine Runs_nil ?_
      refine thenQ_n ?_
      refine W_seq ?_
      refine W_regionE (c := 20) (c' := 22) (by kernel_rfl) rfl ?_
      refine Runs_p rfl (Valid.movek (A := Is _) rfl rfl) rfl rfl ?_ -- law.go:26 move
      refine Runs_p rfl (Valid.lss rfl rfl rfl) rfl rfl ?_ -- law.go:26 binOp
      refine Runs_nil ?_
      refine thenQ_n ?_
      refine W_cond _ rfl (fun hb2 => ?_) (fun hb2 => ?_)
      · try simp only [decide_eq_true_eq] at hb2
        all_goals (
          refine W_regionE (c := 22) (c' := 27) (by kernel_rfl) rfl ?_
          refine Runs_p rfl (Valid.movek (A := Buf 16 _) rfl rfl) rfl rfl ?_ -- law.go:27 move
          refine Runs_p rfl (Valid.movek (A := Is _) rfl rfl) rfl rfl ?_ -- law.go:27 move
          refine Runs_p rfl (Valid.movek (A := Is _) rfl rfl) rfl rfl ?_ -- law.go:27 move
          refine Runs_p rfl (Valid.idxB rfl Try.underlying22 sz3 rfl rfl (by first | omega | (simp only [Int.toNat_natCast, toNat_add, toNat_add1, List.length_append, List.length_cons, List.length_nil, List.length_replicate]; omega))) rfl rfl ?_ -- law.go:27 indexAddr
          refine Runs_op rfl (Valid.storeB _ rfl sz3 rfl rfl (by show i < _; omega) rfl (One.is rfl rfl rfl)) rfl ?_ -- law.go:27 store
          refine Runs_nil ?_
          refine blockQ_n ?_
          refine thenQ_n ?_
          refine W_regionE (c := 27) (c' := 30) (by kernel_rfl) rfl ?_
          refine Runs_p rfl (Valid.movek (A := Is _) rfl rfl) rfl rfl ?_ -- law.go:24 move
          refine Runs_p rfl (Valid.add rfl rfl rfl (room64 (by first | omega | (simp only [Int.toNat_natCast, toNat_add, toNat_add1, List.length_append, List.length_cons, List.length_nil, List.length_replicate]; omega)) (by first | omega | (simp only [Int.toNat_natCast, toNat_add, toNat_add1, List.length_append, List.length_cons, List.length_nil, List.length_replicate]; omega)))) rfl rfl ?_ -- law.go:24 binOp
          refine Runs_p rfl (Valid.assignk (A := Is _) rfl rfl) rfl rfl ?_ -- law.go:24 assign
          refine Runs_nil ?_
          refine LoopQ.next (i + 1) [] (⟨by omega, by omega⟩) (by omega) ⟨⟨(leq_is rfl rfl (by first | rfl | omega | exact wnS_a (i := i) (by omega) | exact wnS_b (i := i) (by omega) | exact congrArg (List.map (Value.int .i64)) (wnS_a (i := i) (by omega)) | exact congrArg (List.map (Value.int .i64)) (wnS_b (i := i) (by omega)) | (rw [List.length_append, hcl, List.length_singleton]; omega) | (rw [List.length_set, hcl]; omega))), (leq_buf rfl rfl rfl (by first | rfl | omega | exact wnS_a (i := i) (by omega) | exact wnS_b (i := i) (by omega) | exact congrArg (List.map (Value.int .i64)) (wnS_a (i := i) (by omega)) | exact congrArg (List.map (Value.int .i64)) (wnS_b (i := i) (by omega)) | (rw [List.length_append, hcl, List.length_singleton]; omega) | (rw [List.length_set, hcl]; omega))), trivial⟩, ⟨(leq_sl (Reads.sl rfl) rfl rfl rfl), (leq_is rfl rfl rfl), trivial⟩, ⟨hp_buf rfl (by first | rfl | omega | exact wnS_a (i := i) (by omega) | exact wnS_b (i := i) (by omega) | exact congrArg (List.map (Value.int .i64)) (wnS_a (i := i) (by omega)) | exact congrArg (List.map (Value.int .i64)) (wnS_b (i := i) (by omega)) | (rw [List.length_append, hcl, List.length_singleton]; omega) | (rw [List.length_set, hcl]; omega)), trivial⟩, trivial, rfl, ⟨supg rfl, supg rfl, trivial⟩, ⟨supg rfl, supg rfl, trivial⟩, ⟨suph rfl rfl, trivial⟩, trivial, rfl, rfl⟩
          done)
      · try simp only [decide_eq_false_iff_not] at hb2
        all_goals (
          refine W_regionE (c := 22) (c' := 27) (by kernel_rfl) rfl ?_
          refine Runs_p rfl (Valid.movek (A := Buf 16 _) rfl rfl) rfl rfl ?_ -- law.go:29 move
          refine Runs_p rfl (Valid.movek (A := Is _) rfl rfl) rfl rfl ?_ -- law.go:29 move
          refine Runs_p rfl (Valid.lit (el := 3) [_] rfl rfl (fun _ => by kernel_rfl) rfl (by decide)) rfl rfl ?_ -- law.go:29 buildSlice
          refine Runs_w rfl (Valid.appB (f := Value.int .i64) rfl Try.underlying22 ti3 rfl rfl (Reads.sl rfl) rfl (by first | (simp only [maxLen]; omega) | (simp only [maxLen, Int.toNat_natCast, toNat_add, toNat_add1, List.length_append, List.length_cons, List.length_nil, List.length_replicate]; omega)) (by first | omega | (simp only [Int.toNat_natCast, toNat_add, toNat_add1, List.length_append, List.length_cons, List.length_nil, List.length_replicate]; omega))) rfl rfl ?_ -- law.go:29 call
          refine Runs_p rfl (Valid.assignk (A := Buf 200 _) rfl rfl) rfl rfl ?_ -- law.go:29 assign
          refine Runs_nil ?_
          refine blockQ_n ?_
          refine thenQ_n ?_
          refine W_regionE (c := 27) (c' := 30) (by kernel_rfl) rfl ?_
          refine Runs_p rfl (Valid.movek (A := Is _) rfl rfl) rfl rfl ?_ -- law.go:24 move
          refine Runs_p rfl (Valid.add rfl rfl rfl (room64 (by first | omega | (simp only [Int.toNat_natCast, toNat_add, toNat_add1, List.length_append, List.length_cons, List.length_nil, List.length_replicate]; omega)) (by first | omega | (simp only [Int.toNat_natCast, toNat_add, toNat_add1, List.length_append, List.length_cons, List.length_nil, List.length_replicate]; omega)))) rfl rfl ?_ -- law.go:24 binOp
          refine Runs_p rfl (Valid.assignk (A := Is _) rfl rfl) rfl rfl ?_ -- law.go:24 assign
          refine Runs_nil ?_
          refine LoopQ.next (i + 1) [(16, 200)] (⟨by omega, by omega⟩) (by omega) ⟨⟨(leq_is rfl rfl (by first | rfl | omega | exact wnS_a (i := i) (by omega) | exact wnS_b (i := i) (by omega) | exact congrArg (List.map (Value.int .i64)) (wnS_a (i := i) (by omega)) | exact congrArg (List.map (Value.int .i64)) (wnS_b (i := i) (by omega)) | (rw [List.length_append, hcl, List.length_singleton]; omega) | (rw [List.length_set, hcl]; omega))), (leq_buf rfl rfl rfl (by first | rfl | omega | exact wnS_a (i := i) (by omega) | exact wnS_b (i := i) (by omega) | exact congrArg (List.map (Value.int .i64)) (wnS_a (i := i) (by omega)) | exact congrArg (List.map (Value.int .i64)) (wnS_b (i := i) (by omega)) | (rw [List.length_append, hcl, List.length_singleton]; omega) | (rw [List.length_set, hcl]; omega))), trivial⟩, ⟨(leq_sl (Reads.sl rfl) rfl rfl rfl), (leq_is rfl rfl rfl), trivial⟩, ⟨hp_buf rfl (by first | rfl | omega | exact wnS_a (i := i) (by omega) | exact wnS_b (i := i) (by omega) | exact congrArg (List.map (Value.int .i64)) (wnS_a (i := i) (by omega)) | exact congrArg (List.map (Value.int .i64)) (wnS_b (i := i) (by omega)) | (rw [List.length_append, hcl, List.length_singleton]; omega) | (rw [List.length_set, hcl]; omega)), trivial⟩, trivial, rfl, ⟨supg rfl, supg rfl, trivial⟩, ⟨supg rfl, supg rfl, trivial⟩, ⟨suph rfl rfl, trivial⟩, trivial, rfl, rfl⟩
          done)
      done)
  · try simp only [decide_eq_false_iff_not, Bool.and_eq_false_iff] at hb1
    all_goals (
      refine W_exit ?_
      refine thenQ_e ?_
      refine loopQ_e ?_
      refine blockQ_x ?_
      refine thenQ_n ?_
      refine W_seq ?_
      refine W.ent ?_ (Ent.freezeBuf 5 16 _ rfl rfl (by first | (rw [List.length_map, wnS_len]; done) | (rw [List.length_map, wnS_len]; omega)))
      refine W_regionE (c := 14) (c' := 16) (by kernel_rfl) rfl ?_
      refine Runs_p rfl (Valid.movek (A := Sl 1 _ _) rfl rfl) rfl rfl ?_ -- law.go:32 move
      refine Runs_p rfl (Valid.assignk (A := Sl 1 _ _) rfl rfl) rfl rfl ?_ -- law.go:32 assign
      refine Runs_nil ?_
      refine thenQ_n ?_
      refine W_ret ?_
      refine finQ_r ?_
      refine ResOk.one rfl (RVal.sl (Reads.sl rfl) rfl (by first | (rw [wns_eq hi1 hi2 (by omega)]; done) | (rw [wns_eq hi1 hi2 (by omega), wnS_len]; done) | (rw [wns_eq hi1 hi2 (by omega), wnS_len]; omega)) (by first | (rw [wns_eq hi1 hi2 (by omega)]; done) | (rw [wns_eq hi1 hi2 (by omega), wnS_len]; done) | (rw [wns_eq hi1 hi2 (by omega), wnS_len]; omega)))
      done)

theorem joinV_is {w v : List Int} (hw : Nn w) (h2 : 2 ≤ w.length) (hl : v.length = w.length) (h : (List.range w.length).all (fun i => decide (v.getD i 0 = (Dw w i : Int))) = true) : joinV w = v := by
  refine ext_gd (by rw [joinV_len h2, hl]) (fun i hi => ?_)
  rw [joinV_len h2] at hi
  rw [joinV_at hw h2 hi]
  exact (of_decide_eq_true (List.all_eq_true.1 h i (List.mem_range.2 hi))).symm
theorem k1 : lnV [5, 1, 1, 2] 9 = ([1, 3, 3, 2], 0) := by
  rw [lnV_y (by decide), lenW_short (by decide) (by decide)]
  rw [show ones [5, 1, 1, 2] = [5, 1, 1, 2] from rfl, joinV_is (w := [5, 1, 1, 2]) (v := [1, 3, 3, 2]) (fun x hx => by simp at hx; omega) (by decide) rfl (by kernel_rfl)]
theorem k2 : lnV [0, 0] 20 = ([1, 1], 0) := by
  rw [lnV_y (by decide), lenW_short (by decide) (by decide)]
  rw [show ones [0, 0] = [1, 1] from rfl, joinV_is (w := [1, 1]) (v := [1, 1]) (fun x hx => by simp at hx; omega) (by decide) rfl (by kernel_rfl)]
theorem k3 : lnV [1] 9 = ([], 1) := lnV_n (by decide)
theorem k4 : lnV [1, 1] 8 = ([], 1) := lnV_n (by decide)
theorem k5 : costV [1, 3, 3, 2] [5, 1, 1, 2] = (15, 0) := by kernel_rfl
theorem k6 : costV [1, 3, 3, 2] [] = (0, 1) := by kernel_rfl
theorem ln_t {w l : List Int} {n k : Nat} {most e : Int} {xs ys : List Value} (hn : n = w.length) (hx : xs = w.map (Value.int .i64)) (hl : w.length ≤ 1000) (h : lnV w most = (l, e)) (hk : k = l.length) (hy : ys = l.map (Value.int .i64)) : FPure Try.prog 7 [Sl 1 n xs, Is (.int .i64 most)] (Tup [Sl 1 k ys, Is (.int .i64 e)]) := by
  subst hn hx hk hy
  have h1 := lengths_s w most hl
  rw [h] at h1
  exact h1
theorem co_t {w l : List Int} {n k : Nat} {c e : Int} {xs ys : List Value} (hn : n = l.length) (hx : xs = l.map (Value.int .i64)) (hl : l.length ≤ 1000) (hk : k = w.length) (hy : ys = w.map (Value.int .i64)) (hw : w.length ≤ 1000) (h : costV l w = (c, e)) : FPure Try.prog 10 [Sl 1 n xs, Sl 1 k ys] (Tup [Is (.int .i64 c), Is (.int .i64 e)]) := by
  subst hn hx hk hy
  have h1 := cost_s l w hl hw
  rw [h] at h1
  exact h1

set_option maxRecDepth 100000 in
set_option maxHeartbeats 1000000 in
theorem awake10_s  :
    FPure Try.prog 4 [] (Is (.bool true)) := by
  refine FPure.of Try.func4 Try.ntmps4 rfl (by kernel_rfl) rfl rfl rfl ?_
  refine W_seq ?_
  refine W_regionE (c := 1) (c' := 2) (by kernel_rfl) rfl ?_
  refine Runs_p rfl (Valid.assignk (A := Is _) rfl rfl) rfl rfl ?_ -- law.go:36 assign
  refine Runs_nil ?_
  refine thenQ_n ?_
  refine W_seq ?_
  refine W_regionE (c := 2) (c' := 9) (by kernel_rfl) rfl ?_
  refine Runs_p rfl (Valid.lit (el := 3) (([5, 1, 1, 2] : List Int).map (Value.int .i64)) rfl rfl (fun _ => by kernel_rfl) rfl (by decide)) rfl rfl ?_ -- law.go:37 buildSlice
  refine Runs_p rfl (Valid.call rfl (ln_t rfl rfl (by decide) k1 rfl rfl) ⟨argle_sl (Reads.sl rfl), argle rfl, trivial⟩) rfl rfl ?_ -- law.go:37 call
  refine Runs_p rfl (Valid.movek (A := Tup [Sl 1 _ _, Is _]) rfl rfl) rfl rfl ?_ -- law.go:37 move
  refine Runs_p rfl (Valid.extract _ rfl rfl rfl) rfl rfl ?_ -- law.go:37 extract
  refine Runs_p rfl (Valid.extract _ rfl rfl rfl) rfl rfl ?_ -- law.go:37 extract
  refine Runs_p rfl (Valid.assignk (A := Sl 1 _ _) rfl rfl) rfl rfl ?_ -- law.go:37 assign
  refine Runs_p rfl (Valid.assignk (A := Is _) rfl rfl) rfl rfl ?_ -- law.go:37 assign
  refine Runs_nil ?_
  refine thenQ_n ?_
  refine W_seq ?_
  refine W_regionE (c := 9) (c' := 16) (by kernel_rfl) rfl ?_
  refine Runs_p rfl (Valid.lit (el := 3) (([0, 0] : List Int).map (Value.int .i64)) rfl rfl (fun _ => by kernel_rfl) rfl (by decide)) rfl rfl ?_ -- law.go:38 buildSlice
  refine Runs_p rfl (Valid.call rfl (ln_t rfl rfl (by decide) k2 rfl rfl) ⟨argle_sl (Reads.sl rfl), argle rfl, trivial⟩) rfl rfl ?_ -- law.go:38 call
  refine Runs_p rfl (Valid.movek (A := Tup [Sl 1 _ _, Is _]) rfl rfl) rfl rfl ?_ -- law.go:38 move
  refine Runs_p rfl (Valid.extract _ rfl rfl rfl) rfl rfl ?_ -- law.go:38 extract
  refine Runs_p rfl (Valid.extract _ rfl rfl rfl) rfl rfl ?_ -- law.go:38 extract
  refine Runs_p rfl (Valid.assignk (A := Sl 1 _ _) rfl rfl) rfl rfl ?_ -- law.go:38 assign
  refine Runs_p rfl (Valid.assignk (A := Is _) rfl rfl) rfl rfl ?_ -- law.go:38 assign
  refine Runs_nil ?_
  refine thenQ_n ?_
  refine W_seq ?_
  refine W_regionE (c := 16) (c' := 23) (by kernel_rfl) rfl ?_
  refine Runs_p rfl (Valid.lit (el := 3) (([1] : List Int).map (Value.int .i64)) rfl rfl (fun _ => by kernel_rfl) rfl (by decide)) rfl rfl ?_ -- law.go:39 buildSlice
  refine Runs_p rfl (Valid.call rfl (ln_t rfl rfl (by decide) k3 rfl rfl) ⟨argle_sl (Reads.sl rfl), argle rfl, trivial⟩) rfl rfl ?_ -- law.go:39 call
  refine Runs_p rfl (Valid.movek (A := Tup [Sl 1 _ _, Is _]) rfl rfl) rfl rfl ?_ -- law.go:39 move
  refine Runs_p rfl (Valid.extract _ rfl rfl rfl) rfl rfl ?_ -- law.go:39 extract
  refine Runs_p rfl (Valid.extract _ rfl rfl rfl) rfl rfl ?_ -- law.go:39 extract
  refine Runs_p rfl (Valid.assignk (A := Sl 1 _ _) rfl rfl) rfl rfl ?_ -- law.go:39 assign
  refine Runs_p rfl (Valid.assignk (A := Is _) rfl rfl) rfl rfl ?_ -- law.go:39 assign
  refine Runs_nil ?_
  refine thenQ_n ?_
  refine W_seq ?_
  refine W_regionE (c := 23) (c' := 30) (by kernel_rfl) rfl ?_
  refine Runs_p rfl (Valid.lit (el := 3) (([1, 1] : List Int).map (Value.int .i64)) rfl rfl (fun _ => by kernel_rfl) rfl (by decide)) rfl rfl ?_ -- law.go:40 buildSlice
  refine Runs_p rfl (Valid.call rfl (ln_t rfl rfl (by decide) k4 rfl rfl) ⟨argle_sl (Reads.sl rfl), argle rfl, trivial⟩) rfl rfl ?_ -- law.go:40 call
  refine Runs_p rfl (Valid.movek (A := Tup [Sl 1 _ _, Is _]) rfl rfl) rfl rfl ?_ -- law.go:40 move
  refine Runs_p rfl (Valid.extract _ rfl rfl rfl) rfl rfl ?_ -- law.go:40 extract
  refine Runs_p rfl (Valid.extract _ rfl rfl rfl) rfl rfl ?_ -- law.go:40 extract
  refine Runs_p rfl (Valid.assignk (A := Sl 1 _ _) rfl rfl) rfl rfl ?_ -- law.go:40 assign
  refine Runs_p rfl (Valid.assignk (A := Is _) rfl rfl) rfl rfl ?_ -- law.go:40 assign
  refine Runs_nil ?_
  refine thenQ_n ?_
  refine W_seq ?_
  refine W_regionE (c := 30) (c' := 38) (by kernel_rfl) rfl ?_
  refine Runs_p rfl (Valid.movek (A := Sl 1 _ _) rfl rfl) rfl rfl ?_ -- law.go:41 move
  refine Runs_p rfl (Valid.lit (el := 3) (([5, 1, 1, 2] : List Int).map (Value.int .i64)) rfl rfl (fun _ => by kernel_rfl) rfl (by decide)) rfl rfl ?_ -- law.go:41 buildSlice
  refine Runs_p rfl (Valid.call rfl (co_t (w := [5, 1, 1, 2]) (l := [1, 3, 3, 2]) rfl rfl (by decide) rfl rfl (by decide) k5) ⟨argle_sl (Reads.sl rfl), argle_sl (Reads.sl rfl), trivial⟩) rfl rfl ?_ -- law.go:41 call
  refine Runs_p rfl (Valid.movek (A := Tup [Is _, Is _]) rfl rfl) rfl rfl ?_ -- law.go:41 move
  refine Runs_p rfl (Valid.extract _ rfl rfl rfl) rfl rfl ?_ -- law.go:41 extract
  refine Runs_p rfl (Valid.extract _ rfl rfl rfl) rfl rfl ?_ -- law.go:41 extract
  refine Runs_p rfl (Valid.assignk (A := Is _) rfl rfl) rfl rfl ?_ -- law.go:41 assign
  refine Runs_p rfl (Valid.assignk (A := Is _) rfl rfl) rfl rfl ?_ -- law.go:41 assign
  refine Runs_nil ?_
  refine thenQ_n ?_
  refine W_seq ?_
  refine W_regionE (c := 38) (c' := 45) (by kernel_rfl) rfl ?_
  refine Runs_p rfl (Valid.movek (A := Sl 1 _ _) rfl rfl) rfl rfl ?_ -- law.go:42 move
  refine Runs_p rfl (Valid.call rfl (co_t (w := []) (l := [1, 3, 3, 2]) rfl rfl (by decide) rfl rfl (by decide) k6) ⟨argle_sl (Reads.sl rfl), argle_sl (Reads.nil rfl), trivial⟩) rfl rfl ?_ -- law.go:42 call
  refine Runs_p rfl (Valid.movek (A := Tup [Is _, Is _]) rfl rfl) rfl rfl ?_ -- law.go:42 move
  refine Runs_p rfl (Valid.extract _ rfl rfl rfl) rfl rfl ?_ -- law.go:42 extract
  refine Runs_p rfl (Valid.extract _ rfl rfl rfl) rfl rfl ?_ -- law.go:42 extract
  refine Runs_p rfl (Valid.assignk (A := Is _) rfl rfl) rfl rfl ?_ -- law.go:42 assign
  refine Runs_p rfl (Valid.assignk (A := Is _) rfl rfl) rfl rfl ?_ -- law.go:42 assign
  refine Runs_nil ?_
  refine thenQ_n ?_
  refine W_seq ?_
  refine W_regionE (c := 45) (c' := 82) (by kernel_rfl) rfl ?_
  refine Runs_p rfl (Valid.movek (A := Is _) rfl rfl) rfl rfl ?_ -- law.go:43 move
  refine Runs_p rfl (Valid.eql rfl rfl rfl) rfl rfl ?_ -- law.go:43 binOp
  refine Runs_p rfl (Valid.movek (A := Is _) rfl rfl) rfl rfl ?_ -- law.go:43 move
  refine Runs_yesp rfl rfl (Grd.is rfl) (by decide) (Valid.movek (A := Sl 1 _ _) rfl rfl) rfl rfl ?_ -- law.go:43 move
  refine Runs_yesp rfl rfl (Grd.is rfl) (by decide) (Valid.lit (el := 3) [_, _, _, _] rfl rfl (fun _ => by kernel_rfl) rfl (by decide)) rfl rfl ?_ -- law.go:43 buildSlice
  refine Runs_yesp rfl rfl (Grd.is rfl) (by decide) (Valid.call rfl (ksame [1, 3, 3, 2] (by decide)) ⟨argle_sl (Reads.sl rfl), argle_sl (Reads.sl rfl), trivial⟩) rfl rfl ?_ -- law.go:43 call
  refine Runs_p rfl (Valid.pickt (A := Is _) rfl rfl rfl) rfl rfl ?_ -- law.go:43 pick
  refine Runs_p rfl (Valid.movek (A := Is _) rfl rfl) rfl rfl ?_ -- law.go:43 move
  refine Runs_yesp rfl rfl (Grd.is rfl) (by decide) (Valid.movek (A := Is _) rfl rfl) rfl rfl ?_ -- law.go:43 move
  refine Runs_yesp rfl rfl (Grd.is rfl) (by decide) (Valid.eql rfl rfl rfl) rfl rfl ?_ -- law.go:43 binOp
  refine Runs_p rfl (Valid.pickt (A := Is _) rfl rfl rfl) rfl rfl ?_ -- law.go:43 pick
  refine Runs_p rfl (Valid.movek (A := Is _) rfl rfl) rfl rfl ?_ -- law.go:43 move
  refine Runs_yesp rfl rfl (Grd.is rfl) (by decide) (Valid.movek (A := Sl 1 _ _) rfl rfl) rfl rfl ?_ -- law.go:43 move
  refine Runs_yesp rfl rfl (Grd.is rfl) (by decide) (Valid.lit (el := 3) [_, _] rfl rfl (fun _ => by kernel_rfl) rfl (by decide)) rfl rfl ?_ -- law.go:43 buildSlice
  refine Runs_yesp rfl rfl (Grd.is rfl) (by decide) (Valid.call rfl (ksame [1, 1] (by decide)) ⟨argle_sl (Reads.sl rfl), argle_sl (Reads.sl rfl), trivial⟩) rfl rfl ?_ -- law.go:43 call
  refine Runs_p rfl (Valid.pickt (A := Is _) rfl rfl rfl) rfl rfl ?_ -- law.go:43 pick
  refine Runs_p rfl (Valid.movek (A := Is _) rfl rfl) rfl rfl ?_ -- law.go:43 move
  refine Runs_yesp rfl rfl (Grd.is rfl) (by decide) (Valid.movek (A := Is _) rfl rfl) rfl rfl ?_ -- law.go:43 move
  refine Runs_yesp rfl rfl (Grd.is rfl) (by decide) (Valid.eql rfl rfl rfl) rfl rfl ?_ -- law.go:43 binOp
  refine Runs_p rfl (Valid.pickt (A := Is _) rfl rfl rfl) rfl rfl ?_ -- law.go:43 pick
  refine Runs_p rfl (Valid.movek (A := Is _) rfl rfl) rfl rfl ?_ -- law.go:43 move
  refine Runs_yesp rfl rfl (Grd.is rfl) (by decide) (Valid.movek (A := Is _) rfl rfl) rfl rfl ?_ -- law.go:43 move
  refine Runs_yesp rfl rfl (Grd.is rfl) (by decide) (Valid.eql rfl rfl rfl) rfl rfl ?_ -- law.go:43 binOp
  refine Runs_p rfl (Valid.pickt (A := Is _) rfl rfl rfl) rfl rfl ?_ -- law.go:43 pick
  refine Runs_p rfl (Valid.movek (A := Is _) rfl rfl) rfl rfl ?_ -- law.go:43 move
  refine Runs_yesp rfl rfl (Grd.is rfl) (by decide) (Valid.movek (A := Is _) rfl rfl) rfl rfl ?_ -- law.go:43 move
  refine Runs_yesp rfl rfl (Grd.is rfl) (by decide) (Valid.eql rfl rfl rfl) rfl rfl ?_ -- law.go:43 binOp
  refine Runs_p rfl (Valid.pickt (A := Is _) rfl rfl rfl) rfl rfl ?_ -- law.go:43 pick
  refine Runs_p rfl (Valid.movek (A := Is _) rfl rfl) rfl rfl ?_ -- law.go:43 move
  refine Runs_yesp rfl rfl (Grd.is rfl) (by decide) (Valid.movek (A := Is _) rfl rfl) rfl rfl ?_ -- law.go:43 move
  refine Runs_yesp rfl rfl (Grd.is rfl) (by decide) (Valid.eql rfl rfl rfl) rfl rfl ?_ -- law.go:43 binOp
  refine Runs_p rfl (Valid.pickt (A := Is _) rfl rfl rfl) rfl rfl ?_ -- law.go:43 pick
  refine Runs_p rfl (Valid.movek (A := Is _) rfl rfl) rfl rfl ?_ -- law.go:43 move
  refine Runs_yesp rfl rfl (Grd.is rfl) (by decide) (Valid.movek (A := Is _) rfl rfl) rfl rfl ?_ -- law.go:43 move
  refine Runs_yesp rfl rfl (Grd.is rfl) (by decide) (Valid.eql rfl rfl rfl) rfl rfl ?_ -- law.go:43 binOp
  refine Runs_p rfl (Valid.pickt (A := Is _) rfl rfl rfl) rfl rfl ?_ -- law.go:43 pick
  refine Runs_p rfl (Valid.assignk (A := Is _) rfl rfl) rfl rfl ?_ -- law.go:43 assign
  refine Runs_nil ?_
  refine thenQ_n ?_
  refine W_ret ?_
  refine finQ_r ?_
  refine ResOk.one rfl (RVal.is rfl rfl (rfl))
end Wi
end Go.Proofs.Ytidbnpbccpmjlaa
