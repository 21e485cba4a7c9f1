/-
  WALKS of stage 7: the reference.
-/
import Derived.Test.YtlcephckjhiggaaRows
import Derived.Test.YtlcephckjhiggaaAbt
import Derived.Test.YtlcephckjhiggaaBb
import Derived.Test.YtlcephckjhiggaaCa
import Derived.Test.YtlcephckjhiggaaGa
import Derived.Test.YtlcephckjhiggaaGb
import Derived.Test.YtlcephckjhiggaaGc
import Derived.Test.YtlcephckjhiggaaGd
import Derived.Test.YtlcephckjhiggaaGe
namespace Go.Proofs.Ytlcephckjhiggaa
open Go.RowKit
namespace Gf
open Ab Bm Bt Bb Ca Ga Gb Gc Gd Ge
theorem ag25 (w : World) : (isAgg 25).run Try.prog w = .ok true w := by kernel_rfl
theorem sz25 (w : World) : (sizeOf 25).run Try.prog w = .ok 2 w := by kernel_rfl
theorem ti3 : TI Try.prog 3 1 8 := .mk' (z := (Value.int .i64 0)) (by kernel_rfl) rfl
theorem ti5 : TI Try.prog 5 1 1 := .mk' (z := (Value.int .u8 0)) (by kernel_rfl) rfl
theorem zv25 (w : World) : (zeroValue 25).run Try.prog w = .ok (.agg #[(Value.string ⟨#[]⟩), (Value.int .i64 0)]) w := by kernel_rfl
theorem has_set (s : ByteArray) (k x : Nat) : (hasL s (k + 1)).getD x false = (decide ((bat s (k : Int)).toNat = x) || (hasL s k).getD x false) := by
  have hb := (bat s (k : Int)).toNat_lt
  have hl := has_len s k
  rw [← has_1, List.getD_eq_getElem?_getD, List.getElem?_set]
  by_cases e : (bat s (k : Int)).toNat = x
  · rw [if_pos e, if_pos (by omega), decide_eq_true e]; rfl
  · rw [if_neg e, decide_eq_false e, List.getD_eq_getElem?_getD]; rfl
theorem has_n {s : ByteArray} {k x : Nat} (h : (hasL s k).getD x false = false) (e : ¬ (bat s (k : Int)).toNat = x) : (hasL s (k + 1)).getD x false = false := by rw [has_set, h, decide_eq_false e]; rfl
theorem has_up {s : ByteArray} {k x : Nat} (h : (hasL s k).getD x false = true) : ∀ d, (hasL s (k + d)).getD x false = true
  | 0 => h
  | d + 1 => by rw [← Nat.add_assoc, has_set, has_up h d, Bool.or_true]
theorem has_y {s : ByteArray} {k x : Nat} (hk : k < s.size) (e : (bat s (k : Int)).toNat = x) : (hasV s).getD x false = true := by
  have h1 : (hasL s (k + 1)).getD x false = true := by rw [has_set, decide_eq_true e]; rfl
  have := has_up h1 (s.size - (k + 1))
  rwa [show k + 1 + (s.size - (k + 1)) = s.size by omega] at this
theorem has_00 (s : ByteArray) (x : Nat) : (hasL s 0).getD x false = false := by
  rw [hasL, List.getD_eq_getElem?_getD, List.getElem?_replicate]; split <;> rfl

set_option maxRecDepth 100000 in
set_option maxHeartbeats 1000000 in
theorem has_s (s : ByteArray) (c : Int) (hs : s.size ≤ 1000000000000) (h0 : 0 ≤ c) :
    FPure Try.prog 21 [Is (.string s), Is (.int .i64 c)] (Is (.bool ((hasV s).getD c.toNat false))) := by
  refine FPure.of Try.func21 Try.ntmps21 rfl (by kernel_rfl) rfl rfl rfl ?_
  refine W_seq ?_
  refine W_regionE (c := 1) (c' := 2) (by kernel_rfl) rfl ?_
  refine Runs_p rfl (Valid.assignk (A := Is _) rfl rfl) rfl rfl ?_ -- ref.go:10 assign
  refine Runs_nil ?_
  refine thenQ_n ?_
  refine W_seq ?_
  refine W_seq ?_
  refine W_regionE (c := 2) (c' := 3) (by kernel_rfl) rfl ?_
  refine Runs_p rfl (Valid.assignk (A := Is _) rfl rfl) rfl rfl ?_ -- ref.go:11 assign
  refine Runs_nil ?_
  refine thenQ_n ?_
  refine W_block ?_
  refine W_loopx (G := Nat) (fun (k : Nat) => k ≤ s.size ∧ (hasL s k).getD c.toNat false = false) [(0, Is _), (1, Is _)] (fun (k : Nat) => [(5, Is (.int .i64 (k : Int)))]) [] (fun (k : Nat) => []) 3 (fun (k : Nat) => s.size - k) (0) [] (⟨by omega, has_00 _ _⟩) ⟨⟨(leq_is rfl rfl (by first | rfl | (simp; done) | omega | (simp [toNat_add, toNat_add1, Nat.add_assoc]; done) | (simp [toNat_add, toNat_add1]; omega))), trivial⟩, ⟨(leq_is rfl rfl rfl), (leq_is rfl rfl rfl), trivial⟩, trivial, trivial, rfl, ⟨supg rfl, trivial⟩, ⟨supg rfl, supg rfl, trivial⟩, trivial, trivial, rfl, rfl⟩ ?_
  intro k hI1
  obtain ⟨hk1, hk2⟩ := hI1
  refine W_seq ?_
  refine W_seq ?_
  refine W_regionE (c := 3) (c' := 7) (by kernel_rfl) rfl ?_
  refine Runs_p rfl (Valid.movek (A := Is _) rfl rfl) rfl rfl ?_ -- ref.go:11 move
  refine Runs_p rfl (Valid.movek (A := Is _) rfl rfl) rfl rfl ?_ -- ref.go:11 move
  refine Runs_p rfl (Valid.slen rfl Try.underlying9 rfl) rfl rfl ?_ -- ref.go:11 call
  refine Runs_p rfl (Valid.lss rfl rfl rfl) rfl rfl ?_ -- ref.go:11 binOp
  refine Runs_nil ?_
  refine thenQ_n ?_
  refine W_cond _ rfl (fun hb1 => ?_) (fun hb1 => ?_)
  · try simp only [decide_eq_true_eq] at hb1
    all_goals (
      refine W_skip ?_
      refine thenQ_n ?_
      refine W_seq ?_
      refine W_block ?_
      refine W_seq ?_
      refine W_regionE (c := 7) (c' := 13) (by kernel_rfl) rfl ?_
      refine Runs_p rfl (Valid.movek (A := Is _) rfl rfl) rfl rfl ?_ -- ref.go:12 move
      refine Runs_p rfl (Valid.movek (A := Is _) rfl rfl) rfl rfl ?_ -- ref.go:12 move
      refine Runs_p rfl (Valid.sindex rfl Try.underlying9 rfl rfl (by first | omega | (simp only [Int.toNat_natCast, toNat_add, toNat_add1, List.length_append, List.length_cons, List.length_nil, List.length_replicate]; omega))) rfl rfl ?_ -- ref.go:12 index
      refine Runs_p rfl (Valid.convr rfl rfl Try.underlying5 Try.underlying3 (room64 (by first | omega | (have hbb := (bat s (k : Int)).toNat_lt; omega)) (by first | omega | (have hbb := (bat s (k : Int)).toNat_lt; omega)))) rfl rfl ?_ -- ref.go:12 convert
      refine Runs_p rfl (Valid.movek (A := Is _) rfl rfl) rfl rfl ?_ -- ref.go:12 move
      refine Runs_p rfl (Valid.eql rfl rfl rfl) rfl rfl ?_ -- ref.go:12 binOp
      refine Runs_nil ?_
      refine thenQ_n ?_
      refine W_cond _ rfl (fun hb2 => ?_) (fun hb2 => ?_)
      · try simp only [decide_eq_true_eq] at hb2
        all_goals (
          refine W_seq ?_
          refine W_regionE (c := 13) (c' := 14) (by kernel_rfl) rfl ?_
          refine Runs_p rfl (Valid.assignk (A := Is _) rfl rfl) rfl rfl ?_ -- ref.go:13 assign
          refine Runs_nil ?_
          refine thenQ_n ?_
          refine W_ret ?_
          refine blockQ_r ?_
          refine thenQ_r ?_
          refine loopQ_r ?_
          refine blockQ_r ?_
          refine thenQ_r ?_
          refine finQ_r ?_
          refine ResOk.one rfl (RVal.is rfl rfl (by first | (rw [has_y (k := k) (by omega) (by omega)]; done) | (rw [hasV, ← show k = s.size by omega, hk2])))
          done)
      · try simp only [decide_eq_false_iff_not] at hb2
        all_goals (
          refine W_skip ?_
          refine blockQ_n ?_
          refine thenQ_n ?_
          refine W_regionE (c := 13) (c' := 16) (by kernel_rfl) rfl ?_
          refine Runs_p rfl (Valid.movek (A := Is _) rfl rfl) rfl rfl ?_ -- ref.go:11 move
          refine Runs_p rfl (Valid.add rfl rfl rfl (room64 (by first | omega | (simp only [Int.toNat_natCast, toNat_add, toNat_add1, List.length_append, List.length_cons, List.length_nil, List.length_replicate]; omega)) (by first | omega | (simp only [Int.toNat_natCast, toNat_add, toNat_add1, List.length_append, List.length_cons, List.length_nil, List.length_replicate]; omega)))) rfl rfl ?_ -- ref.go:11 binOp
          refine Runs_p rfl (Valid.assignk (A := Is _) rfl rfl) rfl rfl ?_ -- ref.go:11 assign
          refine Runs_nil ?_
          refine LoopQ.next (k + 1) [] (⟨by omega, has_n hk2 (by omega)⟩) (by omega) ⟨⟨(leq_is rfl rfl (by first | rfl | (simp; done) | omega | (simp [toNat_add, toNat_add1, Nat.add_assoc]; done) | (simp [toNat_add, toNat_add1]; omega))), trivial⟩, ⟨(leq_is rfl rfl rfl), (leq_is rfl rfl rfl), trivial⟩, trivial, trivial, rfl, ⟨supg rfl, trivial⟩, ⟨supg rfl, supg rfl, trivial⟩, trivial, trivial, rfl, rfl⟩
          done)
      done)
  · try simp only [decide_eq_false_iff_not] at hb1
    all_goals (
      refine W_exit ?_
      refine thenQ_e ?_
      refine loopQ_e ?_
      refine blockQ_x ?_
      refine thenQ_n ?_
      refine W_seq ?_
      refine W_regionE (c := 7) (c' := 8) (by kernel_rfl) rfl ?_
      refine Runs_p rfl (Valid.assignk (A := Is _) rfl rfl) rfl rfl ?_ -- ref.go:16 assign
      refine Runs_nil ?_
      refine thenQ_n ?_
      refine W_ret ?_
      refine finQ_r ?_
      refine ResOk.one rfl (RVal.is rfl rfl (by first | (rw [has_y (k := k) (by omega) (by omega)]; done) | (rw [hasV, ← show k = s.size by omega, hk2])))
      done)

set_option maxRecDepth 100000 in
set_option maxHeartbeats 1000000 in
theorem ralph_s (s : ByteArray) (hs : s.size ≤ 1000000000000) :
    FPure Try.prog 10 [Is (.string s)] (Is (.string (alV s))) := by
  refine FPure.of Try.func10 Try.ntmps10 rfl (by kernel_rfl) rfl rfl rfl ?_
  refine W_seq ?_
  refine W_regionE (c := 1) (c' := 2) (by kernel_rfl) rfl ?_
  refine Runs_p rfl (Valid.assignk (A := Is _) rfl rfl) rfl rfl ?_ -- ref.go:20 assign
  refine Runs_nil ?_
  refine thenQ_n ?_
  refine W_seq ?_
  refine W_regionE (c := 2) (c' := 3) (by kernel_rfl) rfl ?_
  refine Runs_p rfl (Valid.assignk (A := Is (.slice none 0 0)) rfl rfl) rfl rfl ?_ -- ref.go:21 assign
  refine Runs_nil ?_
  refine thenQ_n ?_
  refine W_seq ?_
  refine W_seq ?_
  refine W_regionE (c := 3) (c' := 4) (by kernel_rfl) rfl ?_
  refine Runs_p rfl (Valid.assignk (A := Is _) rfl rfl) rfl rfl ?_ -- ref.go:22 assign
  refine Runs_nil ?_
  refine thenQ_n ?_
  refine W_block ?_
  refine W.ent ?_ (Ent.ownnil 3 5 1 rfl)
  refine W_loopx (G := Nat) (fun (k : Nat) => k ≤ 256) [(0, Is _)] (fun (k : Nat) => [(4, Is (.int .i64 (k : Int))), (3, Own 32 1 (alB (hasV s) k).length ((alB (hasV s) k).map B))]) [] (fun (k : Nat) => [(32, .row 5 1 (alB (hasV s) k).length ((alB (hasV s) k).map B))]) 5 (fun (k : Nat) => 256 - k) (0) [] (by first | trivial | omega | (simp; omega)) ⟨⟨(leq_is rfl rfl (by first | rfl | (rw [alB_0]; rfl))), (leq_own rfl rfl rfl (by first | rfl | (rw [alB_0]; rfl)) (by first | rfl | (rw [alB_0]; rfl))), trivial⟩, ⟨(leq_is rfl rfl rfl), trivial⟩, ⟨hp_row rfl (by first | rfl | (rw [alB_0]; rfl)) (by first | rfl | (rw [alB_0]; rfl)), trivial⟩, trivial, rfl, ⟨supg rfl, supg rfl, trivial⟩, ⟨supg rfl, trivial⟩, ⟨suph rfl rfl, trivial⟩, trivial, rfl, rfl⟩ ?_
  intro k hI1
  have hal := alB_le (hasV s) k
  refine W_seq ?_
  refine W_seq ?_
  refine W_regionE (c := 5) (c' := 7) (by kernel_rfl) rfl ?_
  refine Runs_p rfl (Valid.movek (A := Is _) rfl rfl) rfl rfl ?_ -- ref.go:22 move
  refine Runs_p rfl (Valid.lss rfl rfl rfl) rfl rfl ?_ -- ref.go:22 binOp
  refine Runs_nil ?_
  refine thenQ_n ?_
  refine W_cond _ rfl (fun hb1 => ?_) (fun hb1 => ?_)
  · try simp only [decide_eq_true_eq] at hb1
    all_goals (
      refine W_skip ?_
      refine thenQ_n ?_
      refine W_seq ?_
      refine W_block ?_
      refine W_seq ?_
      refine W_regionE (c := 7) (c' := 10) (by kernel_rfl) rfl ?_
      refine Runs_p rfl (Valid.movek (A := Is _) rfl rfl) rfl rfl ?_ -- ref.go:23 move
      refine Runs_p rfl (Valid.movek (A := Is _) rfl rfl) rfl rfl ?_ -- ref.go:23 move
      refine Runs_p rfl (Valid.call rfl (has_s _ _ (by omega) (by omega)) ⟨argle rfl, argle rfl, trivial⟩) rfl rfl ?_ -- ref.go:23 call
      refine Runs_nil ?_
      refine thenQ_n ?_
      refine W_cond _ rfl (fun hb2 => ?_) (fun hb2 => ?_)
      · try simp only [Int.toNat_natCast] at hb2
        all_goals (
          refine W_regionE (c := 10) (c' := 16) (by kernel_rfl) rfl ?_
          refine Runs_p rfl (Valid.movek (A := Own 32 1 _ _) rfl rfl) rfl rfl ?_ -- ref.go:24 move
          refine Runs_p rfl (Valid.movek (A := Is _) rfl rfl) rfl rfl ?_ -- ref.go:24 move
          refine Runs_p rfl (Valid.convr rfl rfl Try.underlying3 Try.underlying5 (by unfold Room; rw [IntKind.wrap_u8]; omega)) rfl rfl ?_ -- ref.go:24 convert
          refine Runs_p rfl (Valid.lit (el := 5) [_] rfl rfl (fun _ => by kernel_rfl) rfl (by decide)) rfl rfl ?_ -- ref.go:24 buildSlice
          refine Runs_w rfl (Valid.app rfl Try.underlying27 ti5 (by decide) rfl rfl (Reads.sl rfl) (by first | exact one_map (fun _ => rfl) | exact one_cons rfl one_nil | exact one_app (one_map (fun _ => rfl)) (one_cons rfl one_nil) | exact one_app (one_map (fun _ => rfl)) (one_map (fun _ => rfl)) | exact one_rep rfl | exact one_app (one_rep rfl) (one_map (fun _ => rfl)) | (intro u hu; simp at hu; rcases hu with rfl | hu <;> first | rfl | (subst hu; rfl))) (by first | (simp only [maxLen]; omega) | (simp only [maxLen, Int.toNat_natCast, toNat_add, toNat_add1, List.length_append, List.length_cons, List.length_nil, List.length_replicate]; omega)) (by first | omega | (simp only [Int.toNat_natCast, toNat_add, toNat_add1, List.length_append, List.length_cons, List.length_nil, List.length_replicate]; omega))) rfl rfl ?_ -- ref.go:24 call
          refine Runs_p rfl (Valid.assignk (A := Own 112 1 _ _) rfl rfl) rfl rfl ?_ -- ref.go:24 assign
          refine Runs_nil ?_
          refine blockQ_n ?_
          refine thenQ_n ?_
          refine W_regionE (c := 16) (c' := 19) (by kernel_rfl) rfl ?_
          refine Runs_p rfl (Valid.movek (A := Is _) rfl rfl) rfl rfl ?_ -- ref.go:22 move
          refine Runs_p rfl (Valid.add rfl rfl rfl (room64 (by first | omega | (simp only [Int.toNat_natCast, toNat_add, toNat_add1, List.length_append, List.length_cons, List.length_nil, List.length_replicate]; omega)) (by first | omega | (simp only [Int.toNat_natCast, toNat_add, toNat_add1, List.length_append, List.length_cons, List.length_nil, List.length_replicate]; omega)))) rfl rfl ?_ -- ref.go:22 binOp
          refine Runs_p rfl (Valid.assignk (A := Is _) rfl rfl) rfl rfl ?_ -- ref.go:22 assign
          refine Runs_nil ?_
          refine LoopQ.next (k + 1) [(32, 112)] (by omega) (by omega) ⟨⟨(leq_is rfl rfl (by first | rfl | exact alB_c (by omega) (by assumption) | exact alB_l (by assumption) | (rw [alB_n (by assumption)]))), (leq_own rfl rfl rfl (by first | rfl | exact alB_c (by omega) (by assumption) | exact alB_l (by assumption) | (rw [alB_n (by assumption)])) (by first | rfl | exact alB_c (by omega) (by assumption) | exact alB_l (by assumption) | (rw [alB_n (by assumption)]))), trivial⟩, ⟨(leq_is rfl rfl rfl), trivial⟩, ⟨hp_row rfl (by first | rfl | exact alB_c (by omega) (by assumption) | exact alB_l (by assumption) | (rw [alB_n (by assumption)])) (by first | rfl | exact alB_c (by omega) (by assumption) | exact alB_l (by assumption) | (rw [alB_n (by assumption)])), trivial⟩, trivial, rfl, ⟨supg rfl, supg rfl, trivial⟩, ⟨supg rfl, trivial⟩, ⟨suph rfl rfl, trivial⟩, trivial, rfl, rfl⟩
          done)
      · try simp only [Int.toNat_natCast] at hb2
        all_goals (
          refine W_skip ?_
          refine blockQ_n ?_
          refine thenQ_n ?_
          refine W_regionE (c := 10) (c' := 13) (by kernel_rfl) rfl ?_
          refine Runs_p rfl (Valid.movek (A := Is _) rfl rfl) rfl rfl ?_ -- ref.go:22 move
          refine Runs_p rfl (Valid.add rfl rfl rfl (room64 (by first | omega | (simp only [Int.toNat_natCast, toNat_add, toNat_add1, List.length_append, List.length_cons, List.length_nil, List.length_replicate]; omega)) (by first | omega | (simp only [Int.toNat_natCast, toNat_add, toNat_add1, List.length_append, List.length_cons, List.length_nil, List.length_replicate]; omega)))) rfl rfl ?_ -- ref.go:22 binOp
          refine Runs_p rfl (Valid.assignk (A := Is _) rfl rfl) rfl rfl ?_ -- ref.go:22 assign
          refine Runs_nil ?_
          refine LoopQ.next (k + 1) [] (by omega) (by omega) ⟨⟨(leq_is rfl rfl (by first | rfl | exact alB_c (by omega) (by assumption) | exact alB_l (by assumption) | (rw [alB_n (by assumption)]))), (leq_own rfl rfl rfl (by first | rfl | exact alB_c (by omega) (by assumption) | exact alB_l (by assumption) | (rw [alB_n (by assumption)])) (by first | rfl | exact alB_c (by omega) (by assumption) | exact alB_l (by assumption) | (rw [alB_n (by assumption)]))), trivial⟩, ⟨(leq_is rfl rfl rfl), trivial⟩, ⟨hp_row rfl (by first | rfl | exact alB_c (by omega) (by assumption) | exact alB_l (by assumption) | (rw [alB_n (by assumption)])) (by first | rfl | exact alB_c (by omega) (by assumption) | exact alB_l (by assumption) | (rw [alB_n (by assumption)])), trivial⟩, trivial, rfl, ⟨supg rfl, supg rfl, trivial⟩, ⟨supg rfl, trivial⟩, ⟨suph rfl rfl, trivial⟩, trivial, rfl, rfl⟩
          done)
      done)
  · try simp only [decide_eq_false_iff_not] at hb1
    all_goals (
      refine W_exit ?_
      refine thenQ_e ?_
      refine loopQ_e ?_
      refine blockQ_x ?_
      refine thenQ_n ?_
      refine W_seq ?_
      refine W_regionE (c := 7) (c' := 10) (by kernel_rfl) rfl ?_
      refine Runs_p rfl (Valid.movek (A := Own 32 1 _ _) rfl rfl) rfl rfl ?_ -- ref.go:27 move
      refine Runs_p rfl (Valid.tostring rfl Try.underlying27 Try.underlying5 Try.underlying9 (Reads.own rfl)) rfl rfl ?_ -- ref.go:27 convert
      refine Runs_p rfl (Valid.assignk (A := Is _) rfl rfl) rfl rfl ?_ -- ref.go:27 assign
      refine Runs_nil ?_
      refine thenQ_n ?_
      refine W_ret ?_
      refine finQ_r ?_
      refine ResOk.one rfl (RVal.is rfl rfl (by rw [alV, show k = 256 by omega]))
      done)

theorem row_y {h : List Bool} {k i : Nat} (e : h.getD (16 * (k : Int) + (i : Int)).toNat false = true) : (rowB h k i).map bI ++ [Value.int .i64 1] = (rowB h k (i + 1)).map bI ∧ anyR h k (i + 1) = true := by
  rw [show (16 * (k : Int) + (i : Int)).toNat = 16 * k + i by omega] at e
  rw [rowB_s, anyR_s, e, List.map_append, Bool.or_true]
  exact ⟨rfl, rfl⟩
theorem row_n {h : List Bool} {k i : Nat} (e : h.getD (16 * (k : Int) + (i : Int)).toNat false = false) : (rowB h k i).map bI ++ [Value.int .i64 0] = (rowB h k (i + 1)).map bI ∧ anyR h k i = anyR h k (i + 1) := by
  rw [show (16 * (k : Int) + (i : Int)).toNat = 16 * k + i by omega] at e
  rw [rowB_s, anyR_s, e, List.map_append, Bool.or_false]
  exact ⟨rfl, rfl⟩

set_option maxRecDepth 100000 in
set_option maxHeartbeats 1000000 in
theorem row_s (s : ByteArray) (k : Nat) (hs : s.size ≤ 1000000000000) (hk : k < 16) :
    FPure Try.prog 24 [Is (.string s), Is (.int .i64 (k : Int))] (Tup [Sl 1 16 ((rowB (hasV s) k 16).map bI), Is (.bool (anyR (hasV s) k 16))]) := by
  refine FPure.of Try.func24 Try.ntmps24 rfl (by kernel_rfl) rfl rfl rfl ?_
  refine W_seq ?_
  refine W_regionE (c := 1) (c' := 3) (by kernel_rfl) rfl ?_
  refine Runs_p rfl (Valid.assignk (A := Is (.slice none 0 0)) rfl rfl) rfl rfl ?_ -- ref.go:31 assign
  refine Runs_p rfl (Valid.assignk (A := Is _) rfl rfl) rfl rfl ?_ -- ref.go:31 assign
  refine Runs_nil ?_
  refine thenQ_n ?_
  refine W_seq ?_
  refine W_regionE (c := 3) (c' := 4) (by kernel_rfl) rfl ?_
  refine Runs_p rfl (Valid.assignk (A := Is (.slice none 0 0)) rfl rfl) rfl rfl ?_ -- ref.go:32 assign
  refine Runs_nil ?_
  refine thenQ_n ?_
  refine W_seq ?_
  refine W_regionE (c := 4) (c' := 5) (by kernel_rfl) rfl ?_
  refine Runs_p rfl (Valid.assignk (A := Is _) rfl rfl) rfl rfl ?_ -- ref.go:33 assign
  refine Runs_nil ?_
  refine thenQ_n ?_
  refine W_seq ?_
  refine W_seq ?_
  refine W_regionE (c := 5) (c' := 8) (by kernel_rfl) rfl ?_
  refine Runs_p rfl (Valid.movek (A := Is _) rfl rfl) rfl rfl ?_ -- ref.go:34 move
  refine Runs_p rfl (Valid.mul rfl rfl rfl (room64 (by first | omega | (simp only [Int.toNat_natCast, toNat_add, toNat_add1, List.length_append, List.length_cons, List.length_nil, List.length_replicate]; omega)) (by first | omega | (simp only [Int.toNat_natCast, toNat_add, toNat_add1, List.length_append, List.length_cons, List.length_nil, List.length_replicate]; omega)))) rfl rfl ?_ -- ref.go:34 binOp
  refine Runs_p rfl (Valid.assignk (A := Is _) rfl rfl) rfl rfl ?_ -- ref.go:34 assign
  refine Runs_nil ?_
  refine thenQ_n ?_
  refine W_block ?_
  refine W.ent ?_ (Ent.ownnil 6 3 1 rfl)
  refine W_loopx (G := Nat) (fun (i : Nat) => i ≤ 16) [(0, Is _), (1, Is _)] (fun (i : Nat) => [(8, Is (.int .i64 (16 * (k : Int) + (i : Int)))), (6, Own 64 1 i ((rowB (hasV s) k i).map bI)), (7, Is (.bool (anyR (hasV s) k i)))]) [] (fun (i : Nat) => [(64, .row 3 1 i ((rowB (hasV s) k i).map bI))]) 9 (fun (i : Nat) => 16 - i) (0) [] (by first | trivial | omega | (simp; omega)) ⟨⟨(leq_is rfl rfl (by first | rfl | exact congrArg (Value.int .i64) (by omega))), (leq_own rfl rfl rfl (by first | rfl | exact congrArg (Value.int .i64) (by omega)) (by first | rfl | exact congrArg (Value.int .i64) (by omega))), (leq_is rfl rfl (by first | rfl | exact congrArg (Value.int .i64) (by omega))), trivial⟩, ⟨(leq_is rfl rfl rfl), (leq_is rfl rfl rfl), trivial⟩, ⟨hp_row rfl (by first | rfl | exact congrArg (Value.int .i64) (by omega)) (by first | rfl | exact congrArg (Value.int .i64) (by omega)), trivial⟩, trivial, rfl, ⟨supg rfl, supg rfl, supg rfl, trivial⟩, ⟨supg rfl, supg rfl, trivial⟩, ⟨suph rfl rfl, trivial⟩, trivial, rfl, rfl⟩ ?_
  intro i hI1
  refine W_seq ?_
  refine W_seq ?_
  refine W_regionE (c := 9) (c' := 14) (by kernel_rfl) rfl ?_
  refine Runs_p rfl (Valid.movek (A := Is _) rfl rfl) rfl rfl ?_ -- ref.go:34 move
  refine Runs_p rfl (Valid.movek (A := Is _) rfl rfl) rfl rfl ?_ -- ref.go:34 move
  refine Runs_p rfl (Valid.mul rfl rfl rfl (room64 (by first | omega | (simp only [Int.toNat_natCast, toNat_add, toNat_add1, List.length_append, List.length_cons, List.length_nil, List.length_replicate]; omega)) (by first | omega | (simp only [Int.toNat_natCast, toNat_add, toNat_add1, List.length_append, List.length_cons, List.length_nil, List.length_replicate]; omega)))) rfl rfl ?_ -- ref.go:34 binOp
  refine Runs_p rfl (Valid.add rfl rfl rfl (room64 (by first | omega | (simp only [Int.toNat_natCast, toNat_add, toNat_add1, List.length_append, List.length_cons, List.length_nil, List.length_replicate]; omega)) (by first | omega | (simp only [Int.toNat_natCast, toNat_add, toNat_add1, List.length_append, List.length_cons, List.length_nil, List.length_replicate]; omega)))) rfl rfl ?_ -- ref.go:34 binOp
  refine Runs_p rfl (Valid.lss rfl rfl rfl) rfl rfl ?_ -- ref.go:34 binOp
  refine Runs_nil ?_
  refine thenQ_n ?_
  refine W_cond _ rfl (fun hb1 => ?_) (fun hb1 => ?_)
  · try simp only [decide_eq_true_eq] at hb1
    all_goals (
      refine W_skip ?_
      refine thenQ_n ?_
      refine W_seq ?_
      refine W_block ?_
      refine W_seq ?_
      refine W_regionE (c := 14) (c' := 15) (by kernel_rfl) rfl ?_
      refine Runs_p rfl (Valid.assignk (A := Is _) rfl rfl) rfl rfl ?_ -- ref.go:35 assign
      refine Runs_nil ?_
      refine thenQ_n ?_
      refine W_seq ?_
      refine W_seq ?_
      refine W_regionE (c := 15) (c' := 18) (by kernel_rfl) rfl ?_
      refine Runs_p rfl (Valid.movek (A := Is _) rfl rfl) rfl rfl ?_ -- ref.go:36 move
      refine Runs_p rfl (Valid.movek (A := Is _) rfl rfl) rfl rfl ?_ -- ref.go:36 move
      refine Runs_p rfl (Valid.call rfl (has_s _ _ (by omega) (by omega)) ⟨argle rfl, argle rfl, trivial⟩) rfl rfl ?_ -- ref.go:36 call
      refine Runs_nil ?_
      refine thenQ_n ?_
      refine W_cond _ rfl (fun hb2 => ?_) (fun hb2 => ?_)
      · try simp only [Int.toNat_natCast, toNat_add, toNat_add1, decide_eq_true_eq, decide_eq_false_iff_not, Bool.and_eq_true, Bool.or_eq_true, Bool.and_eq_false_iff, Bool.or_eq_false_iff, Bool.not_eq_true', Bool.not_eq_false', Bool.true_eq_false, Bool.false_eq_true, not_true_eq_false, not_false_eq_true, ne_eq] at hb2
        all_goals (
          refine W_seq ?_
          refine W_regionE (c := 18) (c' := 19) (by kernel_rfl) rfl ?_
          refine Runs_p rfl (Valid.assignk (A := Is _) rfl rfl) rfl rfl ?_ -- ref.go:37 assign
          refine Runs_nil ?_
          refine thenQ_n ?_
          refine W_regionE (c := 19) (c' := 20) (by kernel_rfl) rfl ?_
          refine Runs_p rfl (Valid.assignk (A := Is _) rfl rfl) rfl rfl ?_ -- ref.go:38 assign
          refine Runs_nil ?_
          refine thenQ_n ?_
          refine W_regionE (c := 20) (c' := 25) (by kernel_rfl) rfl ?_
          refine Runs_p rfl (Valid.movek (A := Own 64 1 _ _) rfl rfl) rfl rfl ?_ -- ref.go:40 move
          refine Runs_p rfl (Valid.movek (A := Is _) rfl rfl) rfl rfl ?_ -- ref.go:40 move
          refine Runs_p rfl (Valid.lit (el := 3) [_] rfl rfl (fun _ => by kernel_rfl) rfl (by decide)) rfl rfl ?_ -- ref.go:40 buildSlice
          refine Runs_w rfl (Valid.app rfl Try.underlying30 ti3 (by decide) rfl rfl (Reads.sl rfl) (by first | exact one_map (fun _ => rfl) | exact one_cons rfl one_nil | exact one_app (one_map (fun _ => rfl)) (one_cons rfl one_nil) | exact one_app (one_map (fun _ => rfl)) (one_map (fun _ => rfl)) | exact one_rep rfl | exact one_app (one_rep rfl) (one_map (fun _ => rfl)) | (intro u hu; simp at hu; rcases hu with rfl | hu <;> first | rfl | (subst hu; rfl))) (by first | (simp only [maxLen]; omega) | (simp only [maxLen, Int.toNat_natCast, toNat_add, toNat_add1, List.length_append, List.length_cons, List.length_nil, List.length_replicate]; omega)) (by first | omega | (simp only [Int.toNat_natCast, toNat_add, toNat_add1, List.length_append, List.length_cons, List.length_nil, List.length_replicate]; omega))) rfl rfl ?_ -- ref.go:40 call
          refine Runs_p rfl (Valid.assignk (A := Own 184 1 _ _) rfl rfl) rfl rfl ?_ -- ref.go:40 assign
          refine Runs_nil ?_
          refine blockQ_n ?_
          refine thenQ_n ?_
          refine W_regionE (c := 25) (c' := 28) (by kernel_rfl) rfl ?_
          refine Runs_p rfl (Valid.movek (A := Is _) rfl rfl) rfl rfl ?_ -- ref.go:34 move
          refine Runs_p rfl (Valid.add rfl rfl rfl (room64 (by first | omega | (simp only [Int.toNat_natCast, toNat_add, toNat_add1, List.length_append, List.length_cons, List.length_nil, List.length_replicate]; omega)) (by first | omega | (simp only [Int.toNat_natCast, toNat_add, toNat_add1, List.length_append, List.length_cons, List.length_nil, List.length_replicate]; omega)))) rfl rfl ?_ -- ref.go:34 binOp
          refine Runs_p rfl (Valid.assignk (A := Is _) rfl rfl) rfl rfl ?_ -- ref.go:34 assign
          refine Runs_nil ?_
          refine LoopQ.next (i + 1) [(64, 184)] (by omega) (by omega) ⟨⟨(leq_is rfl rfl (by first | rfl | exact (row_y (by assumption)).1 | exact (row_n (by assumption)).1 | exact congrArg Value.bool (row_y (by assumption)).2.symm | exact congrArg Value.bool (row_n (by assumption)).2 | exact congrArg (Value.int .i64) (by omega))), (leq_own rfl rfl rfl (by first | rfl | exact (row_y (by assumption)).1 | exact (row_n (by assumption)).1 | exact congrArg Value.bool (row_y (by assumption)).2.symm | exact congrArg Value.bool (row_n (by assumption)).2 | exact congrArg (Value.int .i64) (by omega)) (by first | rfl | exact (row_y (by assumption)).1 | exact (row_n (by assumption)).1 | exact congrArg Value.bool (row_y (by assumption)).2.symm | exact congrArg Value.bool (row_n (by assumption)).2 | exact congrArg (Value.int .i64) (by omega))), (leq_is rfl rfl (by first | rfl | exact (row_y (by assumption)).1 | exact (row_n (by assumption)).1 | exact congrArg Value.bool (row_y (by assumption)).2.symm | exact congrArg Value.bool (row_n (by assumption)).2 | exact congrArg (Value.int .i64) (by omega))), trivial⟩, ⟨(leq_is rfl rfl rfl), (leq_is rfl rfl rfl), trivial⟩, ⟨hp_row rfl (by first | rfl | exact (row_y (by assumption)).1 | exact (row_n (by assumption)).1 | exact congrArg Value.bool (row_y (by assumption)).2.symm | exact congrArg Value.bool (row_n (by assumption)).2 | exact congrArg (Value.int .i64) (by omega)) (by first | rfl | exact (row_y (by assumption)).1 | exact (row_n (by assumption)).1 | exact congrArg Value.bool (row_y (by assumption)).2.symm | exact congrArg Value.bool (row_n (by assumption)).2 | exact congrArg (Value.int .i64) (by omega)), trivial⟩, trivial, rfl, ⟨supg rfl, supg rfl, supg rfl, trivial⟩, ⟨supg rfl, supg rfl, trivial⟩, ⟨suph rfl rfl, trivial⟩, trivial, rfl, rfl⟩
          done)
      · try simp only [Int.toNat_natCast, toNat_add, toNat_add1, decide_eq_true_eq, decide_eq_false_iff_not, Bool.and_eq_true, Bool.or_eq_true, Bool.and_eq_false_iff, Bool.or_eq_false_iff, Bool.not_eq_true', Bool.not_eq_false', Bool.true_eq_false, Bool.false_eq_true, not_true_eq_false, not_false_eq_true, ne_eq] at hb2
        all_goals (
          refine W_skip ?_
          refine thenQ_n ?_
          refine W_regionE (c := 18) (c' := 23) (by kernel_rfl) rfl ?_
          refine Runs_p rfl (Valid.movek (A := Own 64 1 _ _) rfl rfl) rfl rfl ?_ -- ref.go:40 move
          refine Runs_p rfl (Valid.movek (A := Is _) rfl rfl) rfl rfl ?_ -- ref.go:40 move
          refine Runs_p rfl (Valid.lit (el := 3) [_] rfl rfl (fun _ => by kernel_rfl) rfl (by decide)) rfl rfl ?_ -- ref.go:40 buildSlice
          refine Runs_w rfl (Valid.app rfl Try.underlying30 ti3 (by decide) rfl rfl (Reads.sl rfl) (by first | exact one_map (fun _ => rfl) | exact one_cons rfl one_nil | exact one_app (one_map (fun _ => rfl)) (one_cons rfl one_nil) | exact one_app (one_map (fun _ => rfl)) (one_map (fun _ => rfl)) | exact one_rep rfl | exact one_app (one_rep rfl) (one_map (fun _ => rfl)) | (intro u hu; simp at hu; rcases hu with rfl | hu <;> first | rfl | (subst hu; rfl))) (by first | (simp only [maxLen]; omega) | (simp only [maxLen, Int.toNat_natCast, toNat_add, toNat_add1, List.length_append, List.length_cons, List.length_nil, List.length_replicate]; omega)) (by first | omega | (simp only [Int.toNat_natCast, toNat_add, toNat_add1, List.length_append, List.length_cons, List.length_nil, List.length_replicate]; omega))) rfl rfl ?_ -- ref.go:40 call
          refine Runs_p rfl (Valid.assignk (A := Own 168 1 _ _) rfl rfl) rfl rfl ?_ -- ref.go:40 assign
          refine Runs_nil ?_
          refine blockQ_n ?_
          refine thenQ_n ?_
          refine W_regionE (c := 23) (c' := 26) (by kernel_rfl) rfl ?_
          refine Runs_p rfl (Valid.movek (A := Is _) rfl rfl) rfl rfl ?_ -- ref.go:34 move
          refine Runs_p rfl (Valid.add rfl rfl rfl (room64 (by first | omega | (simp only [Int.toNat_natCast, toNat_add, toNat_add1, List.length_append, List.length_cons, List.length_nil, List.length_replicate]; omega)) (by first | omega | (simp only [Int.toNat_natCast, toNat_add, toNat_add1, List.length_append, List.length_cons, List.length_nil, List.length_replicate]; omega)))) rfl rfl ?_ -- ref.go:34 binOp
          refine Runs_p rfl (Valid.assignk (A := Is _) rfl rfl) rfl rfl ?_ -- ref.go:34 assign
          refine Runs_nil ?_
          refine LoopQ.next (i + 1) [(64, 168)] (by omega) (by omega) ⟨⟨(leq_is rfl rfl (by first | rfl | exact (row_y (by assumption)).1 | exact (row_n (by assumption)).1 | exact congrArg Value.bool (row_y (by assumption)).2.symm | exact congrArg Value.bool (row_n (by assumption)).2 | exact congrArg (Value.int .i64) (by omega))), (leq_own rfl rfl rfl (by first | rfl | exact (row_y (by assumption)).1 | exact (row_n (by assumption)).1 | exact congrArg Value.bool (row_y (by assumption)).2.symm | exact congrArg Value.bool (row_n (by assumption)).2 | exact congrArg (Value.int .i64) (by omega)) (by first | rfl | exact (row_y (by assumption)).1 | exact (row_n (by assumption)).1 | exact congrArg Value.bool (row_y (by assumption)).2.symm | exact congrArg Value.bool (row_n (by assumption)).2 | exact congrArg (Value.int .i64) (by omega))), (leq_is rfl rfl (by first | rfl | exact (row_y (by assumption)).1 | exact (row_n (by assumption)).1 | exact congrArg Value.bool (row_y (by assumption)).2.symm | exact congrArg Value.bool (row_n (by assumption)).2 | exact congrArg (Value.int .i64) (by omega))), trivial⟩, ⟨(leq_is rfl rfl rfl), (leq_is rfl rfl rfl), trivial⟩, ⟨hp_row rfl (by first | rfl | exact (row_y (by assumption)).1 | exact (row_n (by assumption)).1 | exact congrArg Value.bool (row_y (by assumption)).2.symm | exact congrArg Value.bool (row_n (by assumption)).2 | exact congrArg (Value.int .i64) (by omega)) (by first | rfl | exact (row_y (by assumption)).1 | exact (row_n (by assumption)).1 | exact congrArg Value.bool (row_y (by assumption)).2.symm | exact congrArg Value.bool (row_n (by assumption)).2 | exact congrArg (Value.int .i64) (by omega)), trivial⟩, trivial, rfl, ⟨supg rfl, supg rfl, supg rfl, trivial⟩, ⟨supg rfl, supg rfl, trivial⟩, ⟨suph rfl rfl, trivial⟩, trivial, rfl, rfl⟩
          done)
      done)
  · try simp only [decide_eq_false_iff_not] at hb1
    all_goals (
      refine W_exit ?_
      refine thenQ_e ?_
      refine loopQ_e ?_
      refine blockQ_x ?_
      refine thenQ_n ?_
      refine W_seq ?_
      refine W_regionE (c := 14) (c' := 18) (by kernel_rfl) rfl ?_
      refine Runs_p rfl (Valid.movek (A := Own 64 1 _ _) rfl rfl) rfl rfl ?_ -- ref.go:42 move
      refine Runs_p rfl (Valid.movek (A := Is _) rfl rfl) rfl rfl ?_ -- ref.go:42 move
      refine Runs_p rfl (Valid.assignk (A := Own 64 1 _ _) rfl rfl) rfl rfl ?_ -- ref.go:42 assign
      refine Runs_p rfl (Valid.assignk (A := Is _) rfl rfl) rfl rfl ?_ -- ref.go:42 assign
      refine Runs_nil ?_
      refine thenQ_n ?_
      refine W_ret ?_
      refine finQ_r ?_
      refine ResOk.two rfl (RVal.sl (Reads.own rfl) rfl (by omega) (by rw [show i = 16 by omega])) (RVal.is rfl rfl (by rw [show i = 16 by omega]))
      done)

theorem num_0 (n : Nat) : num 0 n = List.replicate n false := by
  apply List.ext_getElem?
  intro i
  by_cases h : i < n
  · rw [num_get 0 n i h, List.getElem?_replicate, if_pos h, Nat.zero_testBit]
  · rw [List.getElem?_eq_none (by rw [num_len]; omega), List.getElem?_replicate, if_neg h]
theorem val_zero (l : List Bool) : val l = 0 ↔ l.any id = false := by
  constructor
  · intro h
    have h1 := num_val l
    rw [h, num_0] at h1
    rw [← h1, List.any_eq_false]
    intro x hx
    rw [(List.mem_replicate.1 hx).2]; decide
  · intro h
    have h1 : l = num 0 l.length := by
      rw [num_0]
      exact List.eq_replicate_iff.2 ⟨rfl, fun x hx => by
        have := (List.any_eq_false.1 h) x hx
        simpa using this⟩
    rw [h1, val_num, Nat.zero_mod]
def firB (h : List Bool) (k : Nat) : List Bool := (List.range k).map fun j => anyR h j 16
def resB (h : List Bool) : Nat → List Bool
  | 0 => []
  | k + 1 => if anyR h k 16 = true then resB h k ++ rowB h k 16 else resB h k
  termination_by k => k
theorem resB_0 (h : List Bool) : resB h 0 = [] := by rw [resB]
theorem resB_le (h : List Bool) : ∀ k, (resB h k).length ≤ 16 * k
  | 0 => by rw [resB]; exact Nat.le_refl _
  | k + 1 => by
    have := resB_le h k
    rw [resB]; split
    · rw [List.length_append, rowB_len]; omega
    · omega
theorem firB_len (h : List Bool) (k : Nat) : (firB h k).length = k := by simp [firB]
theorem fir_y {h : List Bool} {k : Nat} (e : anyR h k 16 = true) : (firB h k).map bI ++ [Value.int .i64 1] = (firB h (k + 1)).map bI := by
  unfold firB; rw [List.range_succ, List.map_append, List.map_append, List.map_cons, e]; rfl
theorem fir_n {h : List Bool} {k : Nat} (e : anyR h k 16 = false) : (firB h k).map bI ++ [Value.int .i64 0] = (firB h (k + 1)).map bI := by
  unfold firB; rw [List.range_succ, List.map_append, List.map_append, List.map_cons, e]; rfl
theorem res_y {h : List Bool} {k : Nat} (e : anyR h k 16 = true) : (resB h k).map bI ++ (rowB h k 16).map bI = (resB h (k + 1)).map bI := by rw [resB, if_pos e, List.map_append]
theorem res_yl {h : List Bool} {k : Nat} (e : anyR h k 16 = true) : (resB h k).length + 16 = (resB h (k + 1)).length := by rw [resB, if_pos e, List.length_append, rowB_len]
theorem res_n {h : List Bool} {k : Nat} (e : anyR h k 16 = false) : resB h k = resB h (k + 1) := by rw [resB, if_neg (by rw [e]; decide)]
theorem lay_eq (h : List Bool) : ∀ k, k ≤ 16 → layB h k = firB h 16 ++ resB h k
  | 0, _ => by
    have e : frB h 256 = firB h 16 := by
      unfold frB firB
      apply List.map_congr_left
      intro k hk
      have := List.mem_range.1 hk
      rw [show inR 256 k = 16 by unfold inR; omega]
    have h1 := num_val (frB h 256)
    rw [frB_len] at h1
    rw [layB, resB_0, List.append_nil, fr_eq h 256 (by omega), h1, e]
  | k + 1, hk => by
    have ih := lay_eq h k (by omega)
    have hp := parts_at h 256 k (by omega) (by omega)
    rw [show inR 256 k = 16 by unfold inR; omega] at hp
    have hz := val_zero (rowB h k 16)
    have h1 := num_val (rowB h k 16)
    rw [rowB_len] at h1
    rw [layB, resB, ih, hp, Int.toNat_natCast, h1]
    by_cases e : anyR h k 16 = true
    · rw [if_pos e, if_neg (fun h2 => by
        have h3 := hz.1 (by omega)
        unfold anyR at e
        rw [h3] at e; cases e), List.append_assoc]
    · have e2 : anyR h k 16 = false := by simpa using e
      rw [if_neg e, if_pos (by have h3 := hz.2 e2; omega)]
theorem map_eq (s : ByteArray) : mapB s = firB (hasV s) 16 ++ resB (hasV s) 16 := lay_eq _ 16 (Nat.le_refl _)

set_option maxRecDepth 100000 in
set_option maxHeartbeats 1000000 in
theorem rmap_s (s : ByteArray) (hs : s.size ≤ 1000000000000) :
    FPure Try.prog 12 [Is (.string s)] (Agg [Is (.string (pack (mapB s))), Is (.int .i64 ((mapB s).length : Int))]) := by
  refine FPure.of Try.func12 Try.ntmps12 rfl (by kernel_rfl) rfl rfl rfl ?_
  refine W_seq ?_
  refine W_regionE (c := 1) (c' := 2) (by kernel_rfl) rfl ?_
  refine Runs_w rfl (Valid.alloc [(Value.string ⟨#[]⟩), (Value.int .i64 0)] rfl zv25 rfl) rfl rfl ?_ -- ref.go:46 alloc
  refine Runs_nil ?_
  refine thenQ_n ?_
  refine W_seq ?_
  refine W_regionE (c := 2) (c' := 3) (by kernel_rfl) rfl ?_
  refine Runs_p rfl (Valid.assignk (A := Is (.slice none 0 0)) rfl rfl) rfl rfl ?_ -- ref.go:47 assign
  refine Runs_nil ?_
  refine thenQ_n ?_
  refine W_seq ?_
  refine W_regionE (c := 3) (c' := 4) (by kernel_rfl) rfl ?_
  refine Runs_p rfl (Valid.assignk (A := Is (.slice none 0 0)) rfl rfl) rfl rfl ?_ -- ref.go:48 assign
  refine Runs_nil ?_
  refine thenQ_n ?_
  refine W_seq ?_
  refine W_seq ?_
  refine W_regionE (c := 4) (c' := 5) (by kernel_rfl) rfl ?_
  refine Runs_p rfl (Valid.assignk (A := Is _) rfl rfl) rfl rfl ?_ -- ref.go:49 assign
  refine Runs_nil ?_
  refine thenQ_n ?_
  refine W_block ?_
  refine W.ent ?_ (Ent.ownnil 3 3 1 rfl)
  refine W.ent ?_ (Ent.ownnil 4 3 1 rfl)
  refine W_loopx (G := Nat) (fun (k : Nat) => k ≤ 16) [(0, Is _), (2, Ptr 8 0)] (fun (k : Nat) => [(5, Is (.int .i64 (k : Int))), (3, Own 40 1 k ((firB (hasV s) k).map bI)), (4, Own 48 1 (resB (hasV s) k).length ((resB (hasV s) k).map bI))]) [(8, .var 25 [Is _, Is _])] (fun (k : Nat) => [(40, .row 3 1 k ((firB (hasV s) k).map bI)), (48, .row 3 1 (resB (hasV s) k).length ((resB (hasV s) k).map bI))]) 7 (fun (k : Nat) => 16 - k) (0) [] (by first | trivial | omega | (simp; omega)) ⟨⟨(leq_is rfl rfl (by first | rfl | (rw [resB_0]; rfl))), (leq_own rfl rfl rfl (by first | rfl | (rw [resB_0]; rfl)) (by first | rfl | (rw [resB_0]; rfl))), (leq_own rfl rfl rfl (by first | rfl | (rw [resB_0]; rfl)) (by first | rfl | (rw [resB_0]; rfl))), trivial⟩, ⟨(leq_is rfl rfl rfl), (leq_ptr rfl rfl rfl), trivial⟩, ⟨hp_row rfl (by first | rfl | (rw [resB_0]; rfl)) (by first | rfl | (rw [resB_0]; rfl)), hp_row rfl (by first | rfl | (rw [resB_0]; rfl)) (by first | rfl | (rw [resB_0]; rfl)), trivial⟩, ⟨hp_var rfl ⟨(leq_is rfl rfl rfl), (leq_is rfl rfl rfl), trivial⟩, trivial⟩, rfl, ⟨supg rfl, supg rfl, supg rfl, trivial⟩, ⟨supg rfl, supg rfl, trivial⟩, ⟨suph rfl rfl, suph rfl rfl, trivial⟩, ⟨suph rfl rfl, trivial⟩, rfl, rfl⟩ ?_
  intro k hI1
  have hrl := resB_le (hasV s) k
  have hfl := firB_len (hasV s) k
  refine W_seq ?_
  refine W_seq ?_
  refine W_regionE (c := 7) (c' := 9) (by kernel_rfl) rfl ?_
  refine Runs_p rfl (Valid.movek (A := Is _) rfl rfl) rfl rfl ?_ -- ref.go:49 move
  refine Runs_p rfl (Valid.lss rfl rfl rfl) rfl rfl ?_ -- ref.go:49 binOp
  refine Runs_nil ?_
  refine thenQ_n ?_
  refine W_cond _ rfl (fun hb1 => ?_) (fun hb1 => ?_)
  · try simp only [decide_eq_true_eq] at hb1
    all_goals (
      refine W_skip ?_
      refine thenQ_n ?_
      refine W_seq ?_
      refine W_block ?_
      refine W_seq ?_
      refine W_regionE (c := 9) (c' := 17) (by kernel_rfl) rfl ?_
      refine Runs_p rfl (Valid.movek (A := Is _) rfl rfl) rfl rfl ?_ -- ref.go:50 move
      refine Runs_p rfl (Valid.movek (A := Is _) rfl rfl) rfl rfl ?_ -- ref.go:50 move
      refine Runs_p rfl (Valid.call rfl (row_s _ _ (by omega) (by omega)) ⟨argle rfl, argle rfl, trivial⟩) rfl rfl ?_ -- ref.go:50 call
      refine Runs_p rfl (Valid.movek (A := Tup [Sl 1 _ _, Is _]) rfl rfl) rfl rfl ?_ -- ref.go:50 move
      refine Runs_p rfl (Valid.extract _ rfl rfl rfl) rfl rfl ?_ -- ref.go:50 extract
      refine Runs_p rfl (Valid.extract _ rfl rfl rfl) rfl rfl ?_ -- ref.go:50 extract
      refine Runs_p rfl (Valid.assignk (A := Sl 1 _ _) rfl rfl) rfl rfl ?_ -- ref.go:50 assign
      refine Runs_p rfl (Valid.assignk (A := Is _) rfl rfl) rfl rfl ?_ -- ref.go:50 assign
      refine Runs_nil ?_
      refine thenQ_n ?_
      refine W_seq ?_
      refine W_regionE (c := 17) (c' := 18) (by kernel_rfl) rfl ?_
      refine Runs_p rfl (Valid.movek (A := Is _) rfl rfl) rfl rfl ?_ -- ref.go:51 move
      refine Runs_nil ?_
      refine thenQ_n ?_
      refine W_cond _ rfl (fun hb2 => ?_) (fun hb2 => ?_)
      · try simp only [Int.toNat_natCast, toNat_add, toNat_add1, decide_eq_true_eq, decide_eq_false_iff_not, Bool.and_eq_true, Bool.or_eq_true, Bool.and_eq_false_iff, Bool.or_eq_false_iff, Bool.not_eq_true', Bool.not_eq_false', Bool.true_eq_false, Bool.false_eq_true, not_true_eq_false, not_false_eq_true, ne_eq] at hb2
        all_goals (
          refine W_seq ?_
          refine W_regionE (c := 18) (c' := 22) (by kernel_rfl) rfl ?_
          refine Runs_p rfl (Valid.movek (A := Own 40 1 _ _) rfl rfl) rfl rfl ?_ -- ref.go:52 move
          refine Runs_p rfl (Valid.lit (el := 3) [_] rfl rfl (fun _ => by kernel_rfl) rfl (by decide)) rfl rfl ?_ -- ref.go:52 buildSlice
          refine Runs_w rfl (Valid.app rfl Try.underlying30 ti3 (by decide) rfl rfl (Reads.sl rfl) (by first | exact one_map (fun _ => rfl) | exact one_cons rfl one_nil | exact one_app (one_map (fun _ => rfl)) (one_cons rfl one_nil) | exact one_app (one_map (fun _ => rfl)) (one_map (fun _ => rfl)) | exact one_rep rfl | exact one_app (one_rep rfl) (one_map (fun _ => rfl)) | (intro u hu; simp at hu; rcases hu with rfl | hu <;> first | rfl | (subst hu; rfl))) (by first | (simp only [maxLen]; omega) | (simp only [maxLen, Int.toNat_natCast, toNat_add, toNat_add1, List.length_append, List.length_cons, List.length_nil, List.length_replicate]; omega)) (by first | omega | (simp only [Int.toNat_natCast, toNat_add, toNat_add1, List.length_append, List.length_cons, List.length_nil, List.length_replicate]; omega))) rfl rfl ?_ -- ref.go:52 call
          refine Runs_p rfl (Valid.assignk (A := Own 160 1 _ _) rfl rfl) rfl rfl ?_ -- ref.go:52 assign
          refine Runs_nil ?_
          refine thenQ_n ?_
          refine W_regionE (c := 22) (c' := 26) (by kernel_rfl) rfl ?_
          refine Runs_p rfl (Valid.movek (A := Own 48 1 _ _) rfl rfl) rfl rfl ?_ -- ref.go:53 move
          refine Runs_p rfl (Valid.movek (A := Sl 1 _ _) rfl rfl) rfl rfl ?_ -- ref.go:53 move
          refine Runs_w rfl (Valid.app rfl Try.underlying30 ti3 (by decide) rfl rfl (Reads.sl rfl) (by first | exact one_map (fun _ => rfl) | exact one_cons rfl one_nil | exact one_app (one_map (fun _ => rfl)) (one_cons rfl one_nil) | exact one_app (one_map (fun _ => rfl)) (one_map (fun _ => rfl)) | exact one_rep rfl | exact one_app (one_rep rfl) (one_map (fun _ => rfl)) | (intro u hu; simp at hu; rcases hu with rfl | hu <;> first | rfl | (subst hu; rfl))) (by first | (simp only [maxLen]; omega) | (simp only [maxLen, Int.toNat_natCast, toNat_add, toNat_add1, List.length_append, List.length_cons, List.length_nil, List.length_replicate]; omega)) (by first | omega | (simp only [Int.toNat_natCast, toNat_add, toNat_add1, List.length_append, List.length_cons, List.length_nil, List.length_replicate]; omega))) rfl rfl ?_ -- ref.go:53 call
          refine Runs_p rfl (Valid.assignk (A := Own 192 1 _ _) rfl rfl) rfl rfl ?_ -- ref.go:53 assign
          refine Runs_nil ?_
          refine blockQ_n ?_
          refine thenQ_n ?_
          refine W_regionE (c := 26) (c' := 29) (by kernel_rfl) rfl ?_
          refine Runs_p rfl (Valid.movek (A := Is _) rfl rfl) rfl rfl ?_ -- ref.go:49 move
          refine Runs_p rfl (Valid.add rfl rfl rfl (room64 (by first | omega | (simp only [Int.toNat_natCast, toNat_add, toNat_add1, List.length_append, List.length_cons, List.length_nil, List.length_replicate]; omega)) (by first | omega | (simp only [Int.toNat_natCast, toNat_add, toNat_add1, List.length_append, List.length_cons, List.length_nil, List.length_replicate]; omega)))) rfl rfl ?_ -- ref.go:49 binOp
          refine Runs_p rfl (Valid.assignk (A := Is _) rfl rfl) rfl rfl ?_ -- ref.go:49 assign
          refine Runs_nil ?_
          refine LoopQ.next (k + 1) [(40, 160), (48, 192)] (by omega) (by omega) ⟨⟨(leq_is rfl rfl (by first | rfl | exact fir_y (by assumption) | exact fir_n (by assumption) | exact res_y (by assumption) | exact res_yl (by assumption) | (rw [← res_n (by assumption)]))), (leq_own rfl rfl rfl (by first | rfl | exact fir_y (by assumption) | exact fir_n (by assumption) | exact res_y (by assumption) | exact res_yl (by assumption) | (rw [← res_n (by assumption)])) (by first | rfl | exact fir_y (by assumption) | exact fir_n (by assumption) | exact res_y (by assumption) | exact res_yl (by assumption) | (rw [← res_n (by assumption)]))), (leq_own rfl rfl rfl (by first | rfl | exact fir_y (by assumption) | exact fir_n (by assumption) | exact res_y (by assumption) | exact res_yl (by assumption) | (rw [← res_n (by assumption)])) (by first | rfl | exact fir_y (by assumption) | exact fir_n (by assumption) | exact res_y (by assumption) | exact res_yl (by assumption) | (rw [← res_n (by assumption)]))), trivial⟩, ⟨(leq_is rfl rfl rfl), (leq_ptr rfl rfl rfl), trivial⟩, ⟨hp_row rfl (by first | rfl | exact fir_y (by assumption) | exact fir_n (by assumption) | exact res_y (by assumption) | exact res_yl (by assumption) | (rw [← res_n (by assumption)])) (by first | rfl | exact fir_y (by assumption) | exact fir_n (by assumption) | exact res_y (by assumption) | exact res_yl (by assumption) | (rw [← res_n (by assumption)])), hp_row rfl (by first | rfl | exact fir_y (by assumption) | exact fir_n (by assumption) | exact res_y (by assumption) | exact res_yl (by assumption) | (rw [← res_n (by assumption)])) (by first | rfl | exact fir_y (by assumption) | exact fir_n (by assumption) | exact res_y (by assumption) | exact res_yl (by assumption) | (rw [← res_n (by assumption)])), trivial⟩, ⟨hp_var rfl ⟨(leq_is rfl rfl rfl), (leq_is rfl rfl rfl), trivial⟩, trivial⟩, rfl, ⟨supg rfl, supg rfl, supg rfl, trivial⟩, ⟨supg rfl, supg rfl, trivial⟩, ⟨suph rfl rfl, suph rfl rfl, trivial⟩, ⟨suph rfl rfl, trivial⟩, rfl, rfl⟩
          done)
      · try simp only [Int.toNat_natCast, toNat_add, toNat_add1, decide_eq_true_eq, decide_eq_false_iff_not, Bool.and_eq_true, Bool.or_eq_true, Bool.and_eq_false_iff, Bool.or_eq_false_iff, Bool.not_eq_true', Bool.not_eq_false', Bool.true_eq_false, Bool.false_eq_true, not_true_eq_false, not_false_eq_true, ne_eq] at hb2
        all_goals (
          refine W_regionE (c := 18) (c' := 22) (by kernel_rfl) rfl ?_
          refine Runs_p rfl (Valid.movek (A := Own 40 1 _ _) rfl rfl) rfl rfl ?_ -- ref.go:55 move
          refine Runs_p rfl (Valid.lit (el := 3) [_] rfl rfl (fun _ => by kernel_rfl) rfl (by decide)) rfl rfl ?_ -- ref.go:55 buildSlice
          refine Runs_w rfl (Valid.app rfl Try.underlying30 ti3 (by decide) rfl rfl (Reads.sl rfl) (by first | exact one_map (fun _ => rfl) | exact one_cons rfl one_nil | exact one_app (one_map (fun _ => rfl)) (one_cons rfl one_nil) | exact one_app (one_map (fun _ => rfl)) (one_map (fun _ => rfl)) | exact one_rep rfl | exact one_app (one_rep rfl) (one_map (fun _ => rfl)) | (intro u hu; simp at hu; rcases hu with rfl | hu <;> first | rfl | (subst hu; rfl))) (by first | (simp only [maxLen]; omega) | (simp only [maxLen, Int.toNat_natCast, toNat_add, toNat_add1, List.length_append, List.length_cons, List.length_nil, List.length_replicate]; omega)) (by first | omega | (simp only [Int.toNat_natCast, toNat_add, toNat_add1, List.length_append, List.length_cons, List.length_nil, List.length_replicate]; omega))) rfl rfl ?_ -- ref.go:55 call
          refine Runs_p rfl (Valid.assignk (A := Own 160 1 _ _) rfl rfl) rfl rfl ?_ -- ref.go:55 assign
          refine Runs_nil ?_
          refine blockQ_n ?_
          refine thenQ_n ?_
          refine W_regionE (c := 22) (c' := 25) (by kernel_rfl) rfl ?_
          refine Runs_p rfl (Valid.movek (A := Is _) rfl rfl) rfl rfl ?_ -- ref.go:49 move
          refine Runs_p rfl (Valid.add rfl rfl rfl (room64 (by first | omega | (simp only [Int.toNat_natCast, toNat_add, toNat_add1, List.length_append, List.length_cons, List.length_nil, List.length_replicate]; omega)) (by first | omega | (simp only [Int.toNat_natCast, toNat_add, toNat_add1, List.length_append, List.length_cons, List.length_nil, List.length_replicate]; omega)))) rfl rfl ?_ -- ref.go:49 binOp
          refine Runs_p rfl (Valid.assignk (A := Is _) rfl rfl) rfl rfl ?_ -- ref.go:49 assign
          refine Runs_nil ?_
          refine LoopQ.next (k + 1) [(40, 160)] (by omega) (by omega) ⟨⟨(leq_is rfl rfl (by first | rfl | exact fir_y (by assumption) | exact fir_n (by assumption) | exact res_y (by assumption) | exact res_yl (by assumption) | (rw [← res_n (by assumption)]))), (leq_own rfl rfl rfl (by first | rfl | exact fir_y (by assumption) | exact fir_n (by assumption) | exact res_y (by assumption) | exact res_yl (by assumption) | (rw [← res_n (by assumption)])) (by first | rfl | exact fir_y (by assumption) | exact fir_n (by assumption) | exact res_y (by assumption) | exact res_yl (by assumption) | (rw [← res_n (by assumption)]))), (leq_own rfl rfl rfl (by first | rfl | exact fir_y (by assumption) | exact fir_n (by assumption) | exact res_y (by assumption) | exact res_yl (by assumption) | (rw [← res_n (by assumption)])) (by first | rfl | exact fir_y (by assumption) | exact fir_n (by assumption) | exact res_y (by assumption) | exact res_yl (by assumption) | (rw [← res_n (by assumption)]))), trivial⟩, ⟨(leq_is rfl rfl rfl), (leq_ptr rfl rfl rfl), trivial⟩, ⟨hp_row rfl (by first | rfl | exact fir_y (by assumption) | exact fir_n (by assumption) | exact res_y (by assumption) | exact res_yl (by assumption) | (rw [← res_n (by assumption)])) (by first | rfl | exact fir_y (by assumption) | exact fir_n (by assumption) | exact res_y (by assumption) | exact res_yl (by assumption) | (rw [← res_n (by assumption)])), hp_row rfl (by first | rfl | exact fir_y (by assumption) | exact fir_n (by assumption) | exact res_y (by assumption) | exact res_yl (by assumption) | (rw [← res_n (by assumption)])) (by first | rfl | exact fir_y (by assumption) | exact fir_n (by assumption) | exact res_y (by assumption) | exact res_yl (by assumption) | (rw [← res_n (by assumption)])), trivial⟩, ⟨hp_var rfl ⟨(leq_is rfl rfl rfl), (leq_is rfl rfl rfl), trivial⟩, trivial⟩, rfl, ⟨supg rfl, supg rfl, supg rfl, trivial⟩, ⟨supg rfl, supg rfl, trivial⟩, ⟨suph rfl rfl, suph rfl rfl, trivial⟩, ⟨suph rfl rfl, trivial⟩, rfl, rfl⟩
          done)
      done)
  · try simp only [decide_eq_false_iff_not] at hb1
    all_goals (
      refine W_exit ?_
      refine thenQ_e ?_
      refine loopQ_e ?_
      refine blockQ_x ?_
      refine thenQ_n ?_
      refine W_seq ?_
      refine W_regionE (c := 9) (c' := 14) (by kernel_rfl) rfl ?_
      refine Runs_p rfl (Valid.movek (A := Own 40 1 _ _) rfl rfl) rfl rfl ?_ -- ref.go:58 move
      refine Runs_p rfl (Valid.movek (A := Own 48 1 _ _) rfl rfl) rfl rfl ?_ -- ref.go:58 move
      refine Runs_w rfl (Valid.app rfl Try.underlying30 ti3 (by decide) rfl rfl (Reads.own rfl) (by first | exact one_map (fun _ => rfl) | exact one_cons rfl one_nil | exact one_app (one_map (fun _ => rfl)) (one_cons rfl one_nil) | exact one_app (one_map (fun _ => rfl)) (one_map (fun _ => rfl)) | exact one_rep rfl | exact one_app (one_rep rfl) (one_map (fun _ => rfl)) | (intro u hu; simp at hu; rcases hu with rfl | hu <;> first | rfl | (subst hu; rfl))) (by first | (simp only [maxLen]; omega) | (simp only [maxLen, Int.toNat_natCast, toNat_add, toNat_add1, List.length_append, List.length_cons, List.length_nil, List.length_replicate]; omega)) (by first | omega | (simp only [Int.toNat_natCast, toNat_add, toNat_add1, List.length_append, List.length_cons, List.length_nil, List.length_replicate]; omega))) rfl rfl ?_ -- ref.go:58 call
      refine Runs_p rfl (Valid.call rfl (of_t (b := firB (hasV s) k ++ resB (hasV s) k) (by rw [List.length_append]; omega) (by rw [List.length_append]; omega) (by rw [List.map_append])) ⟨argle_sl (Reads.own rfl), trivial⟩) rfl rfl ?_ -- ref.go:58 call
      refine Runs_op rfl (Valid.storeagg (l := [_, _]) rfl sz25 rfl rfl (Nat.le_of_ble_eq_true rfl) rfl ⟨(One.is rfl rfl rfl), (One.is rfl rfl rfl), trivial⟩) rfl ?_ -- ref.go:58 store
      refine Runs_nil ?_
      refine thenQ_n ?_
      refine W_ret ?_
      refine finQ_r ?_
      refine ResOk.one rfl (RVal.cellagg ag25 sz25 rfl rfl (Nat.le_of_ble_eq_true rfl) (argle (by rw [map_eq, show (16 : Nat) = k by omega]; rfl)))
      done)
end Gf
end Go.Proofs.Ytlcephckjhiggaa
