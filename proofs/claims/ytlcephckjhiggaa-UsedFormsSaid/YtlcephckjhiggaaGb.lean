/-
  WALKS of stage 7: alphabets and maps.
-/
import Derived.Test.YtlcephckjhiggaaRows
import Derived.Test.YtlcephckjhiggaaAbt
import Derived.Test.YtlcephckjhiggaaBb
import Derived.Test.YtlcephckjhiggaaGa
namespace Go.Proofs.Ytlcephckjhiggaa
open Go.RowKit
namespace Gb
open Ab Bm Bt Bb Ga
theorem ag4 (w : World) : (isAgg 4).run Try.prog w = .ok false w := by kernel_rfl
theorem sz4 (w : World) : (sizeOf 4).run Try.prog w = .ok 1 w := by kernel_rfl
theorem ti5 : TI Try.prog 5 1 1 := .mk' (z := (Value.int .u8 0)) (by kernel_rfl) rfl
/-- the bytes that are there, as far as k -/
def alB (h : List Bool) : Nat → List UInt8
  | 0 => []
  | k + 1 => if h.getD k false = true then alB h k ++ [UInt8.ofNat k] else alB h k
  termination_by k => k
theorem alB_0 (h : List Bool) : alB h 0 = [] := by rw [alB]
theorem alB_y {h : List Bool} {k : Nat} (e : h.getD (k : Int).toNat false = true) : alB h (k + 1) = alB h k ++ [UInt8.ofNat k] := by
  have e : h.getD k false = true := e
  rw [alB, if_pos e]
theorem alB_n {h : List Bool} {k : Nat} (e : h.getD (k : Int).toNat false = false) : alB h (k + 1) = alB h k := by
  have e : h.getD k false = false := e
  rw [alB, if_neg (by rw [e]; decide)]
theorem alB_c {h : List Bool} {k : Nat} (hk : k < 256) (e : h.getD (k : Int).toNat false = true) : (alB h k).map B ++ [Value.int .u8 (k : Int)] = (alB h (k + 1)).map B := by
  rw [alB_y e, List.map_append]
  show _ = _ ++ [Value.int .u8 ((UInt8.ofNat k).toNat : Int)]
  rw [UInt8.toNat_ofNat', Nat.mod_eq_of_lt (show k < 2 ^ 8 from hk)]
theorem alB_l {h : List Bool} {k : Nat} (e : h.getD (k : Int).toNat false = true) : (alB h k).length + 1 = (alB h (k + 1)).length := by rw [alB_y e]; simp
theorem alB_le (h : List Bool) : ∀ k, (alB h k).length ≤ k
  | 0 => by rw [alB_0]; exact Nat.le_refl _
  | k + 1 => by
    have := alB_le h k
    rw [alB]; split
    · rw [List.length_append]; simp; omega
    · omega
def alV (s : ByteArray) : ByteArray := ⟨(alB (hasV s) 256).toArray⟩
theorem alV_size (s : ByteArray) : (alV s).size ≤ 256 := alB_le (hasV s) 256

set_option maxRecDepth 100000 in
set_option maxHeartbeats 1000000 in
theorem alph_s (s : ByteArray) (hs : s.size ≤ 1000000000000) :
    FPure Try.prog 9 [Is (.string s)] (Is (.string (alV s))) := by
  refine FPure.of Try.func9 Try.ntmps9 rfl (by kernel_rfl) rfl rfl rfl ?_
  refine W_seq ?_
  refine W_regionE (c := 1) (c' := 2) (by kernel_rfl) rfl ?_
  refine Runs_p rfl (Valid.assignk (A := Is _) rfl rfl) rfl rfl ?_ -- used.go:24 assign
  refine Runs_nil ?_
  refine thenQ_n ?_
  refine W_seq ?_
  refine W_regionE (c := 2) (c' := 3) (by kernel_rfl) rfl ?_
  refine Runs_p rfl (Valid.assignk (A := Is (.slice none 0 0)) rfl rfl) rfl rfl ?_ -- used.go:25 assign
  refine Runs_nil ?_
  refine thenQ_n ?_
  refine W_seq ?_
  refine W_seq ?_
  refine W_regionE (c := 3) (c' := 6) (by kernel_rfl) rfl ?_
  refine Runs_p rfl (Valid.movek (A := Is _) rfl rfl) rfl rfl ?_ -- used.go:26 move
  refine Runs_p rfl (Valid.call rfl (bytes_s _ (by omega)) ⟨argle rfl, trivial⟩) rfl rfl ?_ -- used.go:26 call
  refine Runs_p rfl (Valid.movek (A := Is _) rfl rfl) rfl rfl ?_ -- used.go:26 move
  refine Runs_nil ?_
  refine thenQ_n ?_
  refine W_block ?_
  refine W.ent ?_ (Ent.ownnil 3 5 1 rfl)
  refine W_loopx (G := Nat) (fun (k : Nat) => k ≤ 256) [(7, Is _)] (fun (k : Nat) => [(8, Is (.int .i64 (k : Int))), (3, Own 48 1 (alB (hasV s) k).length ((alB (hasV s) k).map B))]) [] (fun (k : Nat) => [(48, .row 5 1 (alB (hasV s) k).length ((alB (hasV s) k).map B))]) 7 (fun (k : Nat) => 256 - k) (0) [] (by first | trivial | omega | (simp; omega)) ⟨⟨(leq_is rfl rfl (by first | rfl | (rw [alB_0]; rfl))), (leq_own rfl rfl rfl (by first | rfl | (rw [alB_0]; rfl)) (by first | rfl | (rw [alB_0]; rfl))), trivial⟩, ⟨(leq_is rfl rfl rfl), trivial⟩, ⟨hp_row rfl (by first | rfl | (rw [alB_0]; rfl)) (by first | rfl | (rw [alB_0]; rfl)), trivial⟩, trivial, rfl, ⟨supg rfl, supg rfl, trivial⟩, ⟨supg rfl, trivial⟩, ⟨suph rfl rfl, trivial⟩, trivial, rfl, rfl⟩ ?_
  intro k hI1
  have hal := alB_le (hasV s) k
  have hkk : (k : Int).toNat = k := rfl
  refine W_seq ?_
  refine W_regionE (c := 7) (c' := 8) (by kernel_rfl) rfl ?_
  refine Runs_p rfl (Valid.lss rfl rfl rfl) rfl rfl ?_ -- used.go:26 binOp
  refine Runs_nil ?_
  refine thenQ_n ?_
  refine W_seq ?_
  refine W_cond _ rfl (fun hb1 => ?_) (fun hb1 => ?_)
  · try simp only [decide_eq_true_eq] at hb1
    all_goals (
      refine W_skip ?_
      refine thenQ_n ?_
      refine W_seq ?_
      refine W_block ?_
      refine W_seq ?_
      refine W_regionE (c := 8) (c' := 12) (by kernel_rfl) rfl ?_
      refine Runs_p rfl (Valid.movek (A := Is _) rfl rfl) rfl rfl ?_ -- used.go:26 move
      refine Runs_p rfl (Valid.indexall false rfl Try.underlying44 ag4 sz4 rfl rfl (hasV_len s) (by first | omega | (simp only [Int.toNat_natCast, toNat_add, toNat_add1, List.length_append, List.length_cons, List.length_nil, List.length_replicate]; omega))) rfl rfl ?_ -- used.go:26 index
      refine Runs_p rfl (Valid.assignk (A := Is _) rfl rfl) rfl rfl ?_ -- used.go:26 assign
      refine Runs_p rfl (Valid.assignk (A := Is _) rfl rfl) rfl rfl ?_ -- used.go:26 assign
      refine Runs_nil ?_
      refine thenQ_n ?_
      refine W_seq ?_
      refine W_regionE (c := 12) (c' := 13) (by kernel_rfl) rfl ?_
      refine Runs_p rfl (Valid.movek (A := Is _) rfl rfl) rfl rfl ?_ -- used.go:27 move
      refine Runs_nil ?_
      refine thenQ_n ?_
      refine W_cond _ rfl (fun hb2 => ?_) (fun hb2 => ?_)
      · try simp only [Int.toNat_natCast] at hb2
        all_goals (
          refine W_regionE (c := 13) (c' := 19) (by kernel_rfl) rfl ?_
          refine Runs_p rfl (Valid.movek (A := Own 48 1 _ _) rfl rfl) rfl rfl ?_ -- used.go:28 move
          refine Runs_p rfl (Valid.movek (A := Is _) rfl rfl) rfl rfl ?_ -- used.go:28 move
          refine Runs_p rfl (Valid.convr rfl rfl Try.underlying3 Try.underlying5 (by unfold Room; rw [IntKind.wrap_u8]; omega)) rfl rfl ?_ -- used.go:28 convert
          refine Runs_p rfl (Valid.lit (el := 5) [_] rfl rfl (fun _ => by kernel_rfl) rfl (by decide)) rfl rfl ?_ -- used.go:28 buildSlice
          refine Runs_w rfl (Valid.app rfl Try.underlying27 ti5 (by decide) rfl rfl (Reads.sl rfl) (by first | exact one_map (fun _ => rfl) | exact one_cons rfl one_nil | exact one_app (one_map (fun _ => rfl)) (one_cons rfl one_nil) | exact one_app (one_map (fun _ => rfl)) (one_map (fun _ => rfl)) | exact one_rep rfl | exact one_app (one_rep rfl) (one_map (fun _ => rfl)) | (intro u hu; simp at hu; rcases hu with rfl | hu <;> first | rfl | (subst hu; rfl))) (by first | (simp only [maxLen]; omega) | (simp only [maxLen, Int.toNat_natCast, toNat_add, toNat_add1, List.length_append, List.length_cons, List.length_nil, List.length_replicate]; omega)) (by first | omega | (simp only [Int.toNat_natCast, toNat_add, toNat_add1, List.length_append, List.length_cons, List.length_nil, List.length_replicate]; omega))) rfl rfl ?_ -- used.go:28 call
          refine Runs_p rfl (Valid.assignk (A := Own 136 1 _ _) rfl rfl) rfl rfl ?_ -- used.go:28 assign
          refine Runs_nil ?_
          refine blockQ_n ?_
          refine thenQ_n ?_
          refine W_regionE (c := 19) (c' := 21) (by kernel_rfl) rfl ?_
          refine Runs_p rfl (Valid.add rfl rfl rfl (room64 (by first | omega | (simp only [Int.toNat_natCast, toNat_add, toNat_add1, List.length_append, List.length_cons, List.length_nil, List.length_replicate]; omega)) (by first | omega | (simp only [Int.toNat_natCast, toNat_add, toNat_add1, List.length_append, List.length_cons, List.length_nil, List.length_replicate]; omega)))) rfl rfl ?_ -- used.go:26 binOp
          refine Runs_p rfl (Valid.movek (A := Is _) rfl rfl) rfl rfl ?_ -- used.go:26 move
          refine Runs_nil ?_
          refine LoopQ.next (k + 1) [(48, 136)] (by omega) (by omega) ⟨⟨(leq_is rfl rfl (by first | rfl | exact alB_c (by omega) (by assumption) | exact alB_l (by assumption) | (rw [alB_n (by assumption)]))), (leq_own rfl rfl rfl (by first | rfl | exact alB_c (by omega) (by assumption) | exact alB_l (by assumption) | (rw [alB_n (by assumption)])) (by first | rfl | exact alB_c (by omega) (by assumption) | exact alB_l (by assumption) | (rw [alB_n (by assumption)]))), trivial⟩, ⟨(leq_is rfl rfl rfl), trivial⟩, ⟨hp_row rfl (by first | rfl | exact alB_c (by omega) (by assumption) | exact alB_l (by assumption) | (rw [alB_n (by assumption)])) (by first | rfl | exact alB_c (by omega) (by assumption) | exact alB_l (by assumption) | (rw [alB_n (by assumption)])), trivial⟩, trivial, rfl, ⟨supg rfl, supg rfl, trivial⟩, ⟨supg rfl, trivial⟩, ⟨suph rfl rfl, trivial⟩, trivial, rfl, rfl⟩
          done)
      · try simp only [Int.toNat_natCast] at hb2
        all_goals (
          refine W_skip ?_
          refine blockQ_n ?_
          refine thenQ_n ?_
          refine W_regionE (c := 13) (c' := 15) (by kernel_rfl) rfl ?_
          refine Runs_p rfl (Valid.add rfl rfl rfl (room64 (by first | omega | (simp only [Int.toNat_natCast, toNat_add, toNat_add1, List.length_append, List.length_cons, List.length_nil, List.length_replicate]; omega)) (by first | omega | (simp only [Int.toNat_natCast, toNat_add, toNat_add1, List.length_append, List.length_cons, List.length_nil, List.length_replicate]; omega)))) rfl rfl ?_ -- used.go:26 binOp
          refine Runs_p rfl (Valid.movek (A := Is _) rfl rfl) rfl rfl ?_ -- used.go:26 move
          refine Runs_nil ?_
          refine LoopQ.next (k + 1) [] (by omega) (by omega) ⟨⟨(leq_is rfl rfl (by first | rfl | exact alB_c (by omega) (by assumption) | exact alB_l (by assumption) | (rw [alB_n (by assumption)]))), (leq_own rfl rfl rfl (by first | rfl | exact alB_c (by omega) (by assumption) | exact alB_l (by assumption) | (rw [alB_n (by assumption)])) (by first | rfl | exact alB_c (by omega) (by assumption) | exact alB_l (by assumption) | (rw [alB_n (by assumption)]))), trivial⟩, ⟨(leq_is rfl rfl rfl), trivial⟩, ⟨hp_row rfl (by first | rfl | exact alB_c (by omega) (by assumption) | exact alB_l (by assumption) | (rw [alB_n (by assumption)])) (by first | rfl | exact alB_c (by omega) (by assumption) | exact alB_l (by assumption) | (rw [alB_n (by assumption)])), trivial⟩, trivial, rfl, ⟨supg rfl, supg rfl, trivial⟩, ⟨supg rfl, trivial⟩, ⟨suph rfl rfl, trivial⟩, trivial, rfl, rfl⟩
          done)
      done)
  · try simp only [decide_eq_false_iff_not] at hb1
    all_goals (
      refine W_exit ?_
      refine thenQ_e ?_
      refine loopQ_e ?_
      refine blockQ_x ?_
      refine thenQ_n ?_
      refine W_seq ?_
      refine W_regionE (c := 8) (c' := 11) (by kernel_rfl) rfl ?_
      refine Runs_p rfl (Valid.movek (A := Own 48 1 _ _) rfl rfl) rfl rfl ?_ -- used.go:31 move
      refine Runs_p rfl (Valid.tostring rfl Try.underlying27 Try.underlying5 Try.underlying9 (Reads.own rfl)) rfl rfl ?_ -- used.go:31 convert
      refine Runs_p rfl (Valid.assignk (A := Is _) rfl rfl) rfl rfl ?_ -- used.go:31 assign
      refine Runs_nil ?_
      refine thenQ_n ?_
      refine W_ret ?_
      refine finQ_r ?_
      refine ResOk.one rfl (RVal.is rfl rfl (by rw [alV, show k = 256 by omega]))
      done)
end Gb
end Go.Proofs.Ytlcephckjhiggaa
