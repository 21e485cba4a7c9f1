/-
  WALKS of stage 14: the reference.
-/
import Derived.Test.YtfelmdagolnpeaaRows
import Derived.Test.YtfelmdagolnpeaaVm
namespace Go.Proofs.Ytfelmdagolnpeaa
open Go.RowKit
namespace Vd
open Ab Vm
theorem ti3 : TI Try.prog 3 1 8 := .mk' (z := (Value.int .i64 0)) (by kernel_rfl) rfl
/-- the places of one byte, as far as i -/
def ofB (s : ByteArray) (c : Nat) : Nat → List Int
  | 0 => []
  | i + 1 => if byteA s i = c then ofB s c i ++ [(i : Int)] else ofB s c i
  termination_by i => i
def rvA (s : ByteArray) : Nat → List Int
  | 0 => []
  | c + 1 => rvA s c ++ ofB s c s.size
  termination_by c => c
theorem of_0 (s : ByteArray) (c : Nat) : ofB s c 0 = [] := by rw [ofB]
theorem of_y (s : ByteArray) (c i : Nat) (h : ((bat s (i : Int)).toNat : Int) = (c : Int)) : ofB s c i ++ [(i : Int)] = ofB s c (i + 1) := by
  have : byteA s i = c := by unfold byteA; omega
  rw [ofB, if_pos this]
theorem of_n (s : ByteArray) (c i : Nat) (h : ¬ ((bat s (i : Int)).toNat : Int) = (c : Int)) : ofB s c i = ofB s c (i + 1) := by
  have : ¬ byteA s i = c := by unfold byteA; omega
  rw [ofB, if_neg this]
theorem of_len (s : ByteArray) (c : Nat) : ∀ i, (ofB s c i).length ≤ i
  | 0 => by rw [of_0]; simp
  | i + 1 => by
    have := of_len s c i
    rw [ofB]; split <;> simp <;> omega
theorem rv_0 (s : ByteArray) : rvA s 0 = [] := by rw [rvA]
theorem rv_1 (s : ByteArray) (c i : Nat) (h : i = s.size) : rvA s c ++ ofB s c i = rvA s (c + 1) := by subst h; rw [rvA]
theorem rv_len (s : ByteArray) : ∀ c, (rvA s c).length ≤ c * s.size
  | 0 => by rw [rv_0]; simp
  | c + 1 => by
    have h1 := rv_len s c; have h2 := of_len s c s.size
    rw [rvA, List.length_append, Nat.succ_mul]; omega
def rvL (s : ByteArray) : List Int := rvA s 256

set_option maxRecDepth 100000 in
set_option maxHeartbeats 1000000 in
theorem rvec_s (s : ByteArray) (hs : s.size ≤ 1000000) :
    FPure Try.prog 13 [Is (.string s)] (Sl 1 (rvL s).length ((rvL s).map (Value.int .i64))) := by
  refine FPure.of Try.func13 Try.ntmps13 rfl (by kernel_rfl) rfl rfl rfl ?_
  refine W_seq ?_
  refine W_regionE (c := 1) (c' := 2) (by kernel_rfl) rfl ?_
  refine Runs_p rfl (Valid.assignk (A := Is (.slice none 0 0)) rfl rfl) rfl rfl ?_ -- ref.go:9 assign
  refine Runs_nil ?_
  refine thenQ_n ?_
  refine W_seq ?_
  refine W_regionE (c := 2) (c' := 3) (by kernel_rfl) rfl ?_
  refine Runs_p rfl (Valid.assignk (A := Is (.slice none 0 0)) rfl rfl) rfl rfl ?_ -- ref.go:10 assign
  refine Runs_nil ?_
  refine thenQ_n ?_
  refine W_seq ?_
  refine W_seq ?_
  refine W_regionE (c := 3) (c' := 4) (by kernel_rfl) rfl ?_
  refine Runs_p rfl (Valid.assignk (A := Is _) rfl rfl) rfl rfl ?_ -- ref.go:11 assign
  refine Runs_nil ?_
  refine thenQ_n ?_
  refine W_block ?_
  refine W.ent ?_ (Ent.ownnil 3 3 1 rfl)
  refine W_loopx (G := Nat) (fun (c : Nat) => c ≤ 256) [(0, Is _)] (fun (c : Nat) => [(4, Is (.int .i64 (c : Int))), (3, Own 32 1 (rvA s c).length ((rvA s c).map I64))]) [] (fun (c : Nat) => [(32, .row 3 1 (rvA s c).length ((rvA s c).map I64))]) 5 (fun (c : Nat) => 256 - c) (0) [] (by first | trivial | omega | (simp; omega)) ⟨⟨(leq_is rfl rfl (by first | rfl | (rw [rv_0]; rfl) | (rw [rv_0]))), (leq_own rfl rfl rfl (by first | rfl | (rw [rv_0]; rfl) | (rw [rv_0])) (by first | rfl | (rw [rv_0]; rfl) | (rw [rv_0]))), trivial⟩, ⟨(leq_is rfl rfl rfl), trivial⟩, ⟨hp_row rfl (by first | rfl | (rw [rv_0]; rfl) | (rw [rv_0])) (by first | rfl | (rw [rv_0]; rfl) | (rw [rv_0])), trivial⟩, trivial, rfl, ⟨supg rfl, supg rfl, trivial⟩, ⟨supg rfl, trivial⟩, ⟨suph rfl rfl, trivial⟩, trivial, rfl, rfl⟩ ?_
  intro c hI1
  have hrl := rv_len s c
  have hmb : c * s.size ≤ 256 * 1000000 := Nat.mul_le_mul (by omega) hs
  refine W_seq ?_
  refine W_seq ?_
  refine W_regionE (c := 5) (c' := 7) (by kernel_rfl) rfl ?_
  refine Runs_p rfl (Valid.movek (A := Is _) rfl rfl) rfl rfl ?_ -- ref.go:11 move
  refine Runs_p rfl (Valid.lss rfl rfl rfl) rfl rfl ?_ -- ref.go:11 binOp
  refine Runs_nil ?_
  refine thenQ_n ?_
  refine W_cond _ rfl (fun hb1 => ?_) (fun hb1 => ?_)
  · try simp only [decide_eq_true_eq] at hb1
    all_goals (
      refine W_skip ?_
      refine thenQ_n ?_
      refine W_seq ?_
      refine W_block ?_
      refine W_seq ?_
      refine W_regionE (c := 7) (c' := 8) (by kernel_rfl) rfl ?_
      refine Runs_p rfl (Valid.assignk (A := Is _) rfl rfl) rfl rfl ?_ -- ref.go:12 assign
      refine Runs_nil ?_
      refine thenQ_n ?_
      refine W_block ?_
      refine W_loopx (G := Nat) (fun (i : Nat) => i ≤ s.size) [(0, Is _), (4, Is _)] (fun (i : Nat) => [(5, Is (.int .i64 (i : Int))), (3, Own 32 1 (rvA s c ++ ofB s c i).length ((rvA s c ++ ofB s c i).map I64))]) [] (fun (i : Nat) => [(32, .row 3 1 (rvA s c ++ ofB s c i).length ((rvA s c ++ ofB s c i).map I64))]) 8 (fun (i : Nat) => s.size - i) (0) [] (by first | trivial | omega | (simp; omega)) ⟨⟨(leq_is rfl rfl (by first | rfl | (rw [of_0]; simp))), (leq_own rfl rfl rfl (by first | rfl | (rw [of_0]; simp)) (by first | rfl | (rw [of_0]; simp))), trivial⟩, ⟨(leq_is rfl rfl rfl), (leq_is rfl rfl rfl), trivial⟩, ⟨hp_row rfl (by first | rfl | (rw [of_0]; simp)) (by first | rfl | (rw [of_0]; simp)), trivial⟩, trivial, rfl, ⟨supg rfl, supg rfl, trivial⟩, ⟨supg rfl, supg rfl, trivial⟩, ⟨suph rfl rfl, trivial⟩, trivial, rfl, rfl⟩ ?_
      intro i hI2
      have hol := of_len s c i
      refine W_seq ?_
      refine W_seq ?_
      refine W_regionE (c := 8) (c' := 12) (by kernel_rfl) rfl ?_
      refine Runs_p rfl (Valid.movek (A := Is _) rfl rfl) rfl rfl ?_ -- ref.go:12 move
      refine Runs_p rfl (Valid.movek (A := Is _) rfl rfl) rfl rfl ?_ -- ref.go:12 move
      refine Runs_p rfl (Valid.slen rfl Try.underlying9 rfl) rfl rfl ?_ -- ref.go:12 call
      refine Runs_p rfl (Valid.lss rfl rfl rfl) rfl rfl ?_ -- ref.go:12 binOp
      refine Runs_nil ?_
      refine thenQ_n ?_
      refine W_cond _ rfl (fun hb2 => ?_) (fun hb2 => ?_)
      · try simp only [decide_eq_true_eq] at hb2
        all_goals (
          refine W_skip ?_
          refine thenQ_n ?_
          refine W_seq ?_
          refine W_block ?_
          refine W_seq ?_
          refine W_regionE (c := 12) (c' := 18) (by kernel_rfl) rfl ?_
          refine Runs_p rfl (Valid.movek (A := Is _) rfl rfl) rfl rfl ?_ -- ref.go:13 move
          refine Runs_p rfl (Valid.movek (A := Is _) rfl rfl) rfl rfl ?_ -- ref.go:13 move
          refine Runs_p rfl (Valid.sindex rfl Try.underlying9 rfl rfl (by first | omega | (simp only [Int.toNat_natCast, toNat_add, toNat_add1, List.length_append, List.length_cons, List.length_nil, List.length_replicate]; omega))) rfl rfl ?_ -- ref.go:13 index
          refine Runs_p rfl (Valid.convr rfl rfl Try.underlying5 Try.underlying3 (room64 (by have h := byteA_lt s i; unfold byteA at h; omega) (by have h := byteA_lt s i; unfold byteA at h; omega))) rfl rfl ?_ -- ref.go:13 convert
          refine Runs_p rfl (Valid.movek (A := Is _) rfl rfl) rfl rfl ?_ -- ref.go:13 move
          refine Runs_p rfl (Valid.eql rfl rfl rfl) rfl rfl ?_ -- ref.go:13 binOp
          refine Runs_nil ?_
          refine thenQ_n ?_
          refine W_cond _ rfl (fun hb3 => ?_) (fun hb3 => ?_)
          · try simp only [decide_eq_true_eq] at hb3
            all_goals (
              refine W_regionE (c := 18) (c' := 23) (by kernel_rfl) rfl ?_
              refine Runs_p rfl (Valid.movek (A := Own 32 1 _ _) rfl rfl) rfl rfl ?_ -- ref.go:14 move
              refine Runs_p rfl (Valid.movek (A := Is _) rfl rfl) rfl rfl ?_ -- ref.go:14 move
              refine Runs_p rfl (Valid.lit (el := 3) [_] rfl rfl (fun _ => by kernel_rfl) rfl (by decide)) rfl rfl ?_ -- ref.go:14 buildSlice
              refine Runs_w rfl (Valid.app rfl Try.underlying22 ti3 (by decide) rfl rfl (Reads.sl rfl) (by first | exact one_map (fun _ => rfl) | exact one_cons rfl one_nil | exact one_app (one_map (fun _ => rfl)) (one_cons rfl one_nil) | exact one_app (one_map (fun _ => rfl)) (one_map (fun _ => rfl)) | exact one_rep rfl | exact one_app (one_rep rfl) (one_map (fun _ => rfl)) | (intro u hu; simp at hu; rcases hu with rfl | hu <;> first | rfl | (subst hu; rfl))) (by first | (simp only [maxLen]; omega) | (simp only [maxLen, List.length_append]; omega)) (by first | omega | (simp only [List.length_append]; omega))) rfl rfl ?_ -- ref.go:14 call
              refine Runs_p rfl (Valid.assignk (A := Own 168 1 _ _) rfl rfl) rfl rfl ?_ -- ref.go:14 assign
              refine Runs_nil ?_
              refine blockQ_n ?_
              refine thenQ_n ?_
              refine W_regionE (c := 23) (c' := 26) (by kernel_rfl) rfl ?_
              refine Runs_p rfl (Valid.movek (A := Is _) rfl rfl) rfl rfl ?_ -- ref.go:12 move
              refine Runs_p rfl (Valid.add rfl rfl rfl (room64 (by first | omega | (simp only [Int.toNat_natCast, toNat_add, toNat_add1, List.length_append, List.length_cons, List.length_nil, List.length_replicate]; omega)) (by first | omega | (simp only [Int.toNat_natCast, toNat_add, toNat_add1, List.length_append, List.length_cons, List.length_nil, List.length_replicate]; omega)))) rfl rfl ?_ -- ref.go:12 binOp
              refine Runs_p rfl (Valid.assignk (A := Is _) rfl rfl) rfl rfl ?_ -- ref.go:12 assign
              refine Runs_nil ?_
              refine LoopQ.next (i + 1) [(32, 168)] (by first | trivial | omega | (simp; omega)) (by first | omega | (dsimp only; omega)) ⟨⟨(leq_is rfl rfl (by first | rfl | (rw [← of_y s c i (by omega)]; simp; done) | (rw [← of_y s c i (by omega)]; simp; omega) | rw [← of_n s c i (by omega)])), (leq_own rfl rfl rfl (by first | rfl | (rw [← of_y s c i (by omega)]; simp; done) | (rw [← of_y s c i (by omega)]; simp; omega) | rw [← of_n s c i (by omega)]) (by first | rfl | (rw [← of_y s c i (by omega)]; simp; done) | (rw [← of_y s c i (by omega)]; simp; omega) | rw [← of_n s c i (by omega)])), trivial⟩, ⟨(leq_is rfl rfl rfl), (leq_is rfl rfl rfl), trivial⟩, ⟨hp_row rfl (by first | rfl | (rw [← of_y s c i (by omega)]; simp; done) | (rw [← of_y s c i (by omega)]; simp; omega) | rw [← of_n s c i (by omega)]) (by first | rfl | (rw [← of_y s c i (by omega)]; simp; done) | (rw [← of_y s c i (by omega)]; simp; omega) | rw [← of_n s c i (by omega)]), trivial⟩, trivial, rfl, ⟨supg rfl, supg rfl, trivial⟩, ⟨supg rfl, supg rfl, trivial⟩, ⟨suph rfl rfl, trivial⟩, trivial, rfl, rfl⟩
              done)
          · try simp only [decide_eq_false_iff_not] at hb3
            all_goals (
              refine W_skip ?_
              refine blockQ_n ?_
              refine thenQ_n ?_
              refine W_regionE (c := 18) (c' := 21) (by kernel_rfl) rfl ?_
              refine Runs_p rfl (Valid.movek (A := Is _) rfl rfl) rfl rfl ?_ -- ref.go:12 move
              refine Runs_p rfl (Valid.add rfl rfl rfl (room64 (by first | omega | (simp only [Int.toNat_natCast, toNat_add, toNat_add1, List.length_append, List.length_cons, List.length_nil, List.length_replicate]; omega)) (by first | omega | (simp only [Int.toNat_natCast, toNat_add, toNat_add1, List.length_append, List.length_cons, List.length_nil, List.length_replicate]; omega)))) rfl rfl ?_ -- ref.go:12 binOp
              refine Runs_p rfl (Valid.assignk (A := Is _) rfl rfl) rfl rfl ?_ -- ref.go:12 assign
              refine Runs_nil ?_
              refine LoopQ.next (i + 1) [] (by first | trivial | omega | (simp; omega)) (by first | omega | (dsimp only; omega)) ⟨⟨(leq_is rfl rfl (by first | rfl | (rw [← of_y s c i (by omega)]; simp; done) | (rw [← of_y s c i (by omega)]; simp; omega) | rw [← of_n s c i (by omega)])), (leq_own rfl rfl rfl (by first | rfl | (rw [← of_y s c i (by omega)]; simp; done) | (rw [← of_y s c i (by omega)]; simp; omega) | rw [← of_n s c i (by omega)]) (by first | rfl | (rw [← of_y s c i (by omega)]; simp; done) | (rw [← of_y s c i (by omega)]; simp; omega) | rw [← of_n s c i (by omega)])), trivial⟩, ⟨(leq_is rfl rfl rfl), (leq_is rfl rfl rfl), trivial⟩, ⟨hp_row rfl (by first | rfl | (rw [← of_y s c i (by omega)]; simp; done) | (rw [← of_y s c i (by omega)]; simp; omega) | rw [← of_n s c i (by omega)]) (by first | rfl | (rw [← of_y s c i (by omega)]; simp; done) | (rw [← of_y s c i (by omega)]; simp; omega) | rw [← of_n s c i (by omega)]), trivial⟩, trivial, rfl, ⟨supg rfl, supg rfl, trivial⟩, ⟨supg rfl, supg rfl, trivial⟩, ⟨suph rfl rfl, trivial⟩, trivial, rfl, rfl⟩
              done)
          done)
      · try simp only [decide_eq_false_iff_not] at hb2
        all_goals (
          refine W_exit ?_
          refine thenQ_e ?_
          refine loopQ_e ?_
          refine blockQ_x ?_
          refine blockQ_n ?_
          refine thenQ_n ?_
          refine W_regionE (c := 12) (c' := 15) (by kernel_rfl) rfl ?_
          refine Runs_p rfl (Valid.movek (A := Is _) rfl rfl) rfl rfl ?_ -- ref.go:11 move
          refine Runs_p rfl (Valid.add rfl rfl rfl (room64 (by first | omega | (simp only [Int.toNat_natCast, toNat_add, toNat_add1, List.length_append, List.length_cons, List.length_nil, List.length_replicate]; omega)) (by first | omega | (simp only [Int.toNat_natCast, toNat_add, toNat_add1, List.length_append, List.length_cons, List.length_nil, List.length_replicate]; omega)))) rfl rfl ?_ -- ref.go:11 binOp
          refine Runs_p rfl (Valid.assignk (A := Is _) rfl rfl) rfl rfl ?_ -- ref.go:11 assign
          refine Runs_nil ?_
          refine LoopQ.next (c + 1) [] (by first | trivial | omega | (simp; omega)) (by first | omega | (dsimp only; omega)) ⟨⟨(leq_is rfl rfl (by first | rfl | (rw [← rv_1 s c i (by omega)]; done) | rw [rv_1 s c i (by omega)])), (leq_own rfl rfl rfl (by first | rfl | (rw [← rv_1 s c i (by omega)]; done) | rw [rv_1 s c i (by omega)]) (by first | rfl | (rw [← rv_1 s c i (by omega)]; done) | rw [rv_1 s c i (by omega)])), trivial⟩, ⟨(leq_is rfl rfl rfl), trivial⟩, ⟨hp_row rfl (by first | rfl | (rw [← rv_1 s c i (by omega)]; done) | rw [rv_1 s c i (by omega)]) (by first | rfl | (rw [← rv_1 s c i (by omega)]; done) | rw [rv_1 s c i (by omega)]), trivial⟩, trivial, rfl, ⟨supg rfl, supg rfl, trivial⟩, ⟨supg rfl, trivial⟩, ⟨suph rfl rfl, trivial⟩, trivial, rfl, rfl⟩
          done)
      done)
  · try simp only [decide_eq_false_iff_not] at hb1
    all_goals (
      refine W_exit ?_
      refine thenQ_e ?_
      refine loopQ_e ?_
      refine blockQ_x ?_
      refine thenQ_n ?_
      refine W_seq ?_
      refine W_regionE (c := 7) (c' := 9) (by kernel_rfl) rfl ?_
      refine Runs_p rfl (Valid.movek (A := Own 32 1 _ _) rfl rfl) rfl rfl ?_ -- ref.go:18 move
      refine Runs_p rfl (Valid.assignk (A := Own 32 1 _ _) rfl rfl) rfl rfl ?_ -- ref.go:18 assign
      refine Runs_nil ?_
      refine thenQ_n ?_
      refine W_ret ?_
      refine finQ_r ?_
      refine ResOk.one rfl (RVal.sl (Reads.own rfl) rfl (by rw [rvL, show c = 256 by omega]) (by rw [rvL, show c = 256 by omega]))
      done)
end Vd
end Go.Proofs.Ytfelmdagolnpeaa
