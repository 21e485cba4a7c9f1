/-
  WALKS of stage 4: the reference.
-/
import Derived.Test.YtmilegikgbmjpaaRows
import Derived.Test.YtmilegikgbmjpaaRh
namespace Go.Proofs.Ytmilegikgbmjpaa
open Go.RowKit
namespace Ri
open Ab Rl Rl Ra Rb Rc Rd Re Rf Rg Rh

theorem bat_ba (l : List UInt8) (n : Nat) : bat (ba l) (n : Int) = l.getD n 0 := rfl
theorem rrun_step {l : List UInt8} {n : Nat} (h : n ≤ rn l) : (((n : Int) < ((ba l).size : Int) ∧ (n : Int) < 255) ∧ ((bat (ba l) (n : Int)).toNat : Int) = ((bat (ba l) 0).toNat : Int)) ↔ n < rn l := by
  rw [u8_inj, bat_ba, show bat (ba l) 0 = l.getD 0 0 from rfl, ba_size]
  by_cases h0 : n = 0
  · subst h0
    constructor
    · intro ⟨⟨h1, _⟩, _⟩; exact (rn_pos (ne_nil_of (by omega))).1
    · intro h1
      have hl : l ≠ [] := fun e => by subst e; simp [rn] at h1
      have := len_of_ne hl
      exact ⟨⟨by omega, by omega⟩, rfl⟩
  · rw [← rn_step (by omega) h]
    constructor
    · intro ⟨⟨h3, h4⟩, h5⟩; exact ⟨by omega, by omega, h5⟩
    · intro ⟨h3, h4, h5⟩; exact ⟨⟨by omega, by omega⟩, h5⟩
theorem ba_sub (l : List UInt8) (a b : Nat) : (ba l).extract a b = ba ((l.drop a).take (b - a)) := by
  apply ByteArray.ext
  simp [ba, ByteArray.data_extract]
theorem rrun_end {l : List UInt8} {n : Nat} (h : n ≤ rn l) (hb : (¬ (n : Int) < ((ba l).size : Int) ∨ ¬ (n : Int) < 255) ∨ ¬ ((bat (ba l) (n : Int)).toNat : Int) = ((bat (ba l) 0).toNat : Int)) : (n : Int) = (rn l : Int) := by
  have h2 : ¬ n < rn l := fun h3 => by
    obtain ⟨⟨h4, h5⟩, h6⟩ := (rrun_step h).2 h3
    omega
  omega
theorem rpk_end {l : List UInt8} {a k : Nat} (h : pcs (l.drop a) = (pcs l).drop k) (hk : k ≤ (pcs l).length) (ha : l.length ≤ a) : packK l k = packL l := by
  have := pcs_end ha h
  rw [show k = (pcs l).length by omega, packK_end]

set_option maxRecDepth 100000 in
set_option maxHeartbeats 1000000 in
theorem rrun_s (l : List UInt8) (hl : l.length ≤ 1000000) :
    FPure Try.prog 20 [Is (.string (ba l))] (Is (.int .i64 (rn l : Int))) := by
  refine FPure.of Try.func20 Try.ntmps20 rfl (by kernel_rfl) rfl rfl rfl ?_
  refine W_seq ?_
  refine W_regionE (c := 1) (c' := 2) (by kernel_rfl) rfl ?_
  refine Runs_p rfl (Valid.assignk (A := Is _) rfl rfl) rfl rfl ?_ -- ref.go:9 assign
  refine Runs_nil ?_
  refine thenQ_n ?_
  refine W_seq ?_
  refine W_regionE (c := 2) (c' := 3) (by kernel_rfl) rfl ?_
  refine Runs_p rfl (Valid.assignk (A := Is _) rfl rfl) rfl rfl ?_ -- ref.go:10 assign
  refine Runs_nil ?_
  refine thenQ_n ?_
  refine W_seq ?_
  refine W_block ?_
  refine W_loopx (G := Nat) (fun (n : Nat) => n ≤ rn l) [(0, Is _)] (fun (n : Nat) => [(3, Is (.int .i64 (n : Int)))]) [] (fun (n : Nat) => []) 3 (fun (n : Nat) => 255 - n) (0) [] (Nat.zero_le _) ⟨⟨(leq_is rfl rfl (by first | rfl | (simp; done) | omega | (simp [toNat_add, toNat_add1, Nat.add_assoc]; done) | (simp [toNat_add, toNat_add1]; omega))), trivial⟩, ⟨(leq_is rfl rfl rfl), trivial⟩, trivial, trivial, rfl, ⟨supg rfl, trivial⟩, ⟨supg rfl, trivial⟩, trivial, trivial, rfl, rfl⟩ ?_
  intro n hI1
  have hbl : (ba l).size = l.length := rfl
  refine W_seq ?_
  refine W_seq ?_
  refine W_drawE (c := 3) (c' := 19) (by kernel_rfl) rfl ?_
  refine Runs_p rfl (Valid.movek (A := Is _) rfl rfl) rfl rfl ?_ -- ref.go:11 move
  refine Runs_p rfl (Valid.movek (A := Is _) rfl rfl) rfl rfl ?_ -- ref.go:11 move
  refine Runs_p rfl (Valid.slen rfl Try.underlying9 rfl) rfl rfl ?_ -- ref.go:11 call
  refine Runs_p rfl (Valid.lss rfl rfl rfl) rfl rfl ?_ -- ref.go:11 binOp
  refine Runs_p rfl (Valid.movek (A := Is _) rfl rfl) rfl rfl ?_ -- ref.go:11 move
  refine Runs_cnd rfl rfl (Grd.is rfl) [] (fun hg => trivial) (fun hg => Valid.movek (A := Is _) rfl rfl) (by rfl) rfl ?_
  refine Runs_cnd rfl rfl (Grd.is rfl) [(9, _)] (fun hg => ⟨cnd_at rfl (by first | exact hg | exact hg.1 | exact hg.1.1 | exact hg.1.1.1), trivial⟩) (fun hg => Valid.lss rfl rfl rfl) (by rfl) rfl ?_
  refine Runs_p rfl (Valid.pickand rfl rfl rfl (fun h => by first | exact h | exact ⟨hg, h⟩) rfl) rfl rfl ?_ -- ref.go:11 pick
  refine Runs_p rfl (Valid.movek (A := Is _) rfl rfl) rfl rfl ?_ -- ref.go:11 move
  refine Runs_cnd rfl rfl (Grd.is rfl) [] (fun hg => trivial) (fun hg => Valid.movek (A := Is _) rfl rfl) (by rfl) rfl ?_
  refine Runs_cnd rfl rfl (Grd.is rfl) [] (fun hg => trivial) (fun hg => Valid.movek (A := Is _) rfl rfl) (by rfl) rfl ?_
  refine Runs_cnd rfl rfl (Grd.is rfl) [(13, _), (14, _)] (fun hg => ⟨cnd_at rfl (by first | exact hg | exact hg.1 | exact hg.1.1 | exact hg.1.1.1), cnd_at rfl (by first | exact hg | exact hg.1 | exact hg.1.1 | exact hg.1.1.1), trivial⟩) (fun hg => Valid.sindex rfl Try.underlying9 rfl rfl (by (try simp only [decide_eq_true_eq, Bool.and_eq_true] at hg); first | omega | (simp only [Int.toNat_natCast, toNat_add, toNat_add1, List.length_append, List.length_cons, List.length_nil, List.length_replicate]; omega))) (by rfl) rfl ?_
  refine Runs_cnd rfl rfl (Grd.is rfl) [] (fun hg => trivial) (fun hg => Valid.movek (A := Is _) rfl rfl) (by rfl) rfl ?_
  refine Runs_cnd rfl rfl (Grd.is rfl) [(16, _)] (fun hg => ⟨cnd_at rfl (by first | exact hg | exact hg.1 | exact hg.1.1 | exact hg.1.1.1), trivial⟩) (fun hg => Valid.sindex rfl Try.underlying9 rfl rfl (by (try simp only [decide_eq_true_eq, Bool.and_eq_true] at hg); first | omega | (simp only [Int.toNat_natCast, toNat_add, toNat_add1, List.length_append, List.length_cons, List.length_nil, List.length_replicate]; omega))) (by rfl) rfl ?_
  refine Runs_cnd rfl rfl (Grd.is rfl) [(15, _), (17, _)] (fun hg => ⟨cnd_at rfl (by first | exact hg | exact hg.1 | exact hg.1.1 | exact hg.1.1.1), cnd_at rfl (by first | exact hg | exact hg.1 | exact hg.1.1 | exact hg.1.1.1), trivial⟩) (fun hg => Valid.eql rfl rfl rfl) (by rfl) rfl ?_
  refine Runs_p rfl (Valid.pickand rfl rfl rfl (fun h => by first | exact h | exact ⟨hg, h⟩) rfl) rfl rfl ?_ -- ref.go:11 pick
  refine Runs_nil ?_
  refine ⟨_, _, rfl, rfl, by kernel_rfl, ?_⟩
  refine thenQ_n ?_
  refine W_cond _ rfl (fun hb1 => ?_) (fun hb1 => ?_)
  · try simp only [decide_eq_true_eq, Bool.and_eq_true] at hb1
    all_goals (
      refine W_skip ?_
      refine thenQ_n ?_
      refine W_block ?_
      refine W_regionE (c := 19) (c' := 22) (by kernel_rfl) rfl ?_
      refine Runs_p rfl (Valid.movek (A := Is _) rfl rfl) rfl rfl ?_ -- ref.go:12 move
      refine Runs_p rfl (Valid.add rfl rfl rfl (room64 (by first | omega | (simp only [Int.toNat_natCast, toNat_add, toNat_add1, List.length_append, List.length_cons, List.length_nil, List.length_replicate]; omega)) (by first | omega | (simp only [Int.toNat_natCast, toNat_add, toNat_add1, List.length_append, List.length_cons, List.length_nil, List.length_replicate]; omega)))) rfl rfl ?_ -- ref.go:12 binOp
      refine Runs_p rfl (Valid.assignk (A := Is _) rfl rfl) rfl rfl ?_ -- ref.go:12 assign
      refine Runs_nil ?_
      refine blockQ_n ?_
      refine LoopQ.next (n + 1) [] ((rrun_step hI1).1 (by simpa using hb1)) (by omega) ⟨⟨(leq_is rfl rfl (by first | rfl | (simp; done) | omega | (simp [toNat_add, toNat_add1, Nat.add_assoc]; done) | (simp [toNat_add, toNat_add1]; omega))), trivial⟩, ⟨(leq_is rfl rfl rfl), trivial⟩, trivial, trivial, rfl, ⟨supg rfl, trivial⟩, ⟨supg rfl, trivial⟩, trivial, trivial, rfl, rfl⟩
      done)
  · try simp only [decide_eq_false_iff_not, Bool.and_eq_false_iff] at hb1
    all_goals (
      refine W_exit ?_
      refine thenQ_e ?_
      refine loopQ_e ?_
      refine blockQ_x ?_
      refine thenQ_n ?_
      refine W_seq ?_
      refine W_regionE (c := 19) (c' := 21) (by kernel_rfl) rfl ?_
      refine Runs_p rfl (Valid.movek (A := Is _) rfl rfl) rfl rfl ?_ -- ref.go:14 move
      refine Runs_p rfl (Valid.assignk (A := Is _) rfl rfl) rfl rfl ?_ -- ref.go:14 assign
      refine Runs_nil ?_
      refine thenQ_n ?_
      refine W_ret ?_
      refine finQ_r ?_
      refine ResOk.one rfl (RVal.is rfl rfl (by first | (rw [rrun_end hI1 hb1]; done)))
      done)

theorem rrun_z {l : List UInt8} {a : Nat} (ha : a ≤ l.length) (hl : l.length ≤ 1000000) : FPure Try.prog 20 [Is (.string ((ba l).extract ((a : Int)).toNat (ba l).size))] (Is (.int .i64 (rn (l.drop a) : Int))) := by
  rw [Int.toNat_natCast, ba_from]
  exact rrun_s _ (by rw [List.length_drop]; omega)
theorem rpk {l : List UInt8} {a k : Nat} (hk : k < (pcs l).length) (hg : (pcs l).getD k (0, 0) = (l.getD a 0, rn (l.drop a))) : packK l (k + 1) = packK l k ++ encP (l.getD a 0, rn (l.drop a)) := by
  rw [packK, packK, flat_succ encP _ (0, 0) hk, hg]
theorem drop_0 (l : List UInt8) (a : Nat) : (l.drop a).getD 0 0 = l.getD a 0 := by simp [List.getD_eq_getElem?_getD, List.getElem?_drop]
theorem rpk_n {l : List UInt8} {a k : Nat} (hk : k < (pcs l).length) (hg : (pcs l).getD k (0, 0) = (l.getD a 0, rn (l.drop a))) (h4 : (rn (l.drop a) : Int) < 4) : ba (packK l k) ++ (ba l).extract ((a : Int)).toNat (((a : Int) + (rn (l.drop a) : Int))).toNat = ba (packK l (k + 1)) := by
  rw [show ((a : Int) + (rn (l.drop a) : Int)).toNat = a + rn (l.drop a) by omega, Int.toNat_natCast, ba_sub, Nat.add_sub_cancel_left, ba_app, rpk hk hg, encP, if_neg (by simp only; omega), List.append_nil, take_rn, drop_0]
  simp only
  rw [Nat.min_eq_left (by omega)]
theorem rpk_y {l : List UInt8} {a k : Nat} (hk : k < (pcs l).length) (hg : (pcs l).getD k (0, 0) = (l.getD a 0, rn (l.drop a))) (h4 : ¬ (rn (l.drop a) : Int) < 4) : ba (packK l k) ++ (ba l).extract ((a : Int)).toNat (((a : Int) + 4)).toNat ++ ⟨[u8 ((rn (l.drop a) : Int) - 4)].toArray⟩ = ba (packK l (k + 1)) := by
  rw [show ((a : Int) + 4).toNat = a + 4 by omega, Int.toNat_natCast, ba_sub, Nat.add_sub_cancel_left]
  show _ ++ _ ++ ba [_] = _
  rw [ba_app, ba_app, rpk hk hg, encP, if_pos (by simp only; omega)]
  simp only
  rw [Nat.min_eq_right (by omega), List.append_assoc]
  have h5 : (l.drop a).take 4 = List.replicate 4 (l.getD a 0) := by
    have h6 := congrArg (fun m : List UInt8 => m.take 4) (take_rn (l.drop a))
    simp only [List.take_take, List.take_replicate] at h6
    rw [Nat.min_eq_left (by omega)] at h6
    rw [h6, drop_0]
  rw [h5]

set_option maxRecDepth 100000 in
set_option maxHeartbeats 1000000 in
theorem rpack_s (l : List UInt8) (hl : l.length ≤ 1000000) :
    FPure Try.prog 12 [Is (.string (ba l))] (Is (.string (ba (packL l)))) := by
  refine FPure.of Try.func12 Try.ntmps12 rfl (by kernel_rfl) rfl rfl rfl ?_
  refine W_seq ?_
  refine W_regionE (c := 1) (c' := 2) (by kernel_rfl) rfl ?_
  refine Runs_p rfl (Valid.assignk (A := Is _) rfl rfl) rfl rfl ?_ -- ref.go:18 assign
  refine Runs_nil ?_
  refine thenQ_n ?_
  refine W_seq ?_
  refine W_regionE (c := 2) (c' := 3) (by kernel_rfl) rfl ?_
  refine Runs_p rfl (Valid.assignk (A := Is _) rfl rfl) rfl rfl ?_ -- ref.go:19 assign
  refine Runs_nil ?_
  refine thenQ_n ?_
  refine W_seq ?_
  refine W_seq ?_
  refine W_regionE (c := 3) (c' := 4) (by kernel_rfl) rfl ?_
  refine Runs_p rfl (Valid.assignk (A := Is _) rfl rfl) rfl rfl ?_ -- ref.go:20 assign
  refine Runs_nil ?_
  refine thenQ_n ?_
  refine W_block ?_
  refine W_loopx (G := Nat × Nat) (fun (g : Nat × Nat) => g.1 ≤ l.length ∧ pcs (l.drop g.1) = (pcs l).drop g.2 ∧ g.2 ≤ (pcs l).length) [(0, Is _)] (fun (g : Nat × Nat) => [(4, Is (.int .i64 (g.1 : Int))), (3, Is (.string (ba (packK l g.2))))]) [] (fun (g : Nat × Nat) => []) 4 (fun (g : Nat × Nat) => l.length - g.1) ((0, 0)) [] (⟨Nat.zero_le _, rfl, Nat.zero_le _⟩) ⟨⟨(leq_is rfl rfl (by first | rfl)), (leq_is rfl rfl (by first | rfl)), trivial⟩, ⟨(leq_is rfl rfl rfl), trivial⟩, trivial, trivial, rfl, ⟨supg rfl, supg rfl, trivial⟩, ⟨supg rfl, trivial⟩, trivial, trivial, rfl, rfl⟩ ?_
  intro g hI1
  obtain ⟨a, k⟩ := g
  obtain ⟨hi1, hi2, hi3⟩ := hI1
  simp only at hi1 hi2 hi3 ⊢
  have hbl : (ba l).size = l.length := rfl
  have hkl := packK_len l k
  have hpl := pcs_len l
  have hkz : (ba (packK l k)).size = (packK l k).length := rfl
  refine W_seq ?_
  refine W_seq ?_
  refine W_regionE (c := 4) (c' := 8) (by kernel_rfl) rfl ?_
  refine Runs_p rfl (Valid.movek (A := Is _) rfl rfl) rfl rfl ?_ -- ref.go:20 move
  refine Runs_p rfl (Valid.movek (A := Is _) rfl rfl) rfl rfl ?_ -- ref.go:20 move
  refine Runs_p rfl (Valid.slen rfl Try.underlying9 rfl) rfl rfl ?_ -- ref.go:20 call
  refine Runs_p rfl (Valid.lss rfl rfl rfl) rfl rfl ?_ -- ref.go:20 binOp
  refine Runs_nil ?_
  refine thenQ_n ?_
  refine W_cond _ rfl (fun hb1 => ?_) (fun hb1 => ?_)
  · try simp only [decide_eq_true_eq] at hb1
    all_goals (
      refine W_skip ?_
      refine thenQ_n ?_
      refine W_block ?_
      refine W_seq ?_
      have hq := pcs_at (l := l) (a := a) (by omega) hi2
      have hr1 := rn_pos (l := l.drop a) (ne_nil_of (by rw [List.length_drop]; omega))
      rw [List.length_drop] at hr1
      refine W_regionE (c := 8) (c' := 13) (by kernel_rfl) rfl ?_
      refine Runs_p rfl (Valid.movek (A := Is _) rfl rfl) rfl rfl ?_ -- ref.go:21 move
      refine Runs_p rfl (Valid.movek (A := Is _) rfl rfl) rfl rfl ?_ -- ref.go:21 move
      refine Runs_p rfl (Valid.sslicefrom rfl Try.underlying9 rfl rfl (by first | omega | (simp only [Int.toNat_natCast, toNat_add, toNat_add1, List.length_append, List.length_cons, List.length_nil, List.length_replicate]; omega))) rfl rfl ?_ -- ref.go:21 slice
      refine Runs_p rfl (Valid.call rfl (rrun_z (by omega) hl) ⟨argle rfl, trivial⟩) rfl rfl ?_ -- ref.go:21 call
      refine Runs_p rfl (Valid.assignk (A := Is _) rfl rfl) rfl rfl ?_ -- ref.go:21 assign
      refine Runs_nil ?_
      refine thenQ_n ?_
      refine W_seq ?_
      refine W_seq ?_
      refine W_regionE (c := 13) (c' := 15) (by kernel_rfl) rfl ?_
      refine Runs_p rfl (Valid.movek (A := Is _) rfl rfl) rfl rfl ?_ -- ref.go:22 move
      refine Runs_p rfl (Valid.lss rfl rfl rfl) rfl rfl ?_ -- ref.go:22 binOp
      refine Runs_nil ?_
      refine thenQ_n ?_
      refine W_cond _ rfl (fun hb2 => ?_) (fun hb2 => ?_)
      · try simp only [decide_eq_true_eq] at hb2
        all_goals (
          refine W_regionE (c := 15) (c' := 24) (by kernel_rfl) rfl ?_
          refine Runs_p rfl (Valid.movek (A := Is _) rfl rfl) rfl rfl ?_ -- ref.go:23 move
          refine Runs_p rfl (Valid.movek (A := Is _) rfl rfl) rfl rfl ?_ -- ref.go:23 move
          refine Runs_p rfl (Valid.movek (A := Is _) rfl rfl) rfl rfl ?_ -- ref.go:23 move
          refine Runs_p rfl (Valid.movek (A := Is _) rfl rfl) rfl rfl ?_ -- ref.go:23 move
          refine Runs_p rfl (Valid.movek (A := Is _) rfl rfl) rfl rfl ?_ -- ref.go:23 move
          refine Runs_p rfl (Valid.add rfl rfl rfl (room64 (by first | omega | (rw [ByteArray.size_extract]; omega)) (by first | omega | (rw [ByteArray.size_extract]; omega)))) rfl rfl ?_ -- ref.go:23 binOp
          refine Runs_p rfl (Valid.sslice rfl Try.underlying9 rfl rfl rfl (by first | omega | (simp only [Int.toNat_natCast, toNat_add, toNat_add1, List.length_append, List.length_cons, List.length_nil, List.length_replicate]; omega))) rfl rfl ?_ -- ref.go:23 slice
          refine Runs_p rfl (Valid.cat rfl rfl rfl (by first | omega | (rw [ByteArray.size_extract]; omega))) rfl rfl ?_ -- ref.go:23 binOp
          refine Runs_p rfl (Valid.assignk (A := Is _) rfl rfl) rfl rfl ?_ -- ref.go:23 assign
          refine Runs_nil ?_
          refine thenQ_n ?_
          refine W_regionE (c := 24) (c' := 28) (by kernel_rfl) rfl ?_
          refine Runs_p rfl (Valid.movek (A := Is _) rfl rfl) rfl rfl ?_ -- ref.go:27 move
          refine Runs_p rfl (Valid.movek (A := Is _) rfl rfl) rfl rfl ?_ -- ref.go:27 move
          refine Runs_p rfl (Valid.add rfl rfl rfl (room64 (by first | omega | (simp only [Int.toNat_natCast, toNat_add, toNat_add1, List.length_append, List.length_cons, List.length_nil, List.length_replicate]; omega)) (by first | omega | (simp only [Int.toNat_natCast, toNat_add, toNat_add1, List.length_append, List.length_cons, List.length_nil, List.length_replicate]; omega)))) rfl rfl ?_ -- ref.go:27 binOp
          refine Runs_p rfl (Valid.assignk (A := Is _) rfl rfl) rfl rfl ?_ -- ref.go:27 assign
          refine Runs_nil ?_
          refine blockQ_n ?_
          refine LoopQ.next ((a + rn (l.drop a), k + 1)) [] (⟨by simp only; omega, by simp only; exact hq.2.2, by simp only; omega⟩) (by simp only; omega) ⟨⟨(leq_is rfl rfl (by first | rfl | exact congrArg Value.string (rpk_n hq.1 hq.2.1 hb2) | exact congrArg Value.string (rpk_y hq.1 hq.2.1 hb2) | exact congrArg (Value.int .i64) (by simp only; omega))), (leq_is rfl rfl (by first | rfl | exact congrArg Value.string (rpk_n hq.1 hq.2.1 hb2) | exact congrArg Value.string (rpk_y hq.1 hq.2.1 hb2) | exact congrArg (Value.int .i64) (by simp only; omega))), trivial⟩, ⟨(leq_is rfl rfl rfl), trivial⟩, trivial, trivial, rfl, ⟨supg rfl, supg rfl, trivial⟩, ⟨supg rfl, trivial⟩, trivial, trivial, rfl, rfl⟩
          done)
      · try simp only [decide_eq_false_iff_not] at hb2
        all_goals (
          refine W_drawE (c := 15) (c' := 29) (by kernel_rfl) rfl ?_
          refine Runs_p rfl (Valid.movek (A := Is _) rfl rfl) rfl rfl ?_ -- ref.go:25 move
          refine Runs_p rfl (Valid.movek (A := Is _) rfl rfl) rfl rfl ?_ -- ref.go:25 move
          refine Runs_p rfl (Valid.movek (A := Is _) rfl rfl) rfl rfl ?_ -- ref.go:25 move
          refine Runs_p rfl (Valid.movek (A := Is _) rfl rfl) rfl rfl ?_ -- ref.go:25 move
          refine Runs_p rfl (Valid.add rfl rfl rfl (room64 (by first | omega | (rw [ByteArray.size_extract]; omega) | (rw [ByteArray.size_append, ByteArray.size_extract]; show _ + _ + 1 ≤ _; omega)) (by first | omega | (rw [ByteArray.size_extract]; omega) | (rw [ByteArray.size_append, ByteArray.size_extract]; show _ + _ + 1 ≤ _; omega)))) rfl rfl ?_ -- ref.go:25 binOp
          refine Runs_p rfl (Valid.sslice rfl Try.underlying9 rfl rfl rfl (by first | omega | (simp only [Int.toNat_natCast, toNat_add, toNat_add1, List.length_append, List.length_cons, List.length_nil, List.length_replicate]; omega))) rfl rfl ?_ -- ref.go:25 slice
          refine Runs_p rfl (Valid.cat rfl rfl rfl (by first | omega | (rw [ByteArray.size_extract]; omega) | (rw [ByteArray.size_append, ByteArray.size_extract]; show _ + _ + 1 ≤ _; omega))) rfl rfl ?_ -- ref.go:25 binOp
          refine Runs_p rfl (Valid.movek (A := Is _) rfl rfl) rfl rfl ?_ -- ref.go:25 move
          refine Runs_p rfl (Valid.sub rfl rfl rfl (room64 (by first | omega | (simp only [Int.toNat_natCast, toNat_add, toNat_add1, List.length_append, List.length_cons, List.length_nil, List.length_replicate]; omega)) (by first | omega | (simp only [Int.toNat_natCast, toNat_add, toNat_add1, List.length_append, List.length_cons, List.length_nil, List.length_replicate]; omega)))) rfl rfl ?_ -- ref.go:25 binOp
          refine Runs_p rfl (Valid.convr (a := ((u8 ((rn (l.drop a) : Int) - 4)).toNat : Int)) rfl (congrArg (fun z : Int => Is (Value.int .i64 z)) (u8_toNat (by omega)).symm) Try.underlying3 Try.underlying5 (by have := (u8 ((rn (l.drop a) : Int) - 4)).toNat_lt; unfold Room; rw [IntKind.wrap_u8]; omega)) rfl rfl ?_ -- ref.go:25 convert
          refine Runs_p rfl (Valid.lit (el := 5) ([u8 ((rn (l.drop a) : Int) - 4)].map B) rfl rfl (fun _ => by kernel_rfl) rfl (by decide)) rfl rfl ?_ -- ref.go:25 buildSlice
          refine Runs_p rfl (Valid.tostring rfl Try.underlying40 Try.underlying5 Try.underlying9 (Reads.sl rfl)) rfl rfl ?_ -- ref.go:25 convert
          refine Runs_p rfl (Valid.cat rfl rfl rfl (by first | omega | (rw [ByteArray.size_extract]; omega) | (rw [ByteArray.size_append, ByteArray.size_extract]; show _ + _ + 1 ≤ _; omega))) rfl rfl ?_ -- ref.go:25 binOp
          refine Runs_p rfl (Valid.assignk (A := Is _) rfl rfl) rfl rfl ?_ -- ref.go:25 assign
          refine Runs_nil ?_
          refine ⟨_, _, rfl, rfl, by kernel_rfl, ?_⟩
          refine thenQ_n ?_
          refine W_regionE (c := 29) (c' := 33) (by kernel_rfl) rfl ?_
          refine Runs_p rfl (Valid.movek (A := Is _) rfl rfl) rfl rfl ?_ -- ref.go:27 move
          refine Runs_p rfl (Valid.movek (A := Is _) rfl rfl) rfl rfl ?_ -- ref.go:27 move
          refine Runs_p rfl (Valid.add rfl rfl rfl (room64 (by first | omega | (simp only [Int.toNat_natCast, toNat_add, toNat_add1, List.length_append, List.length_cons, List.length_nil, List.length_replicate]; omega)) (by first | omega | (simp only [Int.toNat_natCast, toNat_add, toNat_add1, List.length_append, List.length_cons, List.length_nil, List.length_replicate]; omega)))) rfl rfl ?_ -- ref.go:27 binOp
          refine Runs_p rfl (Valid.assignk (A := Is _) rfl rfl) rfl rfl ?_ -- ref.go:27 assign
          refine Runs_nil ?_
          refine blockQ_n ?_
          refine LoopQ.next ((a + rn (l.drop a), k + 1)) [] (⟨by simp only; omega, by simp only; exact hq.2.2, by simp only; omega⟩) (by simp only; omega) ⟨⟨(leq_is rfl rfl (by first | rfl | exact congrArg Value.string (rpk_n hq.1 hq.2.1 hb2) | exact congrArg Value.string (rpk_y hq.1 hq.2.1 hb2) | exact congrArg (Value.int .i64) (by simp only; omega))), (leq_is rfl rfl (by first | rfl | exact congrArg Value.string (rpk_n hq.1 hq.2.1 hb2) | exact congrArg Value.string (rpk_y hq.1 hq.2.1 hb2) | exact congrArg (Value.int .i64) (by simp only; omega))), trivial⟩, ⟨(leq_is rfl rfl rfl), trivial⟩, trivial, trivial, rfl, ⟨supg rfl, supg rfl, trivial⟩, ⟨supg rfl, trivial⟩, trivial, trivial, rfl, rfl⟩
          done)
      done)
  · try simp only [decide_eq_false_iff_not] at hb1
    all_goals (
      refine W_exit ?_
      refine thenQ_e ?_
      refine loopQ_e ?_
      refine blockQ_x ?_
      refine thenQ_n ?_
      refine W_seq ?_
      refine W_regionE (c := 8) (c' := 10) (by kernel_rfl) rfl ?_
      refine Runs_p rfl (Valid.movek (A := Is _) rfl rfl) rfl rfl ?_ -- ref.go:29 move
      refine Runs_p rfl (Valid.assignk (A := Is _) rfl rfl) rfl rfl ?_ -- ref.go:29 assign
      refine Runs_nil ?_
      refine thenQ_n ?_
      refine W_ret ?_
      refine finQ_r ?_
      refine ResOk.one rfl (RVal.is rfl rfl (by rw [rpk_end hi2 hi3 (by omega)]))
      done)

/-- at a place where a run may begin -/
def okA (l : List UInt8) (i : Nat) : Prop := (stA l i).1 < 4 ∧ ((stA l i).1 = 0 ∨ l.length ≤ i ∨ l.getD i 0 ≠ (stA l i).2)
structure RunI (l : List UInt8) (i n : Nat) : Prop where
  n4 : n ≤ 4
  le : i + n ≤ l.length
  st : n = 0 ∨ stA l (i + n) = (n, l.getD i 0)
  ex : expK l (i + n) = expK l i ++ List.replicate n (l.getD i 0)
  eq : (l.drop i).take n = List.replicate n (l.getD i 0)
theorem expK_s {l : List UInt8} {i : Nat} (hi : i < l.length) : expK l (i + 1) = expK l i ++ List.replicate ((reps l).getD i (0, 0)).2.toNat ((reps l).getD i (0, 0)).1 := by
  rw [expK, expK, expI, expI, flat_succ _ _ (0, 0) (by rw [reps_len]; omega)]
theorem runI_0 {l : List UInt8} {i : Nat} (h : i ≤ l.length) : RunI l i 0 := ⟨by omega, by omega, .inl rfl, by simp, by simp⟩
theorem runI_s {l : List UInt8} {i n : Nat} (hok : okA l i) (h : RunI l i n) (h4 : n < 4) (hlt : i + n < l.length) (he : l.getD (i + n) 0 = l.getD i 0) : RunI l i (n + 1) := by
  have htk : (l.drop i).take (n + 1) = List.replicate (n + 1) (l.getD i 0) := by
    have hd : n < (l.drop i).length := by rw [List.length_drop]; omega
    rw [List.take_succ_eq_append_getElem hd, h.eq, List.replicate_succ', List.getElem_drop]
    congr 1
    rw [List.getD_eq_getElem?_getD, List.getElem?_eq_getElem hlt] at he
    exact congrArg (fun z => [z]) he
  by_cases h0 : n = 0
  · subst h0
    rw [Nat.add_zero] at hlt
    obtain ⟨o1, o2⟩ := hok
    have hn : ¬ (0 < (stA l i).1 ∧ l.getD i 0 = (stA l i).2) := fun ⟨h5, h6⟩ => by
      rcases o2 with o2 | o2 | o2
      · omega
      · omega
      · exact o2 h6
    have hg := reps_get l hlt
    rw [if_neg (by omega), if_neg hn] at hg
    have hs := stA_succ l hlt
    rw [if_neg (by omega), if_neg hn] at hs
    refine ⟨by omega, by omega, .inr hs, ?_, htk⟩
    rw [Nat.zero_add, expK_s hlt, hg]; rfl
  · have hst : stA l (i + n) = (n, l.getD i 0) := h.st.resolve_left h0
    have hy : 0 < (stA l (i + n)).1 ∧ l.getD (i + n) 0 = (stA l (i + n)).2 := by rw [hst]; exact ⟨by simp only; omega, he⟩
    have hg := reps_get l hlt
    rw [if_neg (by rw [hst]; simp only; omega), if_pos hy] at hg
    have hs := stA_succ l hlt
    rw [if_neg (by rw [hst]; simp only; omega), if_pos hy] at hs
    refine ⟨by omega, by omega, .inr (by rw [← Nat.add_assoc, hs, hst]), ?_, htk⟩
    rw [← Nat.add_assoc, expK_s hlt, hg, h.ex, hst]
    show expK l i ++ List.replicate n _ ++ List.replicate 1 (l.getD i 0) = _
    rw [List.append_assoc, List.replicate_append_replicate]
theorem run_cond {l : List UInt8} {i n : Nat} : (((n : Int) < 4 ∧ (i : Int) + (n : Int) < ((ba l).size : Int)) ∧ ((bat (ba l) ((i : Int) + (n : Int))).toNat : Int) = ((bat (ba l) (i : Int)).toNat : Int)) ↔ (n < 4 ∧ i + n < l.length ∧ l.getD (i + n) 0 = l.getD i 0) := by
  rw [u8_inj, show (i : Int) + (n : Int) = ((i + n : Nat) : Int) by omega, bat_ba, bat_ba, ba_size]
  constructor
  · intro ⟨⟨h3, h4⟩, h5⟩; exact ⟨by omega, by omega, h5⟩
  · intro ⟨h3, h4, h5⟩; exact ⟨⟨by omega, by omega⟩, h5⟩
/-- the run is at its end -/
theorem runI_end {l : List UInt8} {i n : Nat} (hi : i < l.length) (_hok : okA l i) (h : RunI l i n) (hb : ¬ (n < 4 ∧ i + n < l.length ∧ l.getD (i + n) 0 = l.getD i 0)) : 1 ≤ n ∧ stA l (i + n) = (n, l.getD i 0) ∧ (n < 4 → okA l (i + n)) := by
  have h1 : 1 ≤ n := by
    apply Classical.byContradiction
    intro h0
    have : n = 0 := by omega
    subst this
    exact hb ⟨by omega, by omega, rfl⟩
  have hst : stA l (i + n) = (n, l.getD i 0) := h.st.resolve_left (by omega)
  refine ⟨h1, hst, fun h4 => ⟨by rw [hst]; exact h4, ?_⟩⟩
  by_cases hl : l.length ≤ i + n
  · exact .inr (.inl hl)
  · exact .inr (.inr (by rw [hst]; exact fun e => hb ⟨h4, by omega, e⟩))
/-- a count -/
theorem cnt_s {l : List UInt8} {i : Nat} (_h : RunI l i 4) (hst : stA l (i + 4) = (4, l.getD i 0)) (hlt : i + 4 < l.length) : expK l (i + 5) = expK l (i + 4) ++ List.replicate (l.getD (i + 4) 0).toNat (l.getD i 0) ∧ okA l (i + 5) := by
  have hg := reps_get l hlt
  rw [if_pos (by rw [hst])] at hg
  have hs := stA_succ l hlt
  rw [if_pos (by rw [hst])] at hs
  refine ⟨?_, ?_⟩
  · rw [expK_s hlt, hg, hst]; rfl
  · rw [okA, show i + 5 = i + 4 + 1 from rfl, hs]; exact ⟨by show (0 : Nat) < 4; decide, .inl rfl⟩
def toldR (l : List UInt8) : List UInt8 × Bool := if lack l then ([], false) else (expI (reps l), true)
theorem told_lack {l : List UInt8} {i : Nat} (hst : stA l (i + 4) = (4, l.getD i 0)) (hle : i + 4 ≤ l.length) (h : l.length ≤ i + 4) : toldR l = ([], false) := by
  have : lack l := by rw [lack, show l.length = i + 4 by omega, hst]
  rw [toldR, if_pos this]
theorem told_end {l : List UInt8} {i : Nat} (hok : okA l i) (hi : i = l.length) : toldR l = (expK l i, true) := by
  subst hi
  have hn : ¬ lack l := fun h => by
    have := hok.1
    unfold lack at h; omega
  have hr := reps_len l
  rw [if_neg (show ¬ (stA l l.length).1 = 4 from hn)] at hr
  rw [toldR, if_neg hn, ← expK_end, hr]; rfl
theorem out_n {l : List UInt8} {i n : Nat} (h : RunI l i n) : ba (expK l i) ++ (ba l).extract ((i : Int)).toNat (((i : Int) + (n : Int))).toNat = ba (expK l (i + n)) := by
  rw [show ((i : Int) + (n : Int)).toNat = i + n by omega, Int.toNat_natCast, ba_sub, Nat.add_sub_cancel_left, ba_app, h.eq, h.ex]
theorem out_k {l : List UInt8} {i k : Nat} (h : i < l.length) : ba (expK l (i + 4) ++ List.replicate k (l.getD i 0)) ++ (ba l).extract ((i : Int)).toNat (((i : Int) + 1)).toNat = ba (expK l (i + 4) ++ List.replicate (k + 1) (l.getD i 0)) := by
  rw [show ((i : Int) + 1).toNat = i + 1 by omega, Int.toNat_natCast, ba_sub, Nat.add_sub_cancel_left, ba_app, List.append_assoc]
  have : (l.drop i).take 1 = [l.getD i 0] := by
    rw [drop_getD l 0 h]; rfl
  rw [this, ← List.replicate_succ']
theorem expK_bd (l : List UInt8) : ∀ i, i ≤ l.length → (expK l i).length ≤ 255 * i
  | 0, _ => by simp [expK, expI]
  | i + 1, h => by
    have ih := expK_bd l i (by omega)
    have hg := reps_ge (l := l) (i := i) (by omega)
    rw [expK_s (by omega), List.length_append, List.length_replicate]; omega

set_option maxRecDepth 100000 in
set_option maxHeartbeats 1000000 in
theorem rtold_s (l : List UInt8) (hl : l.length ≤ 1000000) :
    FPure Try.prog 29 [Is (.string (ba l))] (Tup [Is (.string (ba (toldR l).1)), Is (.bool (toldR l).2)]) := by
  refine FPure.of Try.func29 Try.ntmps29 rfl (by kernel_rfl) rfl rfl rfl ?_
  refine W_seq ?_
  refine W_regionE (c := 1) (c' := 3) (by kernel_rfl) rfl ?_
  refine Runs_p rfl (Valid.assignk (A := Is _) rfl rfl) rfl rfl ?_ -- ref.go:36 assign
  refine Runs_p rfl (Valid.assignk (A := Is _) rfl rfl) rfl rfl ?_ -- ref.go:36 assign
  refine Runs_nil ?_
  refine thenQ_n ?_
  refine W_seq ?_
  refine W_regionE (c := 3) (c' := 4) (by kernel_rfl) rfl ?_
  refine Runs_p rfl (Valid.assignk (A := Is _) rfl rfl) rfl rfl ?_ -- ref.go:37 assign
  refine Runs_nil ?_
  refine thenQ_n ?_
  refine W_seq ?_
  refine W_seq ?_
  refine W_regionE (c := 4) (c' := 5) (by kernel_rfl) rfl ?_
  refine Runs_p rfl (Valid.assignk (A := Is _) rfl rfl) rfl rfl ?_ -- ref.go:38 assign
  refine Runs_nil ?_
  refine thenQ_n ?_
  refine W_block ?_
  refine W_loopx (G := Nat) (fun (i : Nat) => i ≤ l.length ∧ okA l i) [(0, Is _)] (fun (i : Nat) => [(5, Is (.int .i64 (i : Int))), (4, Is (.string (ba (expK l i))))]) [] (fun (i : Nat) => []) 5 (fun (i : Nat) => l.length - i) (0) [] (⟨Nat.zero_le _, ⟨by show (0 : Nat) < 4; decide, .inl rfl⟩⟩) ⟨⟨(leq_is rfl rfl (by first | rfl)), (leq_is rfl rfl (by first | rfl)), trivial⟩, ⟨(leq_is rfl rfl rfl), trivial⟩, trivial, trivial, rfl, ⟨supg rfl, supg rfl, trivial⟩, ⟨supg rfl, trivial⟩, trivial, trivial, rfl, rfl⟩ ?_
  intro i hI1
  obtain ⟨hi1, hok⟩ := hI1
  have hbl : (ba l).size = l.length := rfl
  have hkl := expK_bd l i hi1
  have hkz : (ba (expK l i)).size = (expK l i).length := rfl
  refine W_seq ?_
  refine W_seq ?_
  refine W_regionE (c := 5) (c' := 9) (by kernel_rfl) rfl ?_
  refine Runs_p rfl (Valid.movek (A := Is _) rfl rfl) rfl rfl ?_ -- ref.go:38 move
  refine Runs_p rfl (Valid.movek (A := Is _) rfl rfl) rfl rfl ?_ -- ref.go:38 move
  refine Runs_p rfl (Valid.slen rfl Try.underlying9 rfl) rfl rfl ?_ -- ref.go:38 call
  refine Runs_p rfl (Valid.lss rfl rfl rfl) rfl rfl ?_ -- ref.go:38 binOp
  refine Runs_nil ?_
  refine thenQ_n ?_
  refine W_cond _ rfl (fun hb1 => ?_) (fun hb1 => ?_)
  · try simp only [decide_eq_true_eq] at hb1
    all_goals (
      refine W_skip ?_
      refine thenQ_n ?_
      refine W_block ?_
      refine W_seq ?_
      refine W_regionE (c := 9) (c' := 10) (by kernel_rfl) rfl ?_
      refine Runs_p rfl (Valid.assignk (A := Is _) rfl rfl) rfl rfl ?_ -- ref.go:39 assign
      refine Runs_nil ?_
      refine thenQ_n ?_
      refine W_seq ?_
      refine W_block ?_
      refine W_loopx (G := Nat) (fun (n : Nat) => RunI l i n) [(0, Is _), (4, Is _), (5, Is _)] (fun (n : Nat) => [(6, Is (.int .i64 (n : Int)))]) [] (fun (n : Nat) => []) 10 (fun (n : Nat) => 5 - n) (0) [] (runI_0 hi1) ⟨⟨(leq_is rfl rfl (by first | rfl | (simp; done) | omega | (simp [toNat_add, toNat_add1, Nat.add_assoc]; done) | (simp [toNat_add, toNat_add1]; omega))), trivial⟩, ⟨(leq_is rfl rfl rfl), (leq_is rfl rfl rfl), (leq_is rfl rfl rfl), trivial⟩, trivial, trivial, rfl, ⟨supg rfl, trivial⟩, ⟨supg rfl, supg rfl, supg rfl, trivial⟩, trivial, trivial, rfl, rfl⟩ ?_
      intro n hI2
      have hR := hI2
      have hr1 := hR.n4
      have hr2 := hR.le
      refine W_seq ?_
      refine W_seq ?_
      refine W_drawE (c := 10) (c' := 31) (by kernel_rfl) rfl ?_
      refine Runs_p rfl (Valid.movek (A := Is _) rfl rfl) rfl rfl ?_ -- ref.go:40 move
      refine Runs_p rfl (Valid.lss rfl rfl rfl) rfl rfl ?_ -- ref.go:40 binOp
      refine Runs_p rfl (Valid.movek (A := Is _) rfl rfl) rfl rfl ?_ -- ref.go:40 move
      refine Runs_cnd rfl rfl (Grd.is rfl) [] (fun hg => trivial) (fun hg => Valid.movek (A := Is _) rfl rfl) (by rfl) rfl ?_
      refine Runs_cnd rfl rfl (Grd.is rfl) [] (fun hg => trivial) (fun hg => Valid.movek (A := Is _) rfl rfl) (by rfl) rfl ?_
      refine Runs_cnd rfl rfl (Grd.is rfl) [(15, _), (16, _)] (fun hg => ⟨cnd_at rfl (by first | exact hg | exact hg.1 | exact hg.1.1 | exact hg.1.1.1), cnd_at rfl (by first | exact hg | exact hg.1 | exact hg.1.1 | exact hg.1.1.1), trivial⟩) (fun hg => Valid.add rfl rfl rfl (room64 (by (try simp only [decide_eq_true_eq] at hg); first | omega | (simp only [Int.toNat_natCast, toNat_add, toNat_add1, List.length_append, List.length_cons, List.length_nil, List.length_replicate]; omega)) (by (try simp only [decide_eq_true_eq] at hg); first | omega | (simp only [Int.toNat_natCast, toNat_add, toNat_add1, List.length_append, List.length_cons, List.length_nil, List.length_replicate]; omega)))) (by rfl) rfl ?_
      refine Runs_cnd rfl rfl (Grd.is rfl) [] (fun hg => trivial) (fun hg => Valid.movek (A := Is _) rfl rfl) (by rfl) rfl ?_
      refine Runs_cnd rfl rfl (Grd.is rfl) [(18, _)] (fun hg => ⟨cnd_at rfl (by first | exact hg | exact hg.1 | exact hg.1.1 | exact hg.1.1.1), trivial⟩) (fun hg => Valid.slen rfl Try.underlying9 rfl) (by rfl) rfl ?_
      refine Runs_cnd rfl rfl (Grd.is rfl) [(17, _), (19, _)] (fun hg => ⟨cnd_at rfl (by first | exact hg | exact hg.1 | exact hg.1.1 | exact hg.1.1.1), cnd_at rfl (by first | exact hg | exact hg.1 | exact hg.1.1 | exact hg.1.1.1), trivial⟩) (fun hg => Valid.lss rfl rfl rfl) (by rfl) rfl ?_
      refine Runs_p rfl (Valid.pickand rfl rfl rfl (fun h => by first | exact h | exact ⟨hg, h⟩) rfl) rfl rfl ?_ -- ref.go:40 pick
      refine Runs_p rfl (Valid.movek (A := Is _) rfl rfl) rfl rfl ?_ -- ref.go:40 move
      refine Runs_cnd rfl rfl (Grd.is rfl) [] (fun hg => trivial) (fun hg => Valid.movek (A := Is _) rfl rfl) (by rfl) rfl ?_
      refine Runs_cnd rfl rfl (Grd.is rfl) [] (fun hg => trivial) (fun hg => Valid.movek (A := Is _) rfl rfl) (by rfl) rfl ?_
      refine Runs_cnd rfl rfl (Grd.is rfl) [] (fun hg => trivial) (fun hg => Valid.movek (A := Is _) rfl rfl) (by rfl) rfl ?_
      refine Runs_cnd rfl rfl (Grd.is rfl) [(24, _), (25, _)] (fun hg => ⟨cnd_at rfl (by first | exact hg | exact hg.1 | exact hg.1.1 | exact hg.1.1.1), cnd_at rfl (by first | exact hg | exact hg.1 | exact hg.1.1 | exact hg.1.1.1), trivial⟩) (fun hg => Valid.add rfl rfl rfl (room64 (by (try simp only [decide_eq_true_eq, Bool.and_eq_true] at hg); first | omega | (simp only [Int.toNat_natCast, toNat_add, toNat_add1, List.length_append, List.length_cons, List.length_nil, List.length_replicate]; omega)) (by (try simp only [decide_eq_true_eq, Bool.and_eq_true] at hg); first | omega | (simp only [Int.toNat_natCast, toNat_add, toNat_add1, List.length_append, List.length_cons, List.length_nil, List.length_replicate]; omega)))) (by rfl) rfl ?_
      refine Runs_cnd rfl rfl (Grd.is rfl) [(23, _), (26, _)] (fun hg => ⟨cnd_at rfl (by first | exact hg | exact hg.1 | exact hg.1.1 | exact hg.1.1.1), cnd_at rfl (by first | exact hg | exact hg.1 | exact hg.1.1 | exact hg.1.1.1), trivial⟩) (fun hg => Valid.sindex rfl Try.underlying9 rfl rfl (by (try simp only [decide_eq_true_eq, Bool.and_eq_true] at hg); first | omega | (simp only [Int.toNat_natCast, toNat_add, toNat_add1, List.length_append, List.length_cons, List.length_nil, List.length_replicate]; omega))) (by rfl) rfl ?_
      refine Runs_cnd rfl rfl (Grd.is rfl) [] (fun hg => trivial) (fun hg => Valid.movek (A := Is _) rfl rfl) (by rfl) rfl ?_
      refine Runs_cnd rfl rfl (Grd.is rfl) [] (fun hg => trivial) (fun hg => Valid.movek (A := Is _) rfl rfl) (by rfl) rfl ?_
      refine Runs_cnd rfl rfl (Grd.is rfl) [(28, _), (29, _)] (fun hg => ⟨cnd_at rfl (by first | exact hg | exact hg.1 | exact hg.1.1 | exact hg.1.1.1), cnd_at rfl (by first | exact hg | exact hg.1 | exact hg.1.1 | exact hg.1.1.1), trivial⟩) (fun hg => Valid.sindex rfl Try.underlying9 rfl rfl (by (try simp only [decide_eq_true_eq, Bool.and_eq_true] at hg); first | omega | (simp only [Int.toNat_natCast, toNat_add, toNat_add1, List.length_append, List.length_cons, List.length_nil, List.length_replicate]; omega))) (by rfl) rfl ?_
      refine Runs_cnd rfl rfl (Grd.is rfl) [(27, _), (30, _)] (fun hg => ⟨cnd_at rfl (by first | exact hg | exact hg.1 | exact hg.1.1 | exact hg.1.1.1), cnd_at rfl (by first | exact hg | exact hg.1 | exact hg.1.1 | exact hg.1.1.1), trivial⟩) (fun hg => Valid.eql rfl rfl rfl) (by rfl) rfl ?_
      refine Runs_p rfl (Valid.pickand rfl rfl rfl (fun h => by first | exact h | exact ⟨hg, h⟩) rfl) rfl rfl ?_ -- ref.go:40 pick
      refine Runs_nil ?_
      refine ⟨_, _, rfl, rfl, by kernel_rfl, ?_⟩
      refine thenQ_n ?_
      refine W_cond _ rfl (fun hb2 => ?_) (fun hb2 => ?_)
      · try simp only [decide_eq_true_eq, Bool.and_eq_true] at hb2
        all_goals (
          refine W_skip ?_
          refine thenQ_n ?_
          refine W_block ?_
          refine W_regionE (c := 31) (c' := 34) (by kernel_rfl) rfl ?_
          refine Runs_p rfl (Valid.movek (A := Is _) rfl rfl) rfl rfl ?_ -- ref.go:41 move
          refine Runs_p rfl (Valid.add rfl rfl rfl (room64 (by first | omega | (simp only [Int.toNat_natCast, toNat_add, toNat_add1, List.length_append, List.length_cons, List.length_nil, List.length_replicate]; omega)) (by first | omega | (simp only [Int.toNat_natCast, toNat_add, toNat_add1, List.length_append, List.length_cons, List.length_nil, List.length_replicate]; omega)))) rfl rfl ?_ -- ref.go:41 binOp
          refine Runs_p rfl (Valid.assignk (A := Is _) rfl rfl) rfl rfl ?_ -- ref.go:41 assign
          refine Runs_nil ?_
          refine blockQ_n ?_
          refine LoopQ.next (n + 1) [] (by obtain ⟨c1, c2, c3⟩ := run_cond.1 (by simpa using hb2); exact runI_s hok hR c1 c2 c3) (by omega) ⟨⟨(leq_is rfl rfl (by first | rfl | (simp; done) | omega | (simp [toNat_add, toNat_add1, Nat.add_assoc]; done) | (simp [toNat_add, toNat_add1]; omega))), trivial⟩, ⟨(leq_is rfl rfl rfl), (leq_is rfl rfl rfl), (leq_is rfl rfl rfl), trivial⟩, trivial, trivial, rfl, ⟨supg rfl, trivial⟩, ⟨supg rfl, supg rfl, supg rfl, trivial⟩, trivial, trivial, rfl, rfl⟩
          done)
      · try simp only [decide_eq_false_iff_not, Bool.and_eq_false_iff] at hb2
        all_goals (
          refine W_exit ?_
          refine thenQ_e ?_
          refine loopQ_e ?_
          refine blockQ_x ?_
          refine thenQ_n ?_
          refine W_seq ?_
          have hE := runI_end (by omega) hok hR (fun h => by have h2 := run_cond.2 h; simp at hb2; omega)
          refine W_regionE (c := 31) (c' := 40) (by kernel_rfl) rfl ?_
          refine Runs_p rfl (Valid.movek (A := Is _) rfl rfl) rfl rfl ?_ -- ref.go:43 move
          refine Runs_p rfl (Valid.movek (A := Is _) rfl rfl) rfl rfl ?_ -- ref.go:43 move
          refine Runs_p rfl (Valid.movek (A := Is _) rfl rfl) rfl rfl ?_ -- ref.go:43 move
          refine Runs_p rfl (Valid.movek (A := Is _) rfl rfl) rfl rfl ?_ -- ref.go:43 move
          refine Runs_p rfl (Valid.movek (A := Is _) rfl rfl) rfl rfl ?_ -- ref.go:43 move
          refine Runs_p rfl (Valid.add rfl rfl rfl (room64 (by first | omega | (rw [ByteArray.size_extract]; omega)) (by first | omega | (rw [ByteArray.size_extract]; omega)))) rfl rfl ?_ -- ref.go:43 binOp
          refine Runs_p rfl (Valid.sslice rfl Try.underlying9 rfl rfl rfl (by first | omega | (simp only [Int.toNat_natCast, toNat_add, toNat_add1, List.length_append, List.length_cons, List.length_nil, List.length_replicate]; omega))) rfl rfl ?_ -- ref.go:43 slice
          refine Runs_p rfl (Valid.cat rfl rfl rfl (by first | omega | (rw [ByteArray.size_extract]; omega))) rfl rfl ?_ -- ref.go:43 binOp
          refine Runs_p rfl (Valid.assignk (A := Is _) rfl rfl) rfl rfl ?_ -- ref.go:43 assign
          refine Runs_nil ?_
          refine thenQ_n ?_
          refine W_seq ?_
          refine W_seq ?_
          refine W_regionE (c := 40) (c' := 42) (by kernel_rfl) rfl ?_
          refine Runs_p rfl (Valid.movek (A := Is _) rfl rfl) rfl rfl ?_ -- ref.go:44 move
          refine Runs_p rfl (Valid.lss rfl rfl rfl) rfl rfl ?_ -- ref.go:44 binOp
          refine Runs_nil ?_
          refine thenQ_n ?_
          refine W_cond _ rfl (fun hb3 => ?_) (fun hb3 => ?_)
          · try simp only [decide_eq_true_eq] at hb3
            all_goals (
              refine W_seq ?_
              refine W_regionE (c := 42) (c' := 46) (by kernel_rfl) rfl ?_
              refine Runs_p rfl (Valid.movek (A := Is _) rfl rfl) rfl rfl ?_ -- ref.go:45 move
              refine Runs_p rfl (Valid.movek (A := Is _) rfl rfl) rfl rfl ?_ -- ref.go:45 move
              refine Runs_p rfl (Valid.add rfl rfl rfl (room64 (by first | omega | (simp only [Int.toNat_natCast, toNat_add, toNat_add1, List.length_append, List.length_cons, List.length_nil, List.length_replicate]; omega)) (by first | omega | (simp only [Int.toNat_natCast, toNat_add, toNat_add1, List.length_append, List.length_cons, List.length_nil, List.length_replicate]; omega)))) rfl rfl ?_ -- ref.go:45 binOp
              refine Runs_p rfl (Valid.assignk (A := Is _) rfl rfl) rfl rfl ?_ -- ref.go:45 assign
              refine Runs_nil ?_
              refine thenQ_n ?_
              refine W_exit ?_
              refine thenQ_e ?_
              refine blockQ_x ?_
              refine LoopQ.next (i + n) [] (by first | exact ⟨by omega, hE.2.2 (by omega)⟩ | exact ⟨by omega, hC.2⟩) (by omega) ⟨⟨(leq_is rfl rfl (by first | rfl | exact congrArg Value.string (out_n hR) | exact congrArg (Value.int .i64) (by omega) | exact congrArg Value.string (by rw [hC.1, hkc]))), (leq_is rfl rfl (by first | rfl | exact congrArg Value.string (out_n hR) | exact congrArg (Value.int .i64) (by omega) | exact congrArg Value.string (by rw [hC.1, hkc]))), trivial⟩, ⟨(leq_is rfl rfl rfl), trivial⟩, trivial, trivial, rfl, ⟨supg rfl, supg rfl, trivial⟩, ⟨supg rfl, trivial⟩, trivial, trivial, rfl, rfl⟩
              done)
          · try simp only [decide_eq_false_iff_not] at hb3
            all_goals (
              refine W_skip ?_
              refine thenQ_n ?_
              refine W_seq ?_
              refine W_seq ?_
              have h4n : n = 4 := by omega
              subst h4n
              have hbt : (bat (ba l) ((i : Int) + 4)).toNat = (l.getD (i + 4) 0).toNat := by rw [show (i : Int) + 4 = ((i + 4 : Nat) : Int) by omega]; rfl
              have hbu := (l.getD (i + 4) 0).toNat_lt
              refine W_regionE (c := 42) (c' := 47) (by kernel_rfl) rfl ?_
              refine Runs_p rfl (Valid.movek (A := Is _) rfl rfl) rfl rfl ?_ -- ref.go:48 move
              refine Runs_p rfl (Valid.add rfl rfl rfl (room64 (by first | omega | (simp only [Int.toNat_natCast, toNat_add, toNat_add1, List.length_append, List.length_cons, List.length_nil, List.length_replicate]; omega)) (by first | omega | (simp only [Int.toNat_natCast, toNat_add, toNat_add1, List.length_append, List.length_cons, List.length_nil, List.length_replicate]; omega)))) rfl rfl ?_ -- ref.go:48 binOp
              refine Runs_p rfl (Valid.movek (A := Is _) rfl rfl) rfl rfl ?_ -- ref.go:48 move
              refine Runs_p rfl (Valid.slen rfl Try.underlying9 rfl) rfl rfl ?_ -- ref.go:48 call
              refine Runs_p rfl (Valid.geq rfl rfl rfl) rfl rfl ?_ -- ref.go:48 binOp
              refine Runs_nil ?_
              refine thenQ_n ?_
              refine W_cond _ rfl (fun hb4 => ?_) (fun hb4 => ?_)
              · try simp only [decide_eq_true_eq] at hb4
                all_goals (
                  refine W_seq ?_
                  refine W_regionE (c := 47) (c' := 49) (by kernel_rfl) rfl ?_
                  refine Runs_p rfl (Valid.assignk (A := Is _) rfl rfl) rfl rfl ?_ -- ref.go:49 assign
                  refine Runs_p rfl (Valid.assignk (A := Is _) rfl rfl) rfl rfl ?_ -- ref.go:49 assign
                  refine Runs_nil ?_
                  refine thenQ_n ?_
                  refine W_ret ?_
                  refine thenQ_r ?_
                  refine blockQ_r ?_
                  refine loopQ_r ?_
                  refine blockQ_r ?_
                  refine thenQ_r ?_
                  refine finQ_r ?_
                  refine ResOk.two rfl (RVal.is rfl rfl (by first | (rw [told_lack hE.2.1 (by omega) (by omega)]; done) | (rw [told_lack hE.2.1 (by omega) (by omega)]; rfl) | (rw [told_end hok (by omega)]; done))) (RVal.is rfl rfl (by first | (rw [told_lack hE.2.1 (by omega) (by omega)]; done) | (rw [told_lack hE.2.1 (by omega) (by omega)]; rfl) | (rw [told_end hok (by omega)]; done)))
                  done)
              · try simp only [decide_eq_false_iff_not] at hb4
                all_goals (
                  refine W_skip ?_
                  refine thenQ_n ?_
                  refine W_seq ?_
                  refine W_seq ?_
                  refine W_regionE (c := 47) (c' := 48) (by kernel_rfl) rfl ?_
                  refine Runs_p rfl (Valid.assignk (A := Is _) rfl rfl) rfl rfl ?_ -- ref.go:51 assign
                  refine Runs_nil ?_
                  refine thenQ_n ?_
                  refine W_block ?_
                  refine W_loopx (G := Nat) (fun (k : Nat) => k ≤ (l.getD (i + 4) 0).toNat) [(0, Is _), (5, Is _)] (fun (k : Nat) => [(7, Is (.int .i64 (k : Int))), (4, Is (.string (ba (expK l (i + 4) ++ List.replicate k (l.getD i 0)))))]) [] (fun (k : Nat) => []) 48 (fun (k : Nat) => 256 - k) (0) [] (Nat.zero_le _) ⟨⟨(leq_is rfl rfl (by first | rfl | exact congrArg Value.string (by rw [List.replicate_zero, List.append_nil]; exact out_n hR))), (leq_is rfl rfl (by first | rfl | exact congrArg Value.string (by rw [List.replicate_zero, List.append_nil]; exact out_n hR))), trivial⟩, ⟨(leq_is rfl rfl rfl), (leq_is rfl rfl rfl), trivial⟩, trivial, trivial, rfl, ⟨supg rfl, supg rfl, trivial⟩, ⟨supg rfl, supg rfl, trivial⟩, trivial, trivial, rfl, rfl⟩ ?_
                  intro k hI3
                  have hk4 := expK_bd l (i + 4) (by omega)
                  have hks : (ba (expK l (i + 4) ++ List.replicate k (l.getD i 0))).size = (expK l (i + 4)).length + k := by rw [ba_size, List.length_append, List.length_replicate]
                  refine W_seq ?_
                  refine W_seq ?_
                  refine W_regionE (c := 48) (c' := 55) (by kernel_rfl) rfl ?_
                  refine Runs_p rfl (Valid.movek (A := Is _) rfl rfl) rfl rfl ?_ -- ref.go:51 move
                  refine Runs_p rfl (Valid.movek (A := Is _) rfl rfl) rfl rfl ?_ -- ref.go:51 move
                  refine Runs_p rfl (Valid.movek (A := Is _) rfl rfl) rfl rfl ?_ -- ref.go:51 move
                  refine Runs_p rfl (Valid.add rfl rfl rfl (room64 (by first | omega | (simp only [Int.toNat_natCast, toNat_add, toNat_add1, List.length_append, List.length_cons, List.length_nil, List.length_replicate]; omega)) (by first | omega | (simp only [Int.toNat_natCast, toNat_add, toNat_add1, List.length_append, List.length_cons, List.length_nil, List.length_replicate]; omega)))) rfl rfl ?_ -- ref.go:51 binOp
                  refine Runs_p rfl (Valid.sindex rfl Try.underlying9 rfl rfl (by first | omega | (simp only [Int.toNat_natCast, toNat_add, toNat_add1, List.length_append, List.length_cons, List.length_nil, List.length_replicate]; omega))) rfl rfl ?_ -- ref.go:51 index
                  refine Runs_p rfl (Valid.convr rfl rfl Try.underlying5 Try.underlying3 (room64 (by omega) (by omega))) rfl rfl ?_ -- ref.go:51 convert
                  refine Runs_p rfl (Valid.lss rfl rfl rfl) rfl rfl ?_ -- ref.go:51 binOp
                  refine Runs_nil ?_
                  refine thenQ_n ?_
                  refine W_cond _ rfl (fun hb5 => ?_) (fun hb5 => ?_)
                  · try simp only [decide_eq_true_eq] at hb5
                    all_goals (
                      refine W_skip ?_
                      refine thenQ_n ?_
                      refine W_seq ?_
                      refine W_block ?_
                      refine W_regionE (c := 55) (c' := 63) (by kernel_rfl) rfl ?_
                      refine Runs_p rfl (Valid.movek (A := Is _) rfl rfl) rfl rfl ?_ -- ref.go:52 move
                      refine Runs_p rfl (Valid.movek (A := Is _) rfl rfl) rfl rfl ?_ -- ref.go:52 move
                      refine Runs_p rfl (Valid.movek (A := Is _) rfl rfl) rfl rfl ?_ -- ref.go:52 move
                      refine Runs_p rfl (Valid.movek (A := Is _) rfl rfl) rfl rfl ?_ -- ref.go:52 move
                      refine Runs_p rfl (Valid.add rfl rfl rfl (room64 (by first | omega | (rw [ByteArray.size_extract]; omega)) (by first | omega | (rw [ByteArray.size_extract]; omega)))) rfl rfl ?_ -- ref.go:52 binOp
                      refine Runs_p rfl (Valid.sslice rfl Try.underlying9 rfl rfl rfl (by first | omega | (simp only [Int.toNat_natCast, toNat_add, toNat_add1, List.length_append, List.length_cons, List.length_nil, List.length_replicate]; omega))) rfl rfl ?_ -- ref.go:52 slice
                      refine Runs_p rfl (Valid.cat rfl rfl rfl (by first | omega | (rw [ByteArray.size_extract]; omega))) rfl rfl ?_ -- ref.go:52 binOp
                      refine Runs_p rfl (Valid.assignk (A := Is _) rfl rfl) rfl rfl ?_ -- ref.go:52 assign
                      refine Runs_nil ?_
                      refine blockQ_n ?_
                      refine thenQ_n ?_
                      refine W_regionE (c := 63) (c' := 66) (by kernel_rfl) rfl ?_
                      refine Runs_p rfl (Valid.movek (A := Is _) rfl rfl) rfl rfl ?_ -- ref.go:51 move
                      refine Runs_p rfl (Valid.add rfl rfl rfl (room64 (by first | omega | (simp only [Int.toNat_natCast, toNat_add, toNat_add1, List.length_append, List.length_cons, List.length_nil, List.length_replicate]; omega)) (by first | omega | (simp only [Int.toNat_natCast, toNat_add, toNat_add1, List.length_append, List.length_cons, List.length_nil, List.length_replicate]; omega)))) rfl rfl ?_ -- ref.go:51 binOp
                      refine Runs_p rfl (Valid.assignk (A := Is _) rfl rfl) rfl rfl ?_ -- ref.go:51 assign
                      refine Runs_nil ?_
                      refine LoopQ.next (k + 1) [] (by omega) (by omega) ⟨⟨(leq_is rfl rfl (by first | rfl | exact congrArg Value.string (out_k (by omega)))), (leq_is rfl rfl (by first | rfl | exact congrArg Value.string (out_k (by omega)))), trivial⟩, ⟨(leq_is rfl rfl rfl), (leq_is rfl rfl rfl), trivial⟩, trivial, trivial, rfl, ⟨supg rfl, supg rfl, trivial⟩, ⟨supg rfl, supg rfl, trivial⟩, trivial, trivial, rfl, rfl⟩
                      done)
                  · try simp only [decide_eq_false_iff_not] at hb5
                    all_goals (
                      refine W_exit ?_
                      refine thenQ_e ?_
                      refine loopQ_e ?_
                      refine blockQ_x ?_
                      refine thenQ_n ?_
                      have hC := cnt_s hR hE.2.1 (by omega)
                      have hkc : k = (l.getD (i + 4) 0).toNat := by omega
                      refine W_regionE (c := 55) (c' := 58) (by kernel_rfl) rfl ?_
                      refine Runs_p rfl (Valid.movek (A := Is _) rfl rfl) rfl rfl ?_ -- ref.go:54 move
                      refine Runs_p rfl (Valid.add rfl rfl rfl (room64 (by first | omega | (simp only [Int.toNat_natCast, toNat_add, toNat_add1, List.length_append, List.length_cons, List.length_nil, List.length_replicate]; omega)) (by first | omega | (simp only [Int.toNat_natCast, toNat_add, toNat_add1, List.length_append, List.length_cons, List.length_nil, List.length_replicate]; omega)))) rfl rfl ?_ -- ref.go:54 binOp
                      refine Runs_p rfl (Valid.assignk (A := Is _) rfl rfl) rfl rfl ?_ -- ref.go:54 assign
                      refine Runs_nil ?_
                      refine blockQ_n ?_
                      refine LoopQ.next (i + 5) [] (by first | exact ⟨by omega, hE.2.2 (by omega)⟩ | exact ⟨by omega, hC.2⟩) (by omega) ⟨⟨(leq_is rfl rfl (by first | rfl | exact congrArg Value.string (out_n hR) | exact congrArg (Value.int .i64) (by omega) | exact congrArg Value.string (by rw [hC.1, hkc]))), (leq_is rfl rfl (by first | rfl | exact congrArg Value.string (out_n hR) | exact congrArg (Value.int .i64) (by omega) | exact congrArg Value.string (by rw [hC.1, hkc]))), trivial⟩, ⟨(leq_is rfl rfl rfl), trivial⟩, trivial, trivial, rfl, ⟨supg rfl, supg rfl, trivial⟩, ⟨supg rfl, trivial⟩, trivial, trivial, rfl, rfl⟩
                      done)
                  done)
              done)
          done)
      done)
  · try simp only [decide_eq_false_iff_not] at hb1
    all_goals (
      refine W_exit ?_
      refine thenQ_e ?_
      refine loopQ_e ?_
      refine blockQ_x ?_
      refine thenQ_n ?_
      refine W_seq ?_
      refine W_regionE (c := 9) (c' := 12) (by kernel_rfl) rfl ?_
      refine Runs_p rfl (Valid.movek (A := Is _) rfl rfl) rfl rfl ?_ -- ref.go:56 move
      refine Runs_p rfl (Valid.assignk (A := Is _) rfl rfl) rfl rfl ?_ -- ref.go:56 assign
      refine Runs_p rfl (Valid.assignk (A := Is _) rfl rfl) rfl rfl ?_ -- ref.go:56 assign
      refine Runs_nil ?_
      refine thenQ_n ?_
      refine W_ret ?_
      refine finQ_r ?_
      refine ResOk.two rfl (RVal.is rfl rfl (by first | (rw [told_lack hE.2.1 (by omega) (by omega)]; done) | (rw [told_lack hE.2.1 (by omega) (by omega)]; rfl) | (rw [told_end hok (by omega)]; done))) (RVal.is rfl rfl (by first | (rw [told_lack hE.2.1 (by omega) (by omega)]; done) | (rw [told_lack hE.2.1 (by omega) (by omega)]; rfl) | (rw [told_end hok (by omega)]; done)))
      done)
end Ri
end Go.Proofs.Ytmilegikgbmjpaa
