/-
  WALKS of stage 4: pieces and repeats; how long, how much has room.
-/
import Derived.Test.YtmilegikgbmjpaaRows
import Derived.Test.YtmilegikgbmjpaaRa
namespace Go.Proofs.Ytmilegikgbmjpaa
open Go.RowKit
namespace Rb
open Ab Rl Rl Ra
theorem ag9 (w : World) : (isAgg 9).run Try.prog w = .ok false w := by kernel_rfl
theorem len_ba (s : ByteArray) : s.data.toList.length = s.size := rfl
theorem bat_d (s : ByteArray) (a m : Nat) : bat s ((a : Int) + (m : Int)) = (s.data.toList.drop a).getD m 0 := by
  rw [show (a : Int) + (m : Int) = ((a + m : Nat) : Int) by omega, bat, Int.toNat_natCast]
  simp [List.getD_eq_getElem?_getD, List.getElem?_drop]
theorem bat_0 (s : ByteArray) (a : Nat) : bat s (a : Int) = (s.data.toList.drop a).getD 0 0 := by
  rw [bat, Int.toNat_natCast]
  simp [List.getD_eq_getElem?_getD, List.getElem?_drop]
theorem bat_1 (s : ByteArray) (a : Nat) : bat s (a : Int) = s.data.toList.getD a 0 := rfl
theorem u8_inj {a b : UInt8} : ((a.toNat : Int) = (b.toNat : Int)) ↔ a = b := ⟨fun h => UInt8.toNat_inj.1 (by omega), fun h => by rw [h]⟩
theorem run_step {s : ByteArray} {a m : Nat} (h1 : 1 ≤ m) (h2 : m ≤ rn (s.data.toList.drop a)) : (((m : Int) < 255 ∧ (a : Int) + (m : Int) < (s.size : Int)) ∧ ((bat s ((a : Int) + (m : Int))).toNat : Int) = ((bat s (a : Int)).toNat : Int)) ↔ m < rn (s.data.toList.drop a) := by
  rw [← rn_step h1 h2, u8_inj, bat_d, bat_0, List.length_drop, len_ba]
  constructor
  · intro ⟨⟨h3, h4⟩, h5⟩; exact ⟨by omega, by omega, h5⟩
  · intro ⟨h3, h4, h5⟩; exact ⟨⟨by omega, by omega⟩, h5⟩

theorem rn1 {s : ByteArray} {a : Nat} (h : (a : Int) < (s.size : Int)) : 1 ≤ rn (s.data.toList.drop a) := (rn_pos (fun e => by
  have := congrArg List.length e
  rw [List.length_drop, len_ba] at this; simp at this; omega)).1
theorem rn2 {s : ByteArray} {a : Nat} (h : (a : Int) < (s.size : Int)) : a + rn (s.data.toList.drop a) ≤ s.size := by
  have := (rn_pos (l := s.data.toList.drop a) (fun e => by
    have := congrArg List.length e
    rw [List.length_drop, len_ba] at this; simp at this; omega)).2.1
  rw [List.length_drop, len_ba] at this; omega

set_option maxRecDepth 100000 in
set_option maxHeartbeats 1000000 in
theorem pcs_it (s : ByteArray) (hs : s.size ≤ 1000000000000) :
    FIter Try.prog 32 [Elt [.string s]] ((pcs s.data.toList).length) (fun q => [Is (.int .u8 (((pcs s.data.toList).getD q (0, 0)).1.toNat : Int)), Is (.int .i64 (((pcs s.data.toList).getD q (0, 0)).2 : Int))]) := by
  refine FIter.of Try.func32 Try.ntmps32 rfl (by kernel_rfl) rfl rfl (fun _ => rfl) (fun l_ go_ => ?_)
  refine W_seq ?_
  refine W_regionE (c := 1) (c' := 2) (by kernel_rfl) rfl ?_
  refine Runs_p rfl (Valid.assignk (A := Is _) rfl rfl) rfl rfl ?_ -- rle.go:68 assign
  refine Runs_nil ?_
  refine thenQ_n ?_
  refine W_block ?_
  refine W_loopx (G := Nat × Nat) (fun (g : Nat × Nat) => g.1 ≤ s.size ∧ pcs (s.data.toList.drop g.1) = (pcs s.data.toList).drop g.2 ∧ g.2 ≤ (pcs s.data.toList).length ∧ ∀ j, j < g.2 → go_ j = true) [(0, Is _), (1, Elt _)] (fun (g : Nat × Nat) => [(3, Is (.int .i64 (g.1 : Int)))]) [] (fun (g : Nat × Nat) => [(0, .idx ⟨l_, (pcs s.data.toList).length, fun q => [Is (.int .u8 (((pcs s.data.toList).getD q (0, 0)).1.toNat : Int)), Is (.int .i64 (((pcs s.data.toList).getD q (0, 0)).2 : Int))], go_⟩ (g.2))]) 2 (fun (g : Nat × Nat) => s.size - g.1) ((0, 0)) [] (⟨Nat.zero_le _, rfl, Nat.zero_le _, fun j hj => absurd hj (Nat.not_lt_zero _)⟩) ⟨⟨(leq_is rfl rfl (by first | rfl | (simp; done) | omega | (simp [toNat_add, toNat_add1, Nat.add_assoc]; done) | (simp [toNat_add, toNat_add1]; omega))), trivial⟩, ⟨(leq_is rfl rfl rfl), (leq_elt rfl rfl rfl), trivial⟩, ⟨hp_idx rfl (by first | rfl | (simp; done) | omega | (simp [toNat_add, toNat_add1, Nat.add_assoc]; done) | (simp [toNat_add, toNat_add1]; omega)), trivial⟩, trivial, rfl, ⟨supg rfl, trivial⟩, ⟨supg rfl, supg rfl, trivial⟩, ⟨suph rfl rfl, trivial⟩, trivial, rfl, rfl⟩ ?_
  intro g hI1
  obtain ⟨a, k⟩ := g
  obtain ⟨hi1, hi2, hi3, hi4⟩ := hI1
  simp only at hi1 hi2 hi3 hi4 ⊢
  refine W_seq ?_
  refine W_seq ?_
  refine W_regionE (c := 2) (c' := 6) (by kernel_rfl) rfl ?_
  refine Runs_p rfl (Valid.movek (A := Is _) rfl rfl) rfl rfl ?_ -- rle.go:68 move
  refine Runs_p rfl (Valid.loadelt rfl ag9 rfl) rfl rfl ?_ -- rle.go:68 load
  refine Runs_p rfl (Valid.slen rfl Try.underlying9 rfl) rfl rfl ?_ -- rle.go:68 call
  refine Runs_p rfl (Valid.lss rfl rfl rfl) rfl rfl ?_ -- rle.go:68 binOp
  refine Runs_nil ?_
  refine thenQ_n ?_
  refine W_cond _ rfl (fun hb1 => ?_) (fun hb1 => ?_)
  · try simp only [decide_eq_true_eq] at hb1
    all_goals (
      refine W_skip ?_
      refine thenQ_n ?_
      refine W_block ?_
      refine W_seq ?_
      refine W_regionE (c := 6) (c' := 7) (by kernel_rfl) rfl ?_
      refine Runs_p rfl (Valid.assignk (A := Is _) rfl rfl) rfl rfl ?_ -- rle.go:69 assign
      refine Runs_nil ?_
      refine thenQ_n ?_
      refine W_seq ?_
      refine W_block ?_
      refine W_loopx (G := Nat) (fun (m : Nat) => 1 ≤ m ∧ m ≤ rn (s.data.toList.drop a)) [(0, Is _), (1, Elt _), (3, Is _)] (fun (m : Nat) => [(4, Is (.int .i64 (m : Int)))]) [] (fun (m : Nat) => [(0, .idx ⟨l_, (pcs s.data.toList).length, fun q => [Is (.int .u8 (((pcs s.data.toList).getD q (0, 0)).1.toNat : Int)), Is (.int .i64 (((pcs s.data.toList).getD q (0, 0)).2 : Int))], go_⟩ (k))]) 7 (fun (m : Nat) => 255 - m) (1) [] (⟨Nat.le_refl _, rn1 (by omega)⟩) ⟨⟨(leq_is rfl rfl (by first | rfl | (simp; done) | omega | (simp [toNat_add, toNat_add1, Nat.add_assoc]; done) | (simp [toNat_add, toNat_add1]; omega))), trivial⟩, ⟨(leq_is rfl rfl rfl), (leq_elt rfl rfl rfl), (leq_is rfl rfl rfl), trivial⟩, ⟨hp_idx rfl (by first | rfl | (simp; done) | omega | (simp [toNat_add, toNat_add1, Nat.add_assoc]; done) | (simp [toNat_add, toNat_add1]; omega)), trivial⟩, trivial, rfl, ⟨supg rfl, trivial⟩, ⟨supg rfl, supg rfl, supg rfl, trivial⟩, ⟨suph rfl rfl, trivial⟩, trivial, rfl, rfl⟩ ?_
      intro m hI2
      refine W_seq ?_
      refine W_seq ?_
      refine W_drawE (c := 7) (c' := 28) (by kernel_rfl) rfl ?_
      refine Runs_p rfl (Valid.movek (A := Is _) rfl rfl) rfl rfl ?_ -- rle.go:70 move
      refine Runs_p rfl (Valid.lss rfl rfl rfl) rfl rfl ?_ -- rle.go:70 binOp
      refine Runs_p rfl (Valid.movek (A := Is _) rfl rfl) rfl rfl ?_ -- rle.go:70 move
      refine Runs_cnd rfl rfl (Grd.is rfl) [] (fun hg => trivial) (fun hg => Valid.movek (A := Is _) rfl rfl) (by rfl) rfl ?_
      refine Runs_cnd rfl rfl (Grd.is rfl) [] (fun hg => trivial) (fun hg => Valid.movek (A := Is _) rfl rfl) (by rfl) rfl ?_
      refine Runs_cnd rfl rfl (Grd.is rfl) [(12, _), (13, _)] (fun hg => ⟨cnd_at rfl (by first | exact hg | exact hg.1 | exact hg.1.1 | exact hg.1.1.1), cnd_at rfl (by first | exact hg | exact hg.1 | exact hg.1.1 | exact hg.1.1.1), trivial⟩) (fun hg => Valid.add rfl rfl rfl (room64 (by (try simp only [decide_eq_true_eq] at hg); first | omega | (simp only [Int.toNat_natCast, toNat_add, toNat_add1, List.length_append, List.length_cons, List.length_nil, List.length_replicate]; omega)) (by (try simp only [decide_eq_true_eq] at hg); first | omega | (simp only [Int.toNat_natCast, toNat_add, toNat_add1, List.length_append, List.length_cons, List.length_nil, List.length_replicate]; omega)))) (by rfl) rfl ?_
      refine Runs_cnd rfl rfl (Grd.is rfl) [] (fun hg => trivial) (fun hg => Valid.loadelt rfl ag9 rfl) (by rfl) rfl ?_
      refine Runs_cnd rfl rfl (Grd.is rfl) [(15, _)] (fun hg => ⟨cnd_at rfl (by first | exact hg | exact hg.1 | exact hg.1.1 | exact hg.1.1.1), trivial⟩) (fun hg => Valid.slen rfl Try.underlying9 rfl) (by rfl) rfl ?_
      refine Runs_cnd rfl rfl (Grd.is rfl) [(14, _), (16, _)] (fun hg => ⟨cnd_at rfl (by first | exact hg | exact hg.1 | exact hg.1.1 | exact hg.1.1.1), cnd_at rfl (by first | exact hg | exact hg.1 | exact hg.1.1 | exact hg.1.1.1), trivial⟩) (fun hg => Valid.lss rfl rfl rfl) (by rfl) rfl ?_
      refine Runs_p rfl (Valid.pickand rfl rfl rfl (fun h => by first | exact h | exact ⟨hg, h⟩) rfl) rfl rfl ?_ -- rle.go:70 pick
      refine Runs_p rfl (Valid.movek (A := Is _) rfl rfl) rfl rfl ?_ -- rle.go:70 move
      refine Runs_cnd rfl rfl (Grd.is rfl) [] (fun hg => trivial) (fun hg => Valid.loadelt rfl ag9 rfl) (by rfl) rfl ?_
      refine Runs_cnd rfl rfl (Grd.is rfl) [] (fun hg => trivial) (fun hg => Valid.movek (A := Is _) rfl rfl) (by rfl) rfl ?_
      refine Runs_cnd rfl rfl (Grd.is rfl) [] (fun hg => trivial) (fun hg => Valid.movek (A := Is _) rfl rfl) (by rfl) rfl ?_
      refine Runs_cnd rfl rfl (Grd.is rfl) [(21, _), (22, _)] (fun hg => ⟨cnd_at rfl (by first | exact hg | exact hg.1 | exact hg.1.1 | exact hg.1.1.1), cnd_at rfl (by first | exact hg | exact hg.1 | exact hg.1.1 | exact hg.1.1.1), trivial⟩) (fun hg => Valid.add rfl rfl rfl (room64 (by (try simp only [decide_eq_true_eq, Bool.and_eq_true] at hg); first | omega | (simp only [Int.toNat_natCast, toNat_add, toNat_add1, List.length_append, List.length_cons, List.length_nil, List.length_replicate]; omega)) (by (try simp only [decide_eq_true_eq, Bool.and_eq_true] at hg); first | omega | (simp only [Int.toNat_natCast, toNat_add, toNat_add1, List.length_append, List.length_cons, List.length_nil, List.length_replicate]; omega)))) (by rfl) rfl ?_
      refine Runs_cnd rfl rfl (Grd.is rfl) [(20, _), (23, _)] (fun hg => ⟨cnd_at rfl (by first | exact hg | exact hg.1 | exact hg.1.1 | exact hg.1.1.1), cnd_at rfl (by first | exact hg | exact hg.1 | exact hg.1.1 | exact hg.1.1.1), trivial⟩) (fun hg => Valid.sindex rfl Try.underlying9 rfl rfl (by (try simp only [decide_eq_true_eq, Bool.and_eq_true] at hg); first | omega | (simp only [Int.toNat_natCast, toNat_add, toNat_add1, List.length_append, List.length_cons, List.length_nil, List.length_replicate]; omega))) (by rfl) rfl ?_
      refine Runs_cnd rfl rfl (Grd.is rfl) [] (fun hg => trivial) (fun hg => Valid.loadelt rfl ag9 rfl) (by rfl) rfl ?_
      refine Runs_cnd rfl rfl (Grd.is rfl) [] (fun hg => trivial) (fun hg => Valid.movek (A := Is _) rfl rfl) (by rfl) rfl ?_
      refine Runs_cnd rfl rfl (Grd.is rfl) [(25, _), (26, _)] (fun hg => ⟨cnd_at rfl (by first | exact hg | exact hg.1 | exact hg.1.1 | exact hg.1.1.1), cnd_at rfl (by first | exact hg | exact hg.1 | exact hg.1.1 | exact hg.1.1.1), trivial⟩) (fun hg => Valid.sindex rfl Try.underlying9 rfl rfl (by (try simp only [decide_eq_true_eq, Bool.and_eq_true] at hg); first | omega | (simp only [Int.toNat_natCast, toNat_add, toNat_add1, List.length_append, List.length_cons, List.length_nil, List.length_replicate]; omega))) (by rfl) rfl ?_
      refine Runs_cnd rfl rfl (Grd.is rfl) [(24, _), (27, _)] (fun hg => ⟨cnd_at rfl (by first | exact hg | exact hg.1 | exact hg.1.1 | exact hg.1.1.1), cnd_at rfl (by first | exact hg | exact hg.1 | exact hg.1.1 | exact hg.1.1.1), trivial⟩) (fun hg => Valid.eql rfl rfl rfl) (by rfl) rfl ?_
      refine Runs_p rfl (Valid.pickand rfl rfl rfl (fun h => by first | exact h | exact ⟨hg, h⟩) rfl) rfl rfl ?_ -- rle.go:70 pick
      refine Runs_nil ?_
      refine ⟨_, _, rfl, rfl, by kernel_rfl, ?_⟩
      refine thenQ_n ?_
      refine W_cond _ rfl (fun hb2 => ?_) (fun hb2 => ?_)
      · try simp only [decide_eq_true_eq, Bool.and_eq_true] at hb2
        all_goals (
          refine W_skip ?_
          refine thenQ_n ?_
          refine W_block ?_
          refine W_regionE (c := 28) (c' := 31) (by kernel_rfl) rfl ?_
          refine Runs_p rfl (Valid.movek (A := Is _) rfl rfl) rfl rfl ?_ -- rle.go:71 move
          refine Runs_p rfl (Valid.add rfl rfl rfl (room64 (by first | omega | (simp only [Int.toNat_natCast, toNat_add, toNat_add1, List.length_append, List.length_cons, List.length_nil, List.length_replicate]; omega)) (by first | omega | (simp only [Int.toNat_natCast, toNat_add, toNat_add1, List.length_append, List.length_cons, List.length_nil, List.length_replicate]; omega)))) rfl rfl ?_ -- rle.go:71 binOp
          refine Runs_p rfl (Valid.assignk (A := Is _) rfl rfl) rfl rfl ?_ -- rle.go:71 assign
          refine Runs_nil ?_
          refine blockQ_n ?_
          refine LoopQ.next (m + 1) [] (⟨by omega, by have := (run_step hI2.1 hI2.2).1 (by simpa using hb2); omega⟩) (by first | omega | (dsimp only; omega)) ⟨⟨(leq_is rfl rfl (by first | rfl | (simp; done) | omega | (simp [toNat_add, toNat_add1, Nat.add_assoc]; done) | (simp [toNat_add, toNat_add1]; omega))), trivial⟩, ⟨(leq_is rfl rfl rfl), (leq_elt rfl rfl rfl), (leq_is rfl rfl rfl), trivial⟩, ⟨hp_idx rfl (by first | rfl | (simp; done) | omega | (simp [toNat_add, toNat_add1, Nat.add_assoc]; done) | (simp [toNat_add, toNat_add1]; omega)), trivial⟩, trivial, rfl, ⟨supg rfl, trivial⟩, ⟨supg rfl, supg rfl, supg rfl, trivial⟩, ⟨suph rfl rfl, trivial⟩, trivial, rfl, rfl⟩
          done)
      · try simp only [decide_eq_false_iff_not, Bool.and_eq_false_iff] at hb2
        all_goals (
          refine W_exit ?_
          refine thenQ_e ?_
          refine loopQ_e ?_
          refine blockQ_x ?_
          refine thenQ_n ?_
          refine W_seq ?_
          refine W_seq ?_
          have hm : m = rn (s.data.toList.drop a) := by
            have h1 : ¬ m < rn (s.data.toList.drop a) := fun h => by
              obtain ⟨⟨h1, h2⟩, h3⟩ := (run_step hI2.1 hI2.2).2 h
              omega
            omega
          have hq := pcs_at (l := s.data.toList) (a := a) (by rw [len_ba]; omega) hi2
          have hv1 : bat s (a : Int) = ((pcs s.data.toList).getD k (0, 0)).1 := by rw [hq.2.1]; rfl
          have hv2 : m = ((pcs s.data.toList).getD k (0, 0)).2 := by rw [hq.2.1]; exact hm
          have hv3 := rn2 (s := s) (a := a) (by omega)
          refine W_regionE (c := 28) (c' := 35) (by kernel_rfl) rfl ?_
          refine Runs_p rfl (Valid.movek (A := Is _) rfl rfl) rfl rfl ?_ -- rle.go:73 move
          refine Runs_p rfl (Valid.loadelt rfl ag9 rfl) rfl rfl ?_ -- rle.go:73 load
          refine Runs_p rfl (Valid.movek (A := Is _) rfl rfl) rfl rfl ?_ -- rle.go:73 move
          refine Runs_p rfl (Valid.sindex rfl Try.underlying9 rfl rfl (by first | omega | (simp only [Int.toNat_natCast, toNat_add, toNat_add1, List.length_append, List.length_cons, List.length_nil, List.length_replicate]; omega))) rfl rfl ?_ -- rle.go:73 index
          refine Runs_p rfl (Valid.movek (A := Is _) rfl rfl) rfl rfl ?_ -- rle.go:73 move
          refine Runs_y rfl (VOp.yieldx rfl rfl rfl (hq.1) (hi4) ⟨argle (by first | exact congrArg (fun z : UInt8 => Is (Value.int .u8 (z.toNat : Int))) hv1 | exact congrArg (fun z : Nat => Is (Value.int .i64 (z : Int))) hv2), argle (by first | exact congrArg (fun z : UInt8 => Is (Value.int .u8 (z.toNat : Int))) hv1 | exact congrArg (fun z : Nat => Is (Value.int .i64 (z : Int))) hv2), trivial⟩ rfl) rfl rfl ?_ -- rle.go:73 yield
          refine Runs_p rfl (Valid.not rfl rfl) rfl rfl ?_ -- rle.go:73 unOp
          refine Runs_nil ?_
          refine thenQ_n ?_
          refine W_cond _ rfl (fun hb3 => ?_) (fun hb3 => ?_)
          · try simp only [Bool.not_eq_true'] at hb3
            all_goals (
              refine W_ret ?_
              refine thenQ_r ?_
              refine blockQ_r ?_
              refine loopQ_r ?_
              refine blockQ_r ?_
              exact finIQ_r (ResOk.none rfl (fun _ _ => rfl)) rfl (by first | exact (stop_at hq.1 hi4 (by simpa using hb3)).symm | (have := pcs_end (l := s.data.toList) (a := a) (by rw [len_ba]; omega) hi2; have e : k = (pcs s.data.toList).length := by omega); (subst e; exact (stop_all hi4).symm))
              done)
          · try simp only [Bool.not_eq_false'] at hb3
            all_goals (
              refine W_skip ?_
              refine thenQ_n ?_
              refine W_regionE (c := 35) (c' := 39) (by kernel_rfl) rfl ?_
              refine Runs_p rfl (Valid.movek (A := Is _) rfl rfl) rfl rfl ?_ -- rle.go:76 move
              refine Runs_p rfl (Valid.movek (A := Is _) rfl rfl) rfl rfl ?_ -- rle.go:76 move
              refine Runs_p rfl (Valid.add rfl rfl rfl (room64 (by first | omega | (simp only [Int.toNat_natCast, toNat_add, toNat_add1, List.length_append, List.length_cons, List.length_nil, List.length_replicate]; omega)) (by first | omega | (simp only [Int.toNat_natCast, toNat_add, toNat_add1, List.length_append, List.length_cons, List.length_nil, List.length_replicate]; omega)))) rfl rfl ?_ -- rle.go:76 binOp
              refine Runs_p rfl (Valid.assignk (A := Is _) rfl rfl) rfl rfl ?_ -- rle.go:76 assign
              refine Runs_nil ?_
              refine blockQ_n ?_
              refine LoopQ.next ((a + m, k + 1)) [] (⟨by simp only; omega, by simp only; rw [hm]; exact hq.2.2, by simp only; omega, fun j hj => by by_cases e : j = k; (· subst e; simpa using hb3); (· exact hi4 j (by have hjj : j < k + 1 := hj; omega))⟩) (by simp only; omega) ⟨⟨(leq_is rfl rfl (by first | rfl | (simp; done) | omega | (simp [toNat_add, toNat_add1, Nat.add_assoc]; done) | (simp [toNat_add, toNat_add1]; omega))), trivial⟩, ⟨(leq_is rfl rfl rfl), (leq_elt rfl rfl rfl), trivial⟩, ⟨hp_idx rfl (by first | rfl | (simp; done) | omega | (simp [toNat_add, toNat_add1, Nat.add_assoc]; done) | (simp [toNat_add, toNat_add1]; omega)), trivial⟩, trivial, rfl, ⟨supg rfl, trivial⟩, ⟨supg rfl, supg rfl, trivial⟩, ⟨suph rfl rfl, trivial⟩, trivial, rfl, rfl⟩
              done)
          done)
      done)
  · try simp only [decide_eq_false_iff_not] at hb1
    all_goals (
      refine W_exit ?_
      refine thenQ_e ?_
      refine loopQ_e ?_
      refine blockQ_x ?_
      exact finIQ_n (ResOk.none rfl (fun _ _ => rfl)) rfl (by first | exact (stop_at hq.1 hi4 (by simpa using hb3)).symm | (have := pcs_end (l := s.data.toList) (a := a) (by rw [len_ba]; omega) hi2; have e : k = (pcs s.data.toList).length := by omega); (subst e; exact (stop_all hi4).symm))
      done)
end Rb
end Go.Proofs.Ytmilegikgbmjpaa
