/-
  WALKS of stage 4: the law that tells.
-/
import Derived.Test.YtmilegikgbmjpaaRows
import Derived.Test.YtmilegikgbmjpaaRi
namespace Go.Proofs.Ytmilegikgbmjpaa
open Go.RowKit
namespace Rj
open Ab Rl Rl Ra Rb Rc Rd Re Rf Rg Rh Ri
theorem ag3 (w : World) : (isAgg 3).run Try.prog w = .ok false w := by kernel_rfl
theorem ag9 (w : World) : (isAgg 9).run Try.prog w = .ok false w := by kernel_rfl
theorem sz3 (w : World) : (sizeOf 3).run Try.prog w = .ok 1 w := by kernel_rfl
theorem sz9 (w : World) : (sizeOf 9).run Try.prog w = .ok 1 w := by kernel_rfl
theorem rtold_b (s : ByteArray) (hs : s.size ≤ 1000000) : FPure Try.prog 29 [Is (.string s)] (Tup [Is (.string (ba (toldR s.data.toList).1)), Is (.bool (toldR s.data.toList).2)]) := rtold_s s.data.toList hs
theorem rpack_b (s : ByteArray) (hs : s.size ≤ 1000000) : FPure Try.prog 12 [Is (.string s)] (Is (.string (packV s))) := rpack_s s.data.toList hs
theorem toldR_f {l : List UInt8} (h : (toldR l).2 = false) : lack l := by
  unfold toldR at h
  apply Classical.byContradiction
  intro hn
  rw [if_neg hn] at h; cases h
theorem toldR_t {l : List UInt8} (h : (toldR l).2 = true) : ¬ lack l ∧ (toldR l).1 = expI (reps l) := by
  unfold toldR at h ⊢
  by_cases hn : lack l
  · rw [if_pos hn] at h; cases h
  · rw [if_neg hn]; exact ⟨hn, rfl⟩
theorem unpV_l {s : ByteArray} {m : Int} (h : (toldR s.data.toList).2 = true) (hm : m < ((ba (toldR s.data.toList).1).size : Int)) : unpV s m = (ByteArray.empty, 4) := by
  obtain ⟨h1, h2⟩ := toldR_t h
  rw [h2, ba_size, ← sumI_len _ h1] at hm
  rw [unpV, if_neg h1, if_pos hm]
theorem unpV_o {s : ByteArray} {m : Int} (h : (toldR s.data.toList).2 = true) (hm : ¬ m < ((ba (toldR s.data.toList).1).size : Int)) : unpV s m = (ba (toldR s.data.toList).1, 0) := by
  obtain ⟨h1, h2⟩ := toldR_t h
  rw [h2, ba_size, ← sumI_len _ h1] at hm
  rw [unpV, if_neg h1, if_neg hm, h2]; rfl

set_option maxRecDepth 100000 in
set_option maxHeartbeats 1000000 in
theorem runpack_s (s : ByteArray) (m : Int) (hs : s.size ≤ 1000000) :
    FPure Try.prog 17 [Is (.string s), Is (.int .i64 m)] (Tup [Is (.string (unpV s m).1), Is (.int .i64 (unpV s m).2)]) := by
  refine FPure.of Try.func17 Try.ntmps17 rfl (by kernel_rfl) rfl rfl rfl ?_
  refine W_seq ?_
  refine W_regionE (c := 1) (c' := 3) (by kernel_rfl) rfl ?_
  refine Runs_p rfl (Valid.assignk (A := Is _) rfl rfl) rfl rfl ?_ -- ref.go:60 assign
  refine Runs_p rfl (Valid.assignk (A := Is _) rfl rfl) rfl rfl ?_ -- ref.go:60 assign
  refine Runs_nil ?_
  refine thenQ_n ?_
  refine W_seq ?_
  refine W_regionE (c := 3) (c' := 10) (by kernel_rfl) rfl ?_
  refine Runs_p rfl (Valid.movek (A := Is _) rfl rfl) rfl rfl ?_ -- ref.go:61 move
  refine Runs_p rfl (Valid.call rfl (rtold_b _ (by omega)) ⟨argle rfl, trivial⟩) rfl rfl ?_ -- ref.go:61 call
  refine Runs_p rfl (Valid.movek (A := Tup [Is _, Is _]) rfl rfl) rfl rfl ?_ -- ref.go:61 move
  refine Runs_p rfl (Valid.extract _ rfl rfl rfl) rfl rfl ?_ -- ref.go:61 extract
  refine Runs_p rfl (Valid.extract _ rfl rfl rfl) rfl rfl ?_ -- ref.go:61 extract
  refine Runs_p rfl (Valid.assignk (A := Is _) rfl rfl) rfl rfl ?_ -- ref.go:61 assign
  refine Runs_p rfl (Valid.assignk (A := Is _) rfl rfl) rfl rfl ?_ -- ref.go:61 assign
  refine Runs_nil ?_
  refine thenQ_n ?_
  refine W_seq ?_
  refine W_seq ?_
  refine W_regionE (c := 10) (c' := 12) (by kernel_rfl) rfl ?_
  refine Runs_p rfl (Valid.movek (A := Is _) rfl rfl) rfl rfl ?_ -- ref.go:62 move
  refine Runs_p rfl (Valid.not rfl rfl) rfl rfl ?_ -- ref.go:62 unOp
  refine Runs_nil ?_
  refine thenQ_n ?_
  refine W_cond _ rfl (fun hb1 => ?_) (fun hb1 => ?_)
  · try simp only [Bool.not_eq_true'] at hb1
    all_goals (
      refine W_seq ?_
      refine W_regionE (c := 12) (c' := 14) (by kernel_rfl) rfl ?_
      refine Runs_p rfl (Valid.assignk (A := Is _) rfl rfl) rfl rfl ?_ -- ref.go:63 assign
      refine Runs_p rfl (Valid.assignk (A := Is _) rfl rfl) rfl rfl ?_ -- ref.go:63 assign
      refine Runs_nil ?_
      refine thenQ_n ?_
      refine W_ret ?_
      refine thenQ_r ?_
      refine finQ_r ?_
      refine ResOk.two rfl (RVal.is rfl rfl (by first | (rw [unpV, if_pos (toldR_f (by assumption))]; done) | (rw [unpV, if_pos (toldR_f (by assumption))]; rfl) | (rw [unpV_l (by assumption) (by assumption)]; done) | (rw [unpV_l (by assumption) (by assumption)]; rfl) | (rw [unpV_o (by assumption) (by assumption)]; done))) (RVal.is rfl rfl (by first | (rw [unpV, if_pos (toldR_f (by assumption))]; done) | (rw [unpV, if_pos (toldR_f (by assumption))]; rfl) | (rw [unpV_l (by assumption) (by assumption)]; done) | (rw [unpV_l (by assumption) (by assumption)]; rfl) | (rw [unpV_o (by assumption) (by assumption)]; done)))
      done)
  · try simp only [Bool.not_eq_false'] at hb1
    all_goals (
      refine W_skip ?_
      refine thenQ_n ?_
      refine W_seq ?_
      refine W_seq ?_
      refine W_regionE (c := 12) (c' := 16) (by kernel_rfl) rfl ?_
      refine Runs_p rfl (Valid.movek (A := Is _) rfl rfl) rfl rfl ?_ -- ref.go:65 move
      refine Runs_p rfl (Valid.slen rfl Try.underlying9 rfl) rfl rfl ?_ -- ref.go:65 call
      refine Runs_p rfl (Valid.movek (A := Is _) rfl rfl) rfl rfl ?_ -- ref.go:65 move
      refine Runs_p rfl (Valid.gtr rfl rfl rfl) rfl rfl ?_ -- ref.go:65 binOp
      refine Runs_nil ?_
      refine thenQ_n ?_
      refine W_cond _ rfl (fun hb2 => ?_) (fun hb2 => ?_)
      · try simp only [decide_eq_true_eq] at hb2
        all_goals (
          refine W_seq ?_
          refine W_regionE (c := 16) (c' := 18) (by kernel_rfl) rfl ?_
          refine Runs_p rfl (Valid.assignk (A := Is _) rfl rfl) rfl rfl ?_ -- ref.go:66 assign
          refine Runs_p rfl (Valid.assignk (A := Is _) rfl rfl) rfl rfl ?_ -- ref.go:66 assign
          refine Runs_nil ?_
          refine thenQ_n ?_
          refine W_ret ?_
          refine thenQ_r ?_
          refine finQ_r ?_
          refine ResOk.two rfl (RVal.is rfl rfl (by first | (rw [unpV, if_pos (toldR_f (by assumption))]; done) | (rw [unpV, if_pos (toldR_f (by assumption))]; rfl) | (rw [unpV_l (by assumption) (by assumption)]; done) | (rw [unpV_l (by assumption) (by assumption)]; rfl) | (rw [unpV_o (by assumption) (by assumption)]; done))) (RVal.is rfl rfl (by first | (rw [unpV, if_pos (toldR_f (by assumption))]; done) | (rw [unpV, if_pos (toldR_f (by assumption))]; rfl) | (rw [unpV_l (by assumption) (by assumption)]; done) | (rw [unpV_l (by assumption) (by assumption)]; rfl) | (rw [unpV_o (by assumption) (by assumption)]; done)))
          done)
      · try simp only [decide_eq_false_iff_not] at hb2
        all_goals (
          refine W_skip ?_
          refine thenQ_n ?_
          refine W_seq ?_
          refine W_regionE (c := 16) (c' := 19) (by kernel_rfl) rfl ?_
          refine Runs_p rfl (Valid.movek (A := Is _) rfl rfl) rfl rfl ?_ -- ref.go:68 move
          refine Runs_p rfl (Valid.assignk (A := Is _) rfl rfl) rfl rfl ?_ -- ref.go:68 assign
          refine Runs_p rfl (Valid.assignk (A := Is _) rfl rfl) rfl rfl ?_ -- ref.go:68 assign
          refine Runs_nil ?_
          refine thenQ_n ?_
          refine W_ret ?_
          refine finQ_r ?_
          refine ResOk.two rfl (RVal.is rfl rfl (by first | (rw [unpV, if_pos (toldR_f (by assumption))]; done) | (rw [unpV, if_pos (toldR_f (by assumption))]; rfl) | (rw [unpV_l (by assumption) (by assumption)]; done) | (rw [unpV_l (by assumption) (by assumption)]; rfl) | (rw [unpV_o (by assumption) (by assumption)]; done))) (RVal.is rfl rfl (by first | (rw [unpV, if_pos (toldR_f (by assumption))]; done) | (rw [unpV, if_pos (toldR_f (by assumption))]; rfl) | (rw [unpV_l (by assumption) (by assumption)]; done) | (rw [unpV_l (by assumption) (by assumption)]; rfl) | (rw [unpV_o (by assumption) (by assumption)]; done)))
          done)
      done)

set_option maxRecDepth 100000 in
set_option maxHeartbeats 1000000 in
theorem rlen_s (s : ByteArray) (hs : s.size ≤ 1000000) :
    FPure Try.prog 30 [Is (.string s)] (Is (.int .i64 (lenV s : Int))) := by
  refine FPure.of Try.func30 Try.ntmps30 rfl (by kernel_rfl) rfl rfl rfl ?_
  refine W_seq ?_
  refine W_regionE (c := 1) (c' := 2) (by kernel_rfl) rfl ?_
  refine Runs_p rfl (Valid.assignk (A := Is _) rfl rfl) rfl rfl ?_ -- ref.go:33 assign
  refine Runs_nil ?_
  refine thenQ_n ?_
  refine W_seq ?_
  refine W_regionE (c := 2) (c' := 6) (by kernel_rfl) rfl ?_
  refine Runs_p rfl (Valid.movek (A := Is _) rfl rfl) rfl rfl ?_ -- ref.go:33 move
  refine Runs_p rfl (Valid.call rfl (rpack_b _ (by omega)) ⟨argle rfl, trivial⟩) rfl rfl ?_ -- ref.go:33 call
  refine Runs_p rfl (Valid.slen rfl Try.underlying9 rfl) rfl rfl ?_ -- ref.go:33 call
  refine Runs_p rfl (Valid.assignk (A := Is _) rfl rfl) rfl rfl ?_ -- ref.go:33 assign
  refine Runs_nil ?_
  refine thenQ_n ?_
  refine W_ret ?_
  refine finQ_r ?_
  refine ResOk.one rfl (RVal.is rfl rfl (by rw [packV_size]))

def crV (l : List UInt8) (r : Int) : Nat → Nat
  | 0 => 0
  | i + 1 => if (lenL (l.take i) : Int) ≤ r then i else crV l r i
theorem crV_y {l : List UInt8} {r : Int} {i : Nat} (h : (lenV ((ba l).extract 0 ((i : Int)).toNat) : Int) ≤ r) : crV l r (i + 1) = i := by
  rw [Int.toNat_natCast, ba_to] at h
  rw [crV, if_pos (show (lenL (l.take i) : Int) ≤ r from h)]
theorem crV_n {l : List UInt8} {r : Int} {i : Nat} (h : ¬ (lenV ((ba l).extract 0 ((i : Int)).toNat) : Int) ≤ r) : crV l r (i + 1) = crV l r i := by
  rw [Int.toNat_natCast, ba_to] at h
  rw [crV, if_neg (show ¬ (lenL (l.take i) : Int) ≤ r from h)]
theorem crV_neg {l : List UInt8} {r : Int} (h : r < 0) : ∀ i, crV l r i = 0
  | 0 => rfl
  | i + 1 => by rw [crV, if_neg (by omega), crV_neg h i]
theorem crV_end {l : List UInt8} {r : Int} : ((crV l r (l.length + 1) : Nat) : Int) = cutF (pcs l) r := by
  by_cases h : r < 0
  · rw [crV_neg h, cut_neg h]; rfl
  · obtain ⟨k, e, k1, k2, k3⟩ := cut_spec l r (by omega)
    rw [e]
    have a1 : ∀ i, i ≤ k → crV l r (i + 1) = i := fun i hi => by
      have := len_mono l i k hi
      rw [crV, if_pos (by omega)]
    have a2 : ∀ i, k ≤ i → i ≤ l.length → crV l r (i + 1) = k := by
      intro i
      induction i with
      | zero => intro h1 _; have : k = 0 := by omega
                subst this; exact a1 0 (Nat.le_refl _)
      | succ i ih =>
        intro h1 h2
        by_cases e2 : k = i + 1
        · rw [e2]; exact a1 (i + 1) (by omega)
        · have := k3 (by omega)
          have h4 := len_mono l (k + 1) (i + 1) (by omega)
          rw [crV, if_neg (by omega)]
          exact ih (by omega) (by omega)
    rw [a2 l.length k1 (Nat.le_refl _)]

set_option maxRecDepth 100000 in
set_option maxHeartbeats 1000000 in
theorem rcut_s (l : List UInt8) (r : Int) (hl : l.length ≤ 1000000) :
    FPure Try.prog 19 [Is (.string (ba l)), Is (.int .i64 r)] (Is (.int .i64 (cutF (pcs l) r))) := by
  refine FPure.of Try.func19 Try.ntmps19 rfl (by kernel_rfl) rfl rfl rfl ?_
  refine W_seq ?_
  refine W_regionE (c := 1) (c' := 2) (by kernel_rfl) rfl ?_
  refine Runs_p rfl (Valid.assignk (A := Is _) rfl rfl) rfl rfl ?_ -- ref.go:72 assign
  refine Runs_nil ?_
  refine thenQ_n ?_
  refine W_seq ?_
  refine W_regionE (c := 2) (c' := 3) (by kernel_rfl) rfl ?_
  refine Runs_p rfl (Valid.assignk (A := Is _) rfl rfl) rfl rfl ?_ -- ref.go:73 assign
  refine Runs_nil ?_
  refine thenQ_n ?_
  refine W_seq ?_
  refine W_seq ?_
  refine W_regionE (c := 3) (c' := 4) (by kernel_rfl) rfl ?_
  refine Runs_p rfl (Valid.assignk (A := Is _) rfl rfl) rfl rfl ?_ -- ref.go:74 assign
  refine Runs_nil ?_
  refine thenQ_n ?_
  refine W_block ?_
  refine W_loopx (G := Nat) (fun (i : Nat) => i ≤ l.length + 1) [(0, Is _), (1, Is _)] (fun (i : Nat) => [(6, Is (.int .i64 (i : Int))), (5, Is (.int .i64 ((crV l r i : Nat) : Int)))]) [] (fun (i : Nat) => []) 4 (fun (i : Nat) => l.length + 1 - i) (0) [] (by first | trivial | omega | (simp; omega)) ⟨⟨(leq_is rfl rfl (by rfl)), (leq_is rfl rfl (by rfl)), trivial⟩, ⟨(leq_is rfl rfl rfl), (leq_is rfl rfl rfl), trivial⟩, trivial, trivial, rfl, ⟨supg rfl, supg rfl, trivial⟩, ⟨supg rfl, supg rfl, trivial⟩, trivial, trivial, rfl, rfl⟩ ?_
  intro i hI1
  have hbl : (ba l).size = l.length := rfl
  refine W_seq ?_
  refine W_seq ?_
  refine W_regionE (c := 4) (c' := 8) (by kernel_rfl) rfl ?_
  refine Runs_p rfl (Valid.movek (A := Is _) rfl rfl) rfl rfl ?_ -- ref.go:74 move
  refine Runs_p rfl (Valid.movek (A := Is _) rfl rfl) rfl rfl ?_ -- ref.go:74 move
  refine Runs_p rfl (Valid.slen rfl Try.underlying9 rfl) rfl rfl ?_ -- ref.go:74 call
  refine Runs_p rfl (Valid.leq rfl rfl rfl) rfl rfl ?_ -- ref.go:74 binOp
  refine Runs_nil ?_
  refine thenQ_n ?_
  refine W_cond _ rfl (fun hb1 => ?_) (fun hb1 => ?_)
  · try simp only [decide_eq_true_eq] at hb1
    all_goals (
      refine W_skip ?_
      refine thenQ_n ?_
      refine W_seq ?_
      refine W_block ?_
      refine W_seq ?_
      refine W_regionE (c := 8) (c' := 14) (by kernel_rfl) rfl ?_
      refine Runs_p rfl (Valid.movek (A := Is _) rfl rfl) rfl rfl ?_ -- ref.go:75 move
      refine Runs_p rfl (Valid.movek (A := Is _) rfl rfl) rfl rfl ?_ -- ref.go:75 move
      refine Runs_p rfl (Valid.ssliceto rfl Try.underlying9 rfl rfl (by first | omega | (simp only [Int.toNat_natCast, toNat_add, toNat_add1, List.length_append, List.length_cons, List.length_nil, List.length_replicate]; omega))) rfl rfl ?_ -- ref.go:75 slice
      refine Runs_p rfl (Valid.call rfl (rlen_s _ (by rw [ByteArray.size_extract]; omega)) ⟨argle rfl, trivial⟩) rfl rfl ?_ -- ref.go:75 call
      refine Runs_p rfl (Valid.movek (A := Is _) rfl rfl) rfl rfl ?_ -- ref.go:75 move
      refine Runs_p rfl (Valid.leq rfl rfl rfl) rfl rfl ?_ -- ref.go:75 binOp
      refine Runs_nil ?_
      refine thenQ_n ?_
      refine W_cond _ rfl (fun hb2 => ?_) (fun hb2 => ?_)
      · try simp only [Int.toNat_natCast, decide_eq_true_eq] at hb2
        all_goals (
          refine W_regionE (c := 14) (c' := 16) (by kernel_rfl) rfl ?_
          refine Runs_p rfl (Valid.movek (A := Is _) rfl rfl) rfl rfl ?_ -- ref.go:76 move
          refine Runs_p rfl (Valid.assignk (A := Is _) rfl rfl) rfl rfl ?_ -- ref.go:76 assign
          refine Runs_nil ?_
          refine blockQ_n ?_
          refine thenQ_n ?_
          refine W_regionE (c := 16) (c' := 19) (by kernel_rfl) rfl ?_
          refine Runs_p rfl (Valid.movek (A := Is _) rfl rfl) rfl rfl ?_ -- ref.go:74 move
          refine Runs_p rfl (Valid.add rfl rfl rfl (room64 (by first | omega | (simp only [Int.toNat_natCast, toNat_add, toNat_add1, List.length_append, List.length_cons, List.length_nil, List.length_replicate]; omega)) (by first | omega | (simp only [Int.toNat_natCast, toNat_add, toNat_add1, List.length_append, List.length_cons, List.length_nil, List.length_replicate]; omega)))) rfl rfl ?_ -- ref.go:74 binOp
          refine Runs_p rfl (Valid.assignk (A := Is _) rfl rfl) rfl rfl ?_ -- ref.go:74 assign
          refine Runs_nil ?_
          refine LoopQ.next (i + 1) [] (by omega) (by omega) ⟨⟨(leq_is rfl rfl (by first | rfl | (rw [crV_y (by assumption)]; done) | (rw [crV_n (by assumption)]; done))), (leq_is rfl rfl (by first | rfl | (rw [crV_y (by assumption)]; done) | (rw [crV_n (by assumption)]; done))), trivial⟩, ⟨(leq_is rfl rfl rfl), (leq_is rfl rfl rfl), trivial⟩, trivial, trivial, rfl, ⟨supg rfl, supg rfl, trivial⟩, ⟨supg rfl, supg rfl, trivial⟩, trivial, trivial, rfl, rfl⟩
          done)
      · try simp only [Int.toNat_natCast, decide_eq_false_iff_not] at hb2
        all_goals (
          refine W_skip ?_
          refine blockQ_n ?_
          refine thenQ_n ?_
          refine W_regionE (c := 14) (c' := 17) (by kernel_rfl) rfl ?_
          refine Runs_p rfl (Valid.movek (A := Is _) rfl rfl) rfl rfl ?_ -- ref.go:74 move
          refine Runs_p rfl (Valid.add rfl rfl rfl (room64 (by first | omega | (simp only [Int.toNat_natCast, toNat_add, toNat_add1, List.length_append, List.length_cons, List.length_nil, List.length_replicate]; omega)) (by first | omega | (simp only [Int.toNat_natCast, toNat_add, toNat_add1, List.length_append, List.length_cons, List.length_nil, List.length_replicate]; omega)))) rfl rfl ?_ -- ref.go:74 binOp
          refine Runs_p rfl (Valid.assignk (A := Is _) rfl rfl) rfl rfl ?_ -- ref.go:74 assign
          refine Runs_nil ?_
          refine LoopQ.next (i + 1) [] (by omega) (by omega) ⟨⟨(leq_is rfl rfl (by first | rfl | (rw [crV_y (by assumption)]; done) | (rw [crV_n (by assumption)]; done))), (leq_is rfl rfl (by first | rfl | (rw [crV_y (by assumption)]; done) | (rw [crV_n (by assumption)]; done))), trivial⟩, ⟨(leq_is rfl rfl rfl), (leq_is rfl rfl rfl), trivial⟩, trivial, trivial, rfl, ⟨supg rfl, supg rfl, trivial⟩, ⟨supg rfl, supg rfl, trivial⟩, trivial, trivial, rfl, rfl⟩
          done)
      done)
  · try simp only [decide_eq_false_iff_not] at hb1
    all_goals (
      refine W_exit ?_
      refine thenQ_e ?_
      refine loopQ_e ?_
      refine blockQ_x ?_
      refine thenQ_n ?_
      refine W_seq ?_
      refine W_regionE (c := 8) (c' := 10) (by kernel_rfl) rfl ?_
      refine Runs_p rfl (Valid.movek (A := Is _) rfl rfl) rfl rfl ?_ -- ref.go:79 move
      refine Runs_p rfl (Valid.assignk (A := Is _) rfl rfl) rfl rfl ?_ -- ref.go:79 assign
      refine Runs_nil ?_
      refine thenQ_n ?_
      refine W_ret ?_
      refine finQ_r ?_
      refine ResOk.one rfl (RVal.is rfl rfl (by rw [show i = l.length + 1 by omega, crV_end]))
      done)

theorem rcut_b (s : ByteArray) (r : Int) (hs : s.size ≤ 1000000) : FPure Try.prog 19 [Is (.string s), Is (.int .i64 r)] (Is (.int .i64 (cutV s r))) := rcut_s s.data.toList r hs
theorem two_sz3 {a b : ByteArray} (ha : a.size ≤ 300) (hb : b.size ≤ 300) (i : Nat) : ((twoS a b).getD i ByteArray.empty).size ≤ 300 := by
  match i with
  | 0 => exact ha
  | 1 => exact hb
  | i + 2 => exact Nat.zero_le _
def fourI (a b c d : Int) : List Int := [a, b, c, d]
def twoI (a b : Int) : List Int := [a, b]
theorem twoI_in {a b : Int} (ha : -9223372036854775808 ≤ a ∧ a ≤ 9223372036854775807) (hb : -9223372036854775808 ≤ b ∧ b ≤ 9223372036854775807) (i : Nat) : -9223372036854775808 ≤ (twoI a b).getD i 0 ∧ (twoI a b).getD i 0 ≤ 9223372036854775807 := by
  match i with
  | 0 => exact ha
  | 1 => exact hb
  | i + 2 => exact ⟨by show (-9223372036854775808 : Int) ≤ 0; decide, by show (0 : Int) ≤ 9223372036854775807; decide⟩

set_option maxRecDepth 100000 in
set_option maxHeartbeats 1000000 in
theorem tells_law (s0 : ByteArray) (hs0 : s0.size ≤ 9223372036854775807) (raw : List (Int × Int)) (hraw : in2 raw) (lraw : raw.length ≤ 9223372036854775807) (m0 : Int) (hm0 : -9223372036854775808 ≤ m0 ∧ m0 ≤ 9223372036854775807) (r0 : Int) (hr0 : -9223372036854775808 ≤ r0 ∧ r0 ≤ 9223372036854775807) :
    FPure Try.prog 3 [Is (.string s0), Sl 2 raw.length (prs raw), Is (.int .i64 m0), Is (.int .i64 r0)] (Is (.bool true)) := by
  refine FPure.of Try.func3 Try.ntmps3 rfl (by kernel_rfl) rfl rfl rfl ?_
  refine W_seq ?_
  refine W_regionE (c := 1) (c' := 2) (by kernel_rfl) rfl ?_
  refine Runs_p rfl (Valid.assignk (A := Is _) rfl rfl) rfl rfl ?_ -- law.go:39 assign
  refine Runs_nil ?_
  refine thenQ_n ?_
  refine W_seq ?_
  refine W_regionE (c := 2) (c' := 4) (by kernel_rfl) rfl ?_
  refine Runs_p rfl (Valid.call rfl (awake4_s) trivial) rfl rfl ?_ -- law.go:40 call
  refine Runs_p rfl (Valid.assignk (A := Is _) rfl rfl) rfl rfl ?_ -- law.go:40 assign
  refine Runs_nil ?_
  refine thenQ_n ?_
  refine W_seq ?_
  refine W_seq ?_
  have hxs : (s0.extract 0 (min (s0.size : Int) 60).toNat).size ≤ 60 := by rw [ByteArray.size_extract]; omega
  have hr3 : (ba (runsL raw 300)).size ≤ 300 := runs_le raw 300 _
  have hpm := pickV_range m0 400 (by decide)
  have hpr := pickV_range r0 70 (by decide)
  refine W_drawE (c := 4) (c' := 14) (by kernel_rfl) rfl ?_
  refine Runs_p rfl (Valid.movek (A := Is _) rfl rfl) rfl rfl ?_ -- law.go:41 move
  refine Runs_p rfl (Valid.movek (A := Is _) rfl rfl) rfl rfl ?_ -- law.go:41 move
  refine Runs_p rfl (Valid.slen rfl Try.underlying9 rfl) rfl rfl ?_ -- law.go:41 call
  refine Runs_p rfl (Valid.min rfl rfl rfl) rfl rfl ?_ -- law.go:41 call
  refine Runs_p rfl (Valid.ssliceto rfl Try.underlying9 rfl rfl (by first | omega | (simp only [Int.toNat_natCast, toNat_add, toNat_add1, List.length_append, List.length_cons, List.length_nil, List.length_replicate]; omega))) rfl rfl ?_ -- law.go:41 slice
  refine Runs_p rfl (Valid.movek (A := Sl 2 _ _) rfl rfl) rfl rfl ?_ -- law.go:41 move
  refine Runs_p rfl (Valid.call rfl (runs_s raw hraw lraw 300 (by decide)) ⟨argle_sl (Reads.sl rfl), argle rfl, trivial⟩) rfl rfl ?_ -- law.go:41 call
  refine Runs_p rfl (Valid.lit (el := 9) ((twoS (s0.extract 0 (min (s0.size : Int) 60).toNat) (ba (runsL raw 300))).map Value.string) rfl rfl (fun _ => by kernel_rfl) rfl (by decide)) rfl rfl ?_ -- law.go:41 buildSlice
  refine Runs_p rfl (Valid.len rfl Try.underlying25 (Reads.sl rfl)) rfl rfl ?_ -- law.go:41 call
  refine Runs_p rfl (Valid.movek (A := Is _) rfl rfl) rfl rfl ?_ -- law.go:41 move
  refine Runs_nil ?_
  refine ⟨_, _, rfl, rfl, by kernel_rfl, ?_⟩
  refine thenQ_n ?_
  refine W_block ?_
  refine W_loopx (G := Nat) (fun (i : Nat) => i ≤ 2) [(2, Is _), (3, Is _), (9, Is _), (31, Sl 1 2 ((twoS (s0.extract 0 (min (s0.size : Int) 60).toNat) (ba (runsL raw 300))).map Value.string)), (32, Is _)] (fun (i : Nat) => [(33, Is (.int .i64 (i : Int)))]) [] (fun (i : Nat) => []) 14 (fun (i : Nat) => 2 - i) (0) [] (by first | trivial | omega | (simp; omega)) ⟨⟨(leq_is rfl rfl (by first | rfl | (simp; done) | omega | (simp [toNat_add, toNat_add1, Nat.add_assoc]; done) | (simp [toNat_add, toNat_add1]; omega))), trivial⟩, ⟨(leq_is rfl rfl rfl), (leq_is rfl rfl rfl), (leq_is rfl rfl rfl), (leq_sl (Reads.sl rfl) rfl rfl rfl), (leq_is rfl rfl rfl), trivial⟩, trivial, trivial, rfl, ⟨supg rfl, trivial⟩, ⟨supg rfl, supg rfl, supg rfl, supg rfl, supg rfl, trivial⟩, trivial, trivial, rfl, rfl⟩ ?_
  intro i hI1
  refine W_seq ?_
  refine W_regionE (c := 14) (c' := 15) (by kernel_rfl) rfl ?_
  refine Runs_p rfl (Valid.lss rfl rfl rfl) rfl rfl ?_ -- law.go:41 binOp
  refine Runs_nil ?_
  refine thenQ_n ?_
  refine W_seq ?_
  refine W_cond _ rfl (fun hb1 => ?_) (fun hb1 => ?_)
  · try simp only [decide_eq_true_eq] at hb1
    all_goals (
      refine W_skip ?_
      refine thenQ_n ?_
      refine W_seq ?_
      refine W_block ?_
      refine W_seq ?_
      refine W_regionE (c := 15) (c' := 18) (by kernel_rfl) rfl ?_
      refine Runs_p rfl (Valid.eltaddr1 ByteArray.empty rfl Try.underlying25 sz9 (Reads.sl rfl) rfl (by first | omega | (simp only [Int.toNat_natCast, toNat_add, toNat_add1, List.length_append, List.length_cons, List.length_nil, List.length_replicate]; omega)) (by first | rfl | simp)) rfl rfl ?_ -- law.go:41 indexAddr
      refine Runs_p rfl (Valid.loadelt rfl ag9 rfl) rfl rfl ?_ -- law.go:41 load
      refine Runs_p rfl (Valid.assignk (A := Is _) rfl rfl) rfl rfl ?_ -- law.go:41 assign
      refine Runs_nil ?_
      refine thenQ_n ?_
      refine W_seq ?_
      have htz := two_sz3 (show (s0.extract 0 (min (s0.size : Int) 60).toNat).size ≤ 300 by omega) hr3 (i : Int).toNat
      generalize (twoS (s0.extract 0 (min (s0.size : Int) 60).toNat) (ba (runsL raw 300))).getD (i : Int).toNat ByteArray.empty = t at *
      have hps := packV_size t
      have hlv := lenV_hi t
      refine W_regionE (c := 18) (c' := 21) (by kernel_rfl) rfl ?_
      refine Runs_p rfl (Valid.movek (A := Is _) rfl rfl) rfl rfl ?_ -- law.go:42 move
      refine Runs_p rfl (Valid.call rfl (rpack_b _ (by omega)) ⟨argle rfl, trivial⟩) rfl rfl ?_ -- law.go:42 call
      refine Runs_p rfl (Valid.assignk (A := Is _) rfl rfl) rfl rfl ?_ -- law.go:42 assign
      refine Runs_nil ?_
      refine thenQ_n ?_
      refine W_seq ?_
      refine W_seq ?_
      refine W_regionE (c := 21) (c' := 32) (by kernel_rfl) rfl ?_
      refine Runs_p rfl (Valid.movek (A := Is _) rfl rfl) rfl rfl ?_ -- law.go:43 move
      refine Runs_p rfl (Valid.call rfl (pack_s _ (by omega)) ⟨argle rfl, trivial⟩) rfl rfl ?_ -- law.go:43 call
      refine Runs_p rfl (Valid.movek (A := Is _) rfl rfl) rfl rfl ?_ -- law.go:43 move
      refine Runs_p rfl (Valid.sneq rfl rfl rfl) rfl rfl ?_ -- law.go:43 binOp
      refine Runs_p rfl (Valid.movek (A := Is _) rfl rfl) rfl rfl ?_ -- law.go:43 move
      refine Runs_cnd rfl rfl (Grd.is rfl) [] (fun hg => trivial) (fun hg => Valid.movek (A := Is _) rfl rfl) (by rfl) rfl ?_
      refine Runs_cnd rfl rfl (Grd.is rfl) [(44, _)] (fun hg => ⟨cnd_at rfl (by first | exact hg | exact hg.1 | exact hg.1.1 | exact hg.1.1.1), trivial⟩) (fun hg => Valid.call rfl (len_s _ (by (try simp only [decide_eq_false_iff_not, not_true_eq_false, not_false_eq_true, ne_eq] at hg); omega)) ⟨argle rfl, trivial⟩) (by rfl) rfl ?_
      refine Runs_cnd rfl rfl (Grd.is rfl) [] (fun hg => trivial) (fun hg => Valid.movek (A := Is _) rfl rfl) (by rfl) rfl ?_
      refine Runs_cnd rfl rfl (Grd.is rfl) [(46, _)] (fun hg => ⟨cnd_at rfl (by first | exact hg | exact hg.1 | exact hg.1.1 | exact hg.1.1.1), trivial⟩) (fun hg => Valid.slen rfl Try.underlying9 rfl) (by rfl) rfl ?_
      refine Runs_cnd rfl rfl (Grd.is rfl) [(45, _), (47, _)] (fun hg => ⟨cnd_at rfl (by first | exact hg | exact hg.1 | exact hg.1.1 | exact hg.1.1.1), cnd_at rfl (by first | exact hg | exact hg.1 | exact hg.1.1 | exact hg.1.1.1), trivial⟩) (fun hg => Valid.neq rfl rfl rfl) (by rfl) rfl ?_
      refine Runs_p rfl (Valid.pickor rfl rfl rfl rfl (fun h => by first | exact h | exact ⟨hg, h⟩)) rfl rfl ?_ -- law.go:43 pick
      refine Runs_nil ?_
      refine thenQ_n ?_
      refine W_cond _ rfl (fun hb2 => ?_) (fun hb2 => ?_)
      · try simp only [decide_eq_true_eq, Bool.or_eq_true, not_true_eq_false, ne_eq] at hb2
        all_goals (
          exfalso
          simp [hps] at hb2
          
          done)
      · try simp only [decide_eq_false_iff_not, Bool.or_eq_false_iff, not_true_eq_false, not_false_eq_true, ne_eq] at hb2
        all_goals (
          refine W_skip ?_
          refine thenQ_n ?_
          refine W_seq ?_
          refine W_seq ?_
          refine W_regionE (c := 32) (c' := 42) (by kernel_rfl) rfl ?_
          refine Runs_p rfl (Valid.movek (A := Is _) rfl rfl) rfl rfl ?_ -- law.go:46 move
          refine Runs_p rfl (Valid.movek (A := Is _) rfl rfl) rfl rfl ?_ -- law.go:46 move
          refine Runs_p rfl (Valid.movek (A := Is _) rfl rfl) rfl rfl ?_ -- law.go:46 move
          refine Runs_p rfl (Valid.movek (A := Is _) rfl rfl) rfl rfl ?_ -- law.go:46 move
          refine Runs_p rfl (Valid.slen rfl Try.underlying9 rfl) rfl rfl ?_ -- law.go:46 call
          refine Runs_p rfl (Valid.quo rfl rfl rfl (by first | omega | (simp only [Int.toNat_natCast, toNat_add, toNat_add1, List.length_append, List.length_cons, List.length_nil, List.length_replicate]; omega)) (by first | omega | (simp only [Int.toNat_natCast, toNat_add, toNat_add1, List.length_append, List.length_cons, List.length_nil, List.length_replicate]; omega)) (room64 (by first | omega | (simp only [Int.toNat_natCast, toNat_add, toNat_add1, List.length_append, List.length_cons, List.length_nil, List.length_replicate]; omega)) (by first | omega | (simp only [Int.toNat_natCast, toNat_add, toNat_add1, List.length_append, List.length_cons, List.length_nil, List.length_replicate]; omega)))) rfl rfl ?_ -- law.go:46 binOp
          refine Runs_p rfl (Valid.ssliceto rfl Try.underlying9 rfl rfl (by first | omega | (simp only [Int.toNat_natCast, toNat_add, toNat_add1, List.length_append, List.length_cons, List.length_nil, List.length_replicate]; omega))) rfl rfl ?_ -- law.go:46 slice
          refine Runs_p rfl (Valid.lit (el := 9) ((threeS t (packV t) ((packV t).extract 0 (((packV t).size : Int) / 2).toNat)).map Value.string) rfl rfl (fun _ => by kernel_rfl) rfl (by decide)) rfl rfl ?_ -- law.go:46 buildSlice
          refine Runs_p rfl (Valid.len rfl Try.underlying25 (Reads.sl rfl)) rfl rfl ?_ -- law.go:46 call
          refine Runs_p rfl (Valid.movek (A := Is _) rfl rfl) rfl rfl ?_ -- law.go:46 move
          refine Runs_nil ?_
          refine thenQ_n ?_
          refine W_block ?_
          refine W_loopx (G := Nat) (fun (j : Nat) => j ≤ 3) [(2, Is _), (3, Is _), (9, Is _), (11, Is _), (31, Sl 1 _ _), (32, Is _), (33, Is _), (57, Sl 1 3 ((threeS t (packV t) ((packV t).extract 0 (((packV t).size : Int) / 2).toNat)).map Value.string)), (58, Is _)] (fun (j : Nat) => [(59, Is (.int .i64 (j : Int)))]) [] (fun (j : Nat) => []) 42 (fun (j : Nat) => 3 - j) (0) [] (by first | trivial | omega | (simp; omega)) ⟨⟨(leq_is rfl rfl (by first | rfl | (simp; done) | omega | (simp [toNat_add, toNat_add1, Nat.add_assoc]; done) | (simp [toNat_add, toNat_add1]; omega))), trivial⟩, ⟨(leq_is rfl rfl rfl), (leq_is rfl rfl rfl), (leq_is rfl rfl rfl), (leq_is rfl rfl rfl), (leq_sl (Reads.sl rfl) rfl rfl rfl), (leq_is rfl rfl rfl), (leq_is rfl rfl rfl), (leq_sl (Reads.sl rfl) rfl rfl rfl), (leq_is rfl rfl rfl), trivial⟩, trivial, trivial, rfl, ⟨supg rfl, trivial⟩, ⟨supg rfl, supg rfl, supg rfl, supg rfl, supg rfl, supg rfl, supg rfl, supg rfl, supg rfl, trivial⟩, trivial, trivial, rfl, rfl⟩ ?_
          intro j hI2
          refine W_seq ?_
          refine W_regionE (c := 42) (c' := 43) (by kernel_rfl) rfl ?_
          refine Runs_p rfl (Valid.lss rfl rfl rfl) rfl rfl ?_ -- law.go:46 binOp
          refine Runs_nil ?_
          refine thenQ_n ?_
          refine W_seq ?_
          refine W_cond _ rfl (fun hb3 => ?_) (fun hb3 => ?_)
          · try simp only [decide_eq_true_eq] at hb3
            all_goals (
              refine W_skip ?_
              refine thenQ_n ?_
              refine W_seq ?_
              refine W_block ?_
              refine W_seq ?_
              refine W_regionE (c := 43) (c' := 46) (by kernel_rfl) rfl ?_
              refine Runs_p rfl (Valid.eltaddr1 ByteArray.empty rfl Try.underlying25 sz9 (Reads.sl rfl) rfl (by first | omega | (simp only [Int.toNat_natCast, toNat_add, toNat_add1, List.length_append, List.length_cons, List.length_nil, List.length_replicate]; omega)) (by first | rfl | simp)) rfl rfl ?_ -- law.go:46 indexAddr
              refine Runs_p rfl (Valid.loadelt rfl ag9 rfl) rfl rfl ?_ -- law.go:46 load
              refine Runs_p rfl (Valid.assignk (A := Is _) rfl rfl) rfl rfl ?_ -- law.go:46 assign
              refine Runs_nil ?_
              refine thenQ_n ?_
              refine W_seq ?_
              have hyz := three_sz (show t.size ≤ 660 by omega) (show (packV t).size ≤ 660 by omega) (show ((packV t).extract 0 (((packV t).size : Int) / 2).toNat).size ≤ 660 by rw [ByteArray.size_extract]; omega) (j : Int).toNat
              generalize (threeS t (packV t) ((packV t).extract 0 (((packV t).size : Int) / 2).toNat)).getD (j : Int).toNat ByteArray.empty = y at *
              refine W_regionE (c := 46) (c' := 57) (by kernel_rfl) rfl ?_
              refine Runs_p rfl (Valid.movek (A := Is _) rfl rfl) rfl rfl ?_ -- law.go:47 move
              refine Runs_p rfl (Valid.movek (A := Is _) rfl rfl) rfl rfl ?_ -- law.go:47 move
              refine Runs_p rfl (Valid.call rfl (pick4_s _ _ (by omega) (by omega) (by omega) (by omega)) ⟨argle rfl, argle rfl, trivial⟩) rfl rfl ?_ -- law.go:47 call
              refine Runs_p rfl (Valid.movek (A := Is _) rfl rfl) rfl rfl ?_ -- law.go:47 move
              refine Runs_p rfl (Valid.slen rfl Try.underlying9 rfl) rfl rfl ?_ -- law.go:47 call
              refine Runs_p rfl (Valid.movek (A := Is _) rfl rfl) rfl rfl ?_ -- law.go:47 move
              refine Runs_p rfl (Valid.slen rfl Try.underlying9 rfl) rfl rfl ?_ -- law.go:47 call
              refine Runs_p rfl (Valid.sub rfl rfl rfl (room64 (by first | omega | (simp only [Int.toNat_natCast, toNat_add, toNat_add1, List.length_append, List.length_cons, List.length_nil, List.length_replicate]; omega)) (by first | omega | (simp only [Int.toNat_natCast, toNat_add, toNat_add1, List.length_append, List.length_cons, List.length_nil, List.length_replicate]; omega)))) rfl rfl ?_ -- law.go:47 binOp
              refine Runs_p rfl (Valid.lit (el := 3) ((fourI m0 (pickV m0 400) (t.size : Int) ((t.size : Int) - 1)).map (Value.int .i64)) rfl rfl (fun _ => by kernel_rfl) rfl (by decide)) rfl rfl ?_ -- law.go:47 buildSlice
              refine Runs_p rfl (Valid.len rfl Try.underlying29 (Reads.sl rfl)) rfl rfl ?_ -- law.go:47 call
              refine Runs_p rfl (Valid.movek (A := Is _) rfl rfl) rfl rfl ?_ -- law.go:47 move
              refine Runs_nil ?_
              refine thenQ_n ?_
              refine W_block ?_
              refine W_loopx (G := Nat) (fun (k : Nat) => k ≤ 4) [(2, Is _), (3, Is _), (9, Is _), (11, Is _), (14, Is _), (31, Sl 1 _ _), (32, Is _), (33, Is _), (57, Sl 1 _ _), (58, Is _), (59, Is _), (71, Sl 1 4 ((fourI m0 (pickV m0 400) (t.size : Int) ((t.size : Int) - 1)).map (Value.int .i64))), (72, Is _)] (fun (k : Nat) => [(73, Is (.int .i64 (k : Int)))]) [] (fun (k : Nat) => []) 57 (fun (k : Nat) => 4 - k) (0) [] (by first | trivial | omega | (simp; omega)) ⟨⟨(leq_is rfl rfl (by first | rfl | (simp; done) | omega | (simp [toNat_add, toNat_add1, Nat.add_assoc]; done) | (simp [toNat_add, toNat_add1]; omega))), trivial⟩, ⟨(leq_is rfl rfl rfl), (leq_is rfl rfl rfl), (leq_is rfl rfl rfl), (leq_is rfl rfl rfl), (leq_is rfl rfl rfl), (leq_sl (Reads.sl rfl) rfl rfl rfl), (leq_is rfl rfl rfl), (leq_is rfl rfl rfl), (leq_sl (Reads.sl rfl) rfl rfl rfl), (leq_is rfl rfl rfl), (leq_is rfl rfl rfl), (leq_sl (Reads.sl rfl) rfl rfl rfl), (leq_is rfl rfl rfl), trivial⟩, trivial, trivial, rfl, ⟨supg rfl, trivial⟩, ⟨supg rfl, supg rfl, supg rfl, supg rfl, supg rfl, supg rfl, supg rfl, supg rfl, supg rfl, supg rfl, supg rfl, supg rfl, supg rfl, trivial⟩, trivial, trivial, rfl, rfl⟩ ?_
              intro k hI3
              refine W_seq ?_
              refine W_regionE (c := 57) (c' := 58) (by kernel_rfl) rfl ?_
              refine Runs_p rfl (Valid.lss rfl rfl rfl) rfl rfl ?_ -- law.go:47 binOp
              refine Runs_nil ?_
              refine thenQ_n ?_
              refine W_seq ?_
              refine W_cond _ rfl (fun hb4 => ?_) (fun hb4 => ?_)
              · try simp only [decide_eq_true_eq] at hb4
                all_goals (
                  refine W_skip ?_
                  refine thenQ_n ?_
                  refine W_seq ?_
                  refine W_block ?_
                  refine W_seq ?_
                  refine W_regionE (c := 58) (c' := 61) (by kernel_rfl) rfl ?_
                  refine Runs_p rfl (Valid.eltaddr1 0 rfl Try.underlying29 sz3 (Reads.sl rfl) rfl (by first | omega | (simp only [Int.toNat_natCast, toNat_add, toNat_add1, List.length_append, List.length_cons, List.length_nil, List.length_replicate]; omega)) (by first | rfl | simp)) rfl rfl ?_ -- law.go:47 indexAddr
                  refine Runs_p rfl (Valid.loadelt rfl ag3 rfl) rfl rfl ?_ -- law.go:47 load
                  refine Runs_p rfl (Valid.assignk (A := Is _) rfl rfl) rfl rfl ?_ -- law.go:47 assign
                  refine Runs_nil ?_
                  refine thenQ_n ?_
                  refine W_seq ?_
                  generalize (fourI m0 (pickV m0 400) (t.size : Int) ((t.size : Int) - 1)).getD (k : Int).toNat 0 = m at *
                  refine W_regionE (c := 61) (c' := 69) (by kernel_rfl) rfl ?_
                  refine Runs_p rfl (Valid.movek (A := Is _) rfl rfl) rfl rfl ?_ -- law.go:48 move
                  refine Runs_p rfl (Valid.movek (A := Is _) rfl rfl) rfl rfl ?_ -- law.go:48 move
                  refine Runs_p rfl (Valid.call rfl (unpack_s _ _ (by omega)) ⟨argle rfl, argle rfl, trivial⟩) rfl rfl ?_ -- law.go:48 call
                  refine Runs_p rfl (Valid.movek (A := Tup [Is _, Is _]) rfl rfl) rfl rfl ?_ -- law.go:48 move
                  refine Runs_p rfl (Valid.extract _ rfl rfl rfl) rfl rfl ?_ -- law.go:48 extract
                  refine Runs_p rfl (Valid.extract _ rfl rfl rfl) rfl rfl ?_ -- law.go:48 extract
                  refine Runs_p rfl (Valid.assignk (A := Is _) rfl rfl) rfl rfl ?_ -- law.go:48 assign
                  refine Runs_p rfl (Valid.assignk (A := Is _) rfl rfl) rfl rfl ?_ -- law.go:48 assign
                  refine Runs_nil ?_
                  refine thenQ_n ?_
                  refine W_seq ?_
                  refine W_regionE (c := 69) (c' := 77) (by kernel_rfl) rfl ?_
                  refine Runs_p rfl (Valid.movek (A := Is _) rfl rfl) rfl rfl ?_ -- law.go:49 move
                  refine Runs_p rfl (Valid.movek (A := Is _) rfl rfl) rfl rfl ?_ -- law.go:49 move
                  refine Runs_p rfl (Valid.call rfl (runpack_s _ _ (by omega)) ⟨argle rfl, argle rfl, trivial⟩) rfl rfl ?_ -- law.go:49 call
                  refine Runs_p rfl (Valid.movek (A := Tup [Is _, Is _]) rfl rfl) rfl rfl ?_ -- law.go:49 move
                  refine Runs_p rfl (Valid.extract _ rfl rfl rfl) rfl rfl ?_ -- law.go:49 extract
                  refine Runs_p rfl (Valid.extract _ rfl rfl rfl) rfl rfl ?_ -- law.go:49 extract
                  refine Runs_p rfl (Valid.assignk (A := Is _) rfl rfl) rfl rfl ?_ -- law.go:49 assign
                  refine Runs_p rfl (Valid.assignk (A := Is _) rfl rfl) rfl rfl ?_ -- law.go:49 assign
                  refine Runs_nil ?_
                  refine thenQ_n ?_
                  refine W_seq ?_
                  refine W_regionE (c := 77) (c' := 85) (by kernel_rfl) rfl ?_
                  refine Runs_p rfl (Valid.movek (A := Is _) rfl rfl) rfl rfl ?_ -- law.go:50 move
                  refine Runs_p rfl (Valid.movek (A := Is _) rfl rfl) rfl rfl ?_ -- law.go:50 move
                  refine Runs_p rfl (Valid.sneq rfl rfl rfl) rfl rfl ?_ -- law.go:50 binOp
                  refine Runs_p rfl (Valid.movek (A := Is _) rfl rfl) rfl rfl ?_ -- law.go:50 move
                  refine Runs_cnd rfl rfl (Grd.is rfl) [] (fun hg => trivial) (fun hg => Valid.movek (A := Is _) rfl rfl) (by rfl) rfl ?_
                  refine Runs_cnd rfl rfl (Grd.is rfl) [] (fun hg => trivial) (fun hg => Valid.movek (A := Is _) rfl rfl) (by rfl) rfl ?_
                  refine Runs_cnd rfl rfl (Grd.is rfl) [(93, _), (94, _)] (fun hg => ⟨cnd_at rfl (by first | exact hg | exact hg.1 | exact hg.1.1 | exact hg.1.1.1), cnd_at rfl (by first | exact hg | exact hg.1 | exact hg.1.1 | exact hg.1.1.1), trivial⟩) (fun hg => Valid.neq rfl rfl rfl) (by rfl) rfl ?_
                  refine Runs_p rfl (Valid.pickor rfl rfl rfl rfl (fun h => by first | exact h | exact ⟨hg, h⟩)) rfl rfl ?_ -- law.go:50 pick
                  refine Runs_nil ?_
                  refine thenQ_n ?_
                  refine W_cond _ rfl (fun hb5 => ?_) (fun hb5 => ?_)
                  · try simp only [decide_eq_true_eq, Bool.or_eq_true, not_true_eq_false, ne_eq] at hb5
                    all_goals (
                      exfalso
                      simp at hb5
                      
                      done)
                  · try simp only [decide_eq_false_iff_not, Bool.or_eq_false_iff, not_true_eq_false, not_false_eq_true, ne_eq] at hb5
                    all_goals (
                      refine W_skip ?_
                      refine blockQ_n ?_
                      refine thenQ_n ?_
                      refine W_regionE (c := 85) (c' := 87) (by kernel_rfl) rfl ?_
                      refine Runs_p rfl (Valid.add rfl rfl rfl (room64 (by first | omega | (simp only [Int.toNat_natCast, toNat_add, toNat_add1, List.length_append, List.length_cons, List.length_nil, List.length_replicate]; omega)) (by first | omega | (simp only [Int.toNat_natCast, toNat_add, toNat_add1, List.length_append, List.length_cons, List.length_nil, List.length_replicate]; omega)))) rfl rfl ?_ -- law.go:47 binOp
                      refine Runs_p rfl (Valid.movek (A := Is _) rfl rfl) rfl rfl ?_ -- law.go:47 move
                      refine Runs_nil ?_
                      refine LoopQ.next (k + 1) [] (by omega) (by omega) ⟨⟨(leq_is rfl rfl (by first | rfl | (simp; done) | omega | (simp [toNat_add, toNat_add1, Nat.add_assoc]; done) | (simp [toNat_add, toNat_add1]; omega))), trivial⟩, ⟨(leq_is rfl rfl rfl), (leq_is rfl rfl rfl), (leq_is rfl rfl rfl), (leq_is rfl rfl rfl), (leq_is rfl rfl rfl), (leq_sl (Reads.sl rfl) rfl rfl rfl), (leq_is rfl rfl rfl), (leq_is rfl rfl rfl), (leq_sl (Reads.sl rfl) rfl rfl rfl), (leq_is rfl rfl rfl), (leq_is rfl rfl rfl), (leq_sl (Reads.sl rfl) rfl rfl rfl), (leq_is rfl rfl rfl), trivial⟩, trivial, trivial, rfl, ⟨supg rfl, trivial⟩, ⟨supg rfl, supg rfl, supg rfl, supg rfl, supg rfl, supg rfl, supg rfl, supg rfl, supg rfl, supg rfl, supg rfl, supg rfl, supg rfl, trivial⟩, trivial, trivial, rfl, rfl⟩
                      done)
                  done)
              · try simp only [decide_eq_false_iff_not] at hb4
                all_goals (
                  refine W_exit ?_
                  refine thenQ_e ?_
                  refine loopQ_e ?_
                  refine blockQ_x ?_
                  refine blockQ_n ?_
                  refine thenQ_n ?_
                  refine W_regionE (c := 58) (c' := 60) (by kernel_rfl) rfl ?_
                  refine Runs_p rfl (Valid.add rfl rfl rfl (room64 (by first | omega | (simp only [Int.toNat_natCast, toNat_add, toNat_add1, List.length_append, List.length_cons, List.length_nil, List.length_replicate]; omega)) (by first | omega | (simp only [Int.toNat_natCast, toNat_add, toNat_add1, List.length_append, List.length_cons, List.length_nil, List.length_replicate]; omega)))) rfl rfl ?_ -- law.go:46 binOp
                  refine Runs_p rfl (Valid.movek (A := Is _) rfl rfl) rfl rfl ?_ -- law.go:46 move
                  refine Runs_nil ?_
                  refine LoopQ.next (j + 1) [] (by omega) (by omega) ⟨⟨(leq_is rfl rfl (by first | rfl | (simp; done) | omega | (simp [toNat_add, toNat_add1, Nat.add_assoc]; done) | (simp [toNat_add, toNat_add1]; omega))), trivial⟩, ⟨(leq_is rfl rfl rfl), (leq_is rfl rfl rfl), (leq_is rfl rfl rfl), (leq_is rfl rfl rfl), (leq_sl (Reads.sl rfl) rfl rfl rfl), (leq_is rfl rfl rfl), (leq_is rfl rfl rfl), (leq_sl (Reads.sl rfl) rfl rfl rfl), (leq_is rfl rfl rfl), trivial⟩, trivial, trivial, rfl, ⟨supg rfl, trivial⟩, ⟨supg rfl, supg rfl, supg rfl, supg rfl, supg rfl, supg rfl, supg rfl, supg rfl, supg rfl, trivial⟩, trivial, trivial, rfl, rfl⟩
                  done)
              done)
          · try simp only [decide_eq_false_iff_not] at hb3
            all_goals (
              refine W_exit ?_
              refine thenQ_e ?_
              refine loopQ_e ?_
              refine blockQ_x ?_
              refine thenQ_n ?_
              refine W_seq ?_
              refine W_regionE (c := 43) (c' := 49) (by kernel_rfl) rfl ?_
              refine Runs_p rfl (Valid.movek (A := Is _) rfl rfl) rfl rfl ?_ -- law.go:55 move
              refine Runs_p rfl (Valid.movek (A := Is _) rfl rfl) rfl rfl ?_ -- law.go:55 move
              refine Runs_p rfl (Valid.call rfl (pick4_s _ _ (by omega) (by omega) (by omega) (by omega)) ⟨argle rfl, argle rfl, trivial⟩) rfl rfl ?_ -- law.go:55 call
              refine Runs_p rfl (Valid.lit (el := 3) ((twoI r0 (pickV r0 70)).map (Value.int .i64)) rfl rfl (fun _ => by kernel_rfl) rfl (by decide)) rfl rfl ?_ -- law.go:55 buildSlice
              refine Runs_p rfl (Valid.len rfl Try.underlying29 (Reads.sl rfl)) rfl rfl ?_ -- law.go:55 call
              refine Runs_p rfl (Valid.movek (A := Is _) rfl rfl) rfl rfl ?_ -- law.go:55 move
              refine Runs_nil ?_
              refine thenQ_n ?_
              refine W_block ?_
              refine W_loopx (G := Nat) (fun (q : Nat) => q ≤ 2) [(2, Is _), (3, Is _), (9, Is _), (11, Is _), (31, Sl 1 _ _), (32, Is _), (33, Is _), (102, Sl 1 2 ((twoI r0 (pickV r0 70)).map (Value.int .i64))), (103, Is _)] (fun (q : Nat) => [(104, Is (.int .i64 (q : Int)))]) [] (fun (q : Nat) => []) 49 (fun (q : Nat) => 2 - q) (0) [] (by first | trivial | omega | (simp; omega)) ⟨⟨(leq_is rfl rfl (by first | rfl | (simp; done) | omega | (simp [toNat_add, toNat_add1, Nat.add_assoc]; done) | (simp [toNat_add, toNat_add1]; omega))), trivial⟩, ⟨(leq_is rfl rfl rfl), (leq_is rfl rfl rfl), (leq_is rfl rfl rfl), (leq_is rfl rfl rfl), (leq_sl (Reads.sl rfl) rfl rfl rfl), (leq_is rfl rfl rfl), (leq_is rfl rfl rfl), (leq_sl (Reads.sl rfl) rfl rfl rfl), (leq_is rfl rfl rfl), trivial⟩, trivial, trivial, rfl, ⟨supg rfl, trivial⟩, ⟨supg rfl, supg rfl, supg rfl, supg rfl, supg rfl, supg rfl, supg rfl, supg rfl, supg rfl, trivial⟩, trivial, trivial, rfl, rfl⟩ ?_
              intro q hI4
              refine W_seq ?_
              refine W_regionE (c := 49) (c' := 50) (by kernel_rfl) rfl ?_
              refine Runs_p rfl (Valid.lss rfl rfl rfl) rfl rfl ?_ -- law.go:55 binOp
              refine Runs_nil ?_
              refine thenQ_n ?_
              refine W_seq ?_
              refine W_cond _ rfl (fun hb6 => ?_) (fun hb6 => ?_)
              · try simp only [decide_eq_true_eq] at hb6
                all_goals (
                  refine W_skip ?_
                  refine thenQ_n ?_
                  refine W_seq ?_
                  refine W_block ?_
                  refine W_seq ?_
                  refine W_regionE (c := 50) (c' := 53) (by kernel_rfl) rfl ?_
                  refine Runs_p rfl (Valid.eltaddr1 0 rfl Try.underlying29 sz3 (Reads.sl rfl) rfl (by first | omega | (simp only [Int.toNat_natCast, toNat_add, toNat_add1, List.length_append, List.length_cons, List.length_nil, List.length_replicate]; omega)) (by first | rfl | simp)) rfl rfl ?_ -- law.go:55 indexAddr
                  refine Runs_p rfl (Valid.loadelt rfl ag3 rfl) rfl rfl ?_ -- law.go:55 load
                  refine Runs_p rfl (Valid.assignk (A := Is _) rfl rfl) rfl rfl ?_ -- law.go:55 assign
                  refine Runs_nil ?_
                  refine thenQ_n ?_
                  refine W_seq ?_
                  have hqz := twoI_in hr0 (show -9223372036854775808 ≤ pickV r0 70 ∧ pickV r0 70 ≤ 9223372036854775807 by omega) (q : Int).toNat
                  generalize (twoI r0 (pickV r0 70)).getD (q : Int).toNat 0 = r at *
                  refine W_regionE (c := 53) (c' := 60) (by kernel_rfl) rfl ?_
                  refine Runs_p rfl (Valid.movek (A := Is _) rfl rfl) rfl rfl ?_ -- law.go:56 move
                  refine Runs_p rfl (Valid.movek (A := Is _) rfl rfl) rfl rfl ?_ -- law.go:56 move
                  refine Runs_p rfl (Valid.call rfl (cut_s _ _ (by omega) (by omega)) ⟨argle rfl, argle rfl, trivial⟩) rfl rfl ?_ -- law.go:56 call
                  refine Runs_p rfl (Valid.movek (A := Is _) rfl rfl) rfl rfl ?_ -- law.go:56 move
                  refine Runs_p rfl (Valid.movek (A := Is _) rfl rfl) rfl rfl ?_ -- law.go:56 move
                  refine Runs_p rfl (Valid.call rfl (rcut_b _ _ (by omega)) ⟨argle rfl, argle rfl, trivial⟩) rfl rfl ?_ -- law.go:56 call
                  refine Runs_p rfl (Valid.neq rfl rfl rfl) rfl rfl ?_ -- law.go:56 binOp
                  refine Runs_nil ?_
                  refine thenQ_n ?_
                  refine W_cond _ rfl (fun hb7 => ?_) (fun hb7 => ?_)
                  · try simp only [decide_eq_true_eq, not_true_eq_false, ne_eq] at hb7
                    all_goals (
                      exfalso
                      simp at hb7
                      
                      done)
                  · try simp only [decide_eq_false_iff_not, not_true_eq_false, not_false_eq_true, ne_eq] at hb7
                    all_goals (
                      refine W_skip ?_
                      refine blockQ_n ?_
                      refine thenQ_n ?_
                      refine W_regionE (c := 60) (c' := 62) (by kernel_rfl) rfl ?_
                      refine Runs_p rfl (Valid.add rfl rfl rfl (room64 (by first | omega | (simp only [Int.toNat_natCast, toNat_add, toNat_add1, List.length_append, List.length_cons, List.length_nil, List.length_replicate]; omega)) (by first | omega | (simp only [Int.toNat_natCast, toNat_add, toNat_add1, List.length_append, List.length_cons, List.length_nil, List.length_replicate]; omega)))) rfl rfl ?_ -- law.go:55 binOp
                      refine Runs_p rfl (Valid.movek (A := Is _) rfl rfl) rfl rfl ?_ -- law.go:55 move
                      refine Runs_nil ?_
                      refine LoopQ.next (q + 1) [] (by omega) (by omega) ⟨⟨(leq_is rfl rfl (by first | rfl | (simp; done) | omega | (simp [toNat_add, toNat_add1, Nat.add_assoc]; done) | (simp [toNat_add, toNat_add1]; omega))), trivial⟩, ⟨(leq_is rfl rfl rfl), (leq_is rfl rfl rfl), (leq_is rfl rfl rfl), (leq_is rfl rfl rfl), (leq_sl (Reads.sl rfl) rfl rfl rfl), (leq_is rfl rfl rfl), (leq_is rfl rfl rfl), (leq_sl (Reads.sl rfl) rfl rfl rfl), (leq_is rfl rfl rfl), trivial⟩, trivial, trivial, rfl, ⟨supg rfl, trivial⟩, ⟨supg rfl, supg rfl, supg rfl, supg rfl, supg rfl, supg rfl, supg rfl, supg rfl, supg rfl, trivial⟩, trivial, trivial, rfl, rfl⟩
                      done)
                  done)
              · try simp only [decide_eq_false_iff_not] at hb6
                all_goals (
                  refine W_exit ?_
                  refine thenQ_e ?_
                  refine loopQ_e ?_
                  refine blockQ_x ?_
                  refine blockQ_n ?_
                  refine thenQ_n ?_
                  refine W_regionE (c := 50) (c' := 52) (by kernel_rfl) rfl ?_
                  refine Runs_p rfl (Valid.add rfl rfl rfl (room64 (by first | omega | (simp only [Int.toNat_natCast, toNat_add, toNat_add1, List.length_append, List.length_cons, List.length_nil, List.length_replicate]; omega)) (by first | omega | (simp only [Int.toNat_natCast, toNat_add, toNat_add1, List.length_append, List.length_cons, List.length_nil, List.length_replicate]; omega)))) rfl rfl ?_ -- law.go:41 binOp
                  refine Runs_p rfl (Valid.movek (A := Is _) rfl rfl) rfl rfl ?_ -- law.go:41 move
                  refine Runs_nil ?_
                  refine LoopQ.next (i + 1) [] (by omega) (by omega) ⟨⟨(leq_is rfl rfl (by first | rfl | (simp; done) | omega | (simp [toNat_add, toNat_add1, Nat.add_assoc]; done) | (simp [toNat_add, toNat_add1]; omega))), trivial⟩, ⟨(leq_is rfl rfl rfl), (leq_is rfl rfl rfl), (leq_is rfl rfl rfl), (leq_sl (Reads.sl rfl) rfl rfl rfl), (leq_is rfl rfl rfl), trivial⟩, trivial, trivial, rfl, ⟨supg rfl, trivial⟩, ⟨supg rfl, supg rfl, supg rfl, supg rfl, supg rfl, trivial⟩, trivial, trivial, rfl, rfl⟩
                  done)
              done)
          done)
      done)
  · try simp only [decide_eq_false_iff_not] at hb1
    all_goals (
      refine W_exit ?_
      refine thenQ_e ?_
      refine loopQ_e ?_
      refine blockQ_x ?_
      refine thenQ_n ?_
      refine W_seq ?_
      refine W_regionE (c := 15) (c' := 17) (by kernel_rfl) rfl ?_
      refine Runs_p rfl (Valid.movek (A := Is _) rfl rfl) rfl rfl ?_ -- law.go:61 move
      refine Runs_p rfl (Valid.assignk (A := Is _) rfl rfl) rfl rfl ?_ -- law.go:61 assign
      refine Runs_nil ?_
      refine thenQ_n ?_
      refine W_ret ?_
      refine finQ_r ?_
      refine ResOk.one rfl (RVal.is rfl rfl (rfl))
      done)
end Rj
end Go.Proofs.Ytmilegikgbmjpaa
