/-
  WALKS of stage 8: the reference: words.
-/
import Derived.Test.YtnomocicogbdpaaRows
import Derived.Test.YtnomocicogbdpaaOa
import Derived.Test.YtnomocicogbdpaaOb
import Derived.Test.YtnomocicogbdpaaOc
import Derived.Test.YtnomocicogbdpaaOd
import Derived.Test.YtnomocicogbdpaaOe
import Derived.Test.YtnomocicogbdpaaOf
import Derived.Test.YtnomocicogbdpaaOg
import Derived.Test.YtnomocicogbdpaaOh
import Derived.Test.YtnomocicogbdpaaOi
namespace Go.Proofs.Ytnomocicogbdpaa
open Go.RowKit
namespace Oj
open Ab Oa Ob Oc Od Oe Of Og Oh Oi
theorem ag3 (w : World) : (isAgg 3).run Try.prog w = .ok false w := by kernel_rfl
theorem sz3 (w : World) : (sizeOf 3).run Try.prog w = .ok 1 w := by kernel_rfl
theorem sz34 (w : World) : (sizeOf 34).run Try.prog w = .ok 2 w := by kernel_rfl
theorem tzE34 : (Try.prog.info? 34).map (fun i => (i.zero, i.size, i.bytes)) = some (some (.agg #[.int .i64 0, .int .u64 0]), 2, 16) := by kernel_rfl
def rV (l : List Int) (n i : Nat) : Int := 2 * (wdS l n).2 + ((olA l ((n : Int) + 1) i).length : Int)
/-- the last length that has a word, and its last word -/
def rou (l : List Int) : Nat → Int × Int
  | 0 => (0, 0)
  | n + 1 => if (olL l ((n : Int) + 1)).length = 0 then rou l n else ((n : Int) + 1, (wdS l (n + 1)).2 - 1)
def rin (l : List Int) (n i : Nat) : Int × Int := if (olA l ((n : Int) + 1) i).length = 0 then rou l n else ((n : Int) + 1, rV l n i - 1)
theorem rin_0 (l : List Int) (n : Nat) : rin l n 0 = rou l n := rfl
theorem rin_end (l : List Int) (n i : Nat) (h : i = l.length) : rin l n i = rou l (n + 1) := by
  subst h
  unfold rin
  rw [rou]; rfl
theorem rin_n {l : List Int} {n i : Nat} (h : ¬ l.getD i 0 = (n : Int) + 1) : rin l n (i + 1) = rin l n i := by
  unfold rin rV; rw [olA_n h]
theorem rin_y {l : List Int} {n i : Nat} (h : l.getD i 0 = (n : Int) + 1) : rin l n (i + 1) = ((n : Int) + 1, rV l n i) := by
  have e : ((olA l ((n : Int) + 1) i ++ [i]).length : Int) = ((olA l ((n : Int) + 1) i).length : Int) + 1 := by simp
  unfold rin rV; rw [olA_y h, if_neg (by simp), e]
  congr 1; omega
theorem rV_bd {l : List Int} (hl : l.length ≤ 258) {n i : Nat} (hn : n < 20) (hi : i ≤ l.length) : 0 ≤ rV l n i ∧ rV l n i ≤ 600000000 := by
  have h1 := wdS_bd l hl n
  have h2 := pow20 (n := n) (by omega)
  have h3 := olA_le l ((n : Int) + 1) i
  unfold rV; omega
theorem rou_inv (l : List Int) : ∀ n, ((rou l n).1 = 0 ∧ (rou l n).2 = 0 ∧ (wdS l n).2 = 0) ∨ (1 ≤ (rou l n).1 ∧ (rou l n).1 ≤ n ∧ 0 ≤ (rou l n).2 ∧ ((rou l n).2 + 1) * 2 ^ ((n : Int) - (rou l n).1).toNat = (wdS l n).2)
  | 0 => .inl ⟨rfl, rfl, rfl⟩
  | n + 1 => by
    have ih := rou_inv l n
    have e : (wdS l (n + 1)).2 = 2 * (wdS l n).2 + ((olL l ((n : Int) + 1)).length : Int) := rfl
    rw [rou]
    split
    · rename_i h
      rcases ih with ⟨h1, h2, h3⟩ | ⟨h1, h2, h3, h4⟩
      · exact .inl ⟨h1, h2, by omega⟩
      · refine .inr ⟨h1, by omega, h3, ?_⟩
        rw [show (((n + 1 : Nat) : Int) - (rou l n).1).toNat = ((n : Int) - (rou l n).1).toNat + 1 by omega, Int.pow_succ, ← Int.mul_assoc, h4]; omega
    · rename_i h
      refine .inr ⟨?_, ?_, ?_, ?_⟩
      · simp only; omega
      · simp only; omega
      · simp only
        have : 0 ≤ (wdS l n).2 := by
          rcases ih with ⟨h1, h2, h3⟩ | ⟨h1, h2, h3, h4⟩
          · omega
          · rw [← h4]; exact Int.mul_nonneg (by omega) (Int.le_of_lt (Int.pow_pos (by omega)))
        omega
      · simp only
        rw [show (((n + 1 : Nat) : Int) - ((n : Int) + 1)).toNat = 0 by omega]; omega
theorem pow_mono2 {j d : Nat} (h : j ≤ d) : (2 : Int) ^ j ≤ 2 ^ d := by
  have h1 : (2 : Nat) ^ j ≤ 2 ^ d := Nat.pow_le_pow_right (by omega) h
  have h2 : ((2 ^ j : Nat) : Int) = 2 ^ j := by simp
  have h3 : ((2 ^ d : Nat) : Int) = 2 ^ d := by simp
  omega
theorem rin_inv {l : List Int} (hl : l.length ≤ 258) {n i : Nat} (hn : n < 20) (hi : i ≤ l.length) : ((rin l n i).1 = 0 ∧ (rin l n i).2 = 0 ∧ rV l n i = 0) ∨ (1 ≤ (rin l n i).1 ∧ (rin l n i).1 ≤ (n : Int) + 1 ∧ 0 ≤ (rin l n i).2 ∧ (rin l n i).2 ≤ 600000000 ∧ ∀ j : Nat, (rin l n i).1 + (j : Int) ≤ (n : Int) + 1 → 0 ≤ ((rin l n i).2 + 1) * 2 ^ j ∧ ((rin l n i).2 + 1) * 2 ^ j ≤ 600000000 ∧ ((rin l n i).1 + (j : Int) = (n : Int) + 1 → ((rin l n i).2 + 1) * 2 ^ j = rV l n i)) := by
  have hb := rV_bd hl hn hi
  unfold rin
  split
  · rename_i h
    have e : rV l n i = 2 * (wdS l n).2 := by unfold rV; omega
    rcases rou_inv l n with ⟨h1, h2, h3⟩ | ⟨h1, h2, h3, h4⟩
    · exact .inl ⟨h1, h2, by omega⟩
    · have key : ((rou l n).2 + 1) * 2 ^ ((n : Int) + 1 - (rou l n).1).toNat = rV l n i := by
        rw [show ((n : Int) + 1 - (rou l n).1).toNat = ((n : Int) - (rou l n).1).toNat + 1 by omega, Int.pow_succ, ← Int.mul_assoc, h4]; omega
      have le : ∀ j : Nat, (rou l n).1 + (j : Int) ≤ (n : Int) + 1 → 0 ≤ ((rou l n).2 + 1) * 2 ^ j ∧ ((rou l n).2 + 1) * 2 ^ j ≤ 600000000 := fun j hj => by
        have h5 := Int.mul_le_mul_of_nonneg_left (pow_mono2 (show j ≤ ((n : Int) + 1 - (rou l n).1).toNat by omega)) (show 0 ≤ (rou l n).2 + 1 by omega)
        rw [key] at h5
        exact ⟨Int.mul_nonneg (by omega) (Int.le_of_lt (Int.pow_pos (by omega))), by omega⟩
      refine .inr ⟨h1, by omega, h3, ?_, fun j hj => ⟨(le j hj).1, (le j hj).2, fun hj2 => ?_⟩⟩
      · have := (le 0 (by omega)).2
        rw [Int.pow_zero] at this; omega
      · rw [← key, show j = ((n : Int) + 1 - (rou l n).1).toNat by omega]
  · rename_i h
    have h1 : 1 ≤ rV l n i := by
      have := wdS_bd l hl n
      unfold rV; omega
    refine .inr ⟨?_, ?_, ?_, ?_, fun j hj => ?_⟩
    · simp only; omega
    · simp only; omega
    · simp only; omega
    · simp only; omega
    · simp only at hj ⊢
      have : j = 0 := by omega
      subst this
      rw [Int.pow_zero]
      exact ⟨by omega, by omega, fun _ => by omega⟩
def rW (l : List Int) (n i : Nat) : List (Int × Int) := setS (wdS l n).1 ((n : Int) + 1) (2 * (wdS l n).2) (olA l ((n : Int) + 1) i)
theorem rW_0 (l : List Int) (n : Nat) : rW l n 0 = (wdS l n).1 := rfl
theorem rW_end (l : List Int) (n i : Nat) (h : i = l.length) : rW l n i = (wdS l (n + 1)).1 := by subst h; rfl
theorem rW_n {l : List Int} {n i : Nat} (h : ¬ l.getD i 0 = (n : Int) + 1) : rW l n (i + 1) = rW l n i := by unfold rW; rw [olA_n h]
theorem rW_y {l : List Int} {n i : Nat} (h : l.getD i 0 = (n : Int) + 1) {x : Int} (hx : x = rV l n i) : (rW l n i).set i ((n : Int) + 1, x) = rW l n (i + 1) := by unfold rW; rw [olA_y h, setS_app, hx]; rfl
theorem rW_len (l : List Int) (n i : Nat) : (rW l n i).length = l.length := by unfold rW; rw [setS_len, wdS_len]
theorem dbl {x : Int} (h : 0 ≤ x ∧ x ≤ 600000000) : IntKind.u64.wrap (2 * x) = x * 2 := by rw [IntKind.wrap_u64, Int.emod_eq_of_lt (by omega) (by omega)]; omega

set_option maxRecDepth 100000 in
set_option maxHeartbeats 1000000 in
theorem rwords_s (l : List Int) (hin : In64 l) (hl : l.length ≤ 9223372036854775807) :
    FPure Try.prog 14 [Sl 1 l.length (l.map (Value.int .i64))] (Tup [Sl 2 (wdV l).length (wcells (wdV l)), Is (.int .i64 (sndV l).2)]) := by
  refine FPure.of Try.func14 Try.ntmps14 rfl (by kernel_rfl) rfl rfl rfl ?_
  refine W_seq ?_
  refine W_regionE (c := 1) (c' := 3) (by kernel_rfl) rfl ?_
  refine Runs_p rfl (Valid.assignk (A := Is (.slice none 0 0)) rfl rfl) rfl rfl ?_ -- ref.go:39 assign
  refine Runs_p rfl (Valid.assignk (A := Is _) rfl rfl) rfl rfl ?_ -- ref.go:39 assign
  refine Runs_nil ?_
  refine thenQ_n ?_
  refine W_seq ?_
  refine W_regionE (c := 3) (c' := 6) (by kernel_rfl) rfl ?_
  refine Runs_p rfl (Valid.movek (A := Sl 1 _ _) rfl rfl) rfl rfl ?_ -- ref.go:40 move
  refine Runs_p rfl (Valid.call rfl (rcheck_s _ (by assumption) (by omega)) ⟨argle_sl (Reads.sl rfl), trivial⟩) rfl rfl ?_ -- ref.go:40 call
  refine Runs_p rfl (Valid.assignk (A := Is _) rfl rfl) rfl rfl ?_ -- ref.go:40 assign
  refine Runs_nil ?_
  refine thenQ_n ?_
  refine W_seq ?_
  refine W_seq ?_
  refine W_regionE (c := 6) (c' := 8) (by kernel_rfl) rfl ?_
  refine Runs_p rfl (Valid.movek (A := Is _) rfl rfl) rfl rfl ?_ -- ref.go:41 move
  refine Runs_p rfl (Valid.neq rfl rfl rfl) rfl rfl ?_ -- ref.go:41 binOp
  refine Runs_nil ?_
  refine thenQ_n ?_
  refine W_cond _ rfl (fun hb1 => ?_) (fun hb1 => ?_)
  · try simp only [decide_eq_true_eq, ne_eq] at hb1
    all_goals (
      refine W_seq ?_
      refine W_regionE (c := 8) (c' := 11) (by kernel_rfl) rfl ?_
      refine Runs_p rfl (Valid.movek (A := Is _) rfl rfl) rfl rfl ?_ -- ref.go:42 move
      refine Runs_p rfl (Valid.assignk (A := Is (.slice none 0 0)) rfl rfl) rfl rfl ?_ -- ref.go:42 assign
      refine Runs_p rfl (Valid.assignk (A := Is _) rfl rfl) rfl rfl ?_ -- ref.go:42 assign
      refine Runs_nil ?_
      refine thenQ_n ?_
      refine W_ret ?_
      refine thenQ_r ?_
      refine finQ_r ?_
      refine ResOk.two rfl (RVal.sl (Reads.nil rfl) rfl (by first | (rw [wdV, if_neg (by assumption)]; done) | (rw [wdV, if_neg (by assumption)]; rfl) | rfl | (rw [wdV, if_pos hok, show n = 20 by omega]; done) | (rw [wdV, if_pos hok, show n = 20 by omega]; rfl) | (rw [wdV, if_pos hok, wdS_len, Int.toNat_natCast]; done) | (rw [hok]; done)) (by first | (rw [wdV, if_neg (by assumption)]; done) | (rw [wdV, if_neg (by assumption)]; rfl) | rfl | (rw [wdV, if_pos hok, show n = 20 by omega]; done) | (rw [wdV, if_pos hok, show n = 20 by omega]; rfl) | (rw [wdV, if_pos hok, wdS_len, Int.toNat_natCast]; done) | (rw [hok]; done))) (RVal.is rfl rfl (by first | (rw [wdV, if_neg (by assumption)]; done) | (rw [wdV, if_neg (by assumption)]; rfl) | rfl | (rw [wdV, if_pos hok, show n = 20 by omega]; done) | (rw [wdV, if_pos hok, show n = 20 by omega]; rfl) | (rw [wdV, if_pos hok, wdS_len, Int.toNat_natCast]; done) | (rw [hok]; done)))
      done)
  · try simp only [decide_eq_false_iff_not, ne_eq] at hb1
    all_goals (
      refine W_skip ?_
      refine thenQ_n ?_
      refine W_seq ?_
      have hok : (sndV l).2 = 0 := by first | assumption | omega
      obtain ⟨hs1, hs2⟩ := snd_bd hok
      refine W_regionE (c := 8) (c' := 12) (by kernel_rfl) rfl ?_
      refine Runs_p rfl (Valid.movek (A := Sl 1 _ _) rfl rfl) rfl rfl ?_ -- ref.go:44 move
      refine Runs_p rfl (Valid.len rfl Try.underlying22 (Reads.sl rfl)) rfl rfl ?_ -- ref.go:44 call
      refine Runs_w rfl (Valid.makeE (fun p : Int × Int => [Value.int .i64 p.1, Value.int .u64 p.2]) (0, 0) rfl Try.underlying27 tzE34 rfl rfl rfl rfl (by first | omega | (simp only [Int.toNat_natCast, toNat_add, toNat_add1, List.length_append, List.length_cons, List.length_nil, List.length_replicate]; omega)) (by first | omega | (simp only [Int.toNat_natCast, toNat_add, toNat_add1, List.length_append, List.length_cons, List.length_nil, List.length_replicate]; omega)) (by first | omega | (simp only [Int.toNat_natCast, toNat_add, toNat_add1, List.length_append, List.length_cons, List.length_nil, List.length_replicate]; omega))) rfl rfl ?_ -- ref.go:44 makeSlice
      refine Runs_p rfl (Valid.assignk (A := Mrow 80 _) rfl rfl) rfl rfl ?_ -- ref.go:44 assign
      refine Runs_nil ?_
      refine thenQ_n ?_
      refine W_seq ?_
      refine W_regionE (c := 12) (c' := 13) (by kernel_rfl) rfl ?_
      refine Runs_p rfl (Valid.assignk (A := Is _) rfl rfl) rfl rfl ?_ -- ref.go:45 assign
      refine Runs_nil ?_
      refine thenQ_n ?_
      refine W_seq ?_
      refine W_regionE (c := 13) (c' := 14) (by kernel_rfl) rfl ?_
      refine Runs_p rfl (Valid.assignk (A := Is _) rfl rfl) rfl rfl ?_ -- ref.go:46 assign
      refine Runs_nil ?_
      refine thenQ_n ?_
      refine W_seq ?_
      refine W_seq ?_
      refine W_regionE (c := 14) (c' := 15) (by kernel_rfl) rfl ?_
      refine Runs_p rfl (Valid.assignk (A := Is _) rfl rfl) rfl rfl ?_ -- ref.go:47 assign
      refine Runs_nil ?_
      refine thenQ_n ?_
      refine W_block ?_
      refine W_loopx (G := Nat) (fun (n : Nat) => n ≤ 20) [(0, Sl 1 _ _), (5, Mrow 80 _)] (fun (n : Nat) => [(8, Is (.int .i64 ((n : Int) + 1))), (7, Is (.int .i64 (rou l n).1)), (6, Is (.int .u64 (rou l n).2))]) [] (fun (n : Nat) => [(80, .arr 34 (((wdS l n).1).flatMap (fun p : Int × Int => [Value.int .i64 p.1, Value.int .u64 p.2])))]) 15 (fun (n : Nat) => 20 - n) (0) [] (by first | trivial | omega | (simp; omega)) ⟨⟨(leq_is rfl rfl (by first | rfl | (simp; done))), (leq_is rfl rfl (by first | rfl | (simp; done))), (leq_is rfl rfl (by first | rfl | (simp; done))), trivial⟩, ⟨(leq_sl (Reads.sl rfl) rfl rfl rfl), (leq_mrow rfl rfl rfl rfl), trivial⟩, ⟨hp_arrE rfl (by first | rfl | (simp; done)), trivial⟩, trivial, rfl, ⟨supg rfl, supg rfl, supg rfl, trivial⟩, ⟨supg rfl, supg rfl, trivial⟩, ⟨suph rfl rfl, trivial⟩, trivial, rfl, rfl⟩ ?_
      intro n hI1
      refine W_seq ?_
      refine W_seq ?_
      refine W_regionE (c := 15) (c' := 17) (by kernel_rfl) rfl ?_
      refine Runs_p rfl (Valid.movek (A := Is _) rfl rfl) rfl rfl ?_ -- ref.go:47 move
      refine Runs_p rfl (Valid.leq rfl rfl rfl) rfl rfl ?_ -- ref.go:47 binOp
      refine Runs_nil ?_
      refine thenQ_n ?_
      refine W_cond _ rfl (fun hb2 => ?_) (fun hb2 => ?_)
      · try simp only [decide_eq_true_eq] at hb2
        all_goals (
          refine W_skip ?_
          refine thenQ_n ?_
          refine W_seq ?_
          refine W_block ?_
          refine W_seq ?_
          refine W_regionE (c := 17) (c' := 18) (by kernel_rfl) rfl ?_
          refine Runs_p rfl (Valid.assignk (A := Is _) rfl rfl) rfl rfl ?_ -- ref.go:48 assign
          refine Runs_nil ?_
          refine thenQ_n ?_
          refine W_block ?_
          refine W_loopx (G := Nat) (fun (i : Nat) => i ≤ l.length) [(0, Sl 1 _ _), (5, Mrow 80 _), (8, Is _)] (fun (i : Nat) => [(9, Is (.int .i64 (i : Int))), (7, Is (.int .i64 (rin l n i).1)), (6, Is (.int .u64 (rin l n i).2))]) [] (fun (i : Nat) => [(80, .arr 34 ((rW l n i).flatMap (fun p : Int × Int => [Value.int .i64 p.1, Value.int .u64 p.2])))]) 18 (fun (i : Nat) => l.length - i) (0) [] (by first | trivial | omega | (simp; omega)) ⟨⟨(leq_is rfl rfl (by first | rfl)), (leq_is rfl rfl (by first | rfl)), (leq_is rfl rfl (by first | rfl)), trivial⟩, ⟨(leq_sl (Reads.sl rfl) rfl rfl rfl), (leq_mrow rfl rfl rfl rfl), (leq_is rfl rfl rfl), trivial⟩, ⟨hp_arrE rfl (by first | rfl), trivial⟩, trivial, rfl, ⟨supg rfl, supg rfl, supg rfl, trivial⟩, ⟨supg rfl, supg rfl, supg rfl, trivial⟩, ⟨suph rfl rfl, trivial⟩, trivial, rfl, rfl⟩ ?_
          intro i hI2
          have hri := rin_inv hs1 (n := n) (i := i) (by omega) (by omega)
          have hrv := rV_bd hs1 (n := n) (i := i) (by omega) (by omega)
          have hwl := rW_len l n i
          refine W_seq ?_
          refine W_seq ?_
          refine W_regionE (c := 18) (c' := 22) (by kernel_rfl) rfl ?_
          refine Runs_p rfl (Valid.movek (A := Is _) rfl rfl) rfl rfl ?_ -- ref.go:48 move
          refine Runs_p rfl (Valid.movek (A := Sl 1 _ _) rfl rfl) rfl rfl ?_ -- ref.go:48 move
          refine Runs_p rfl (Valid.len rfl Try.underlying22 (Reads.sl rfl)) rfl rfl ?_ -- ref.go:48 call
          refine Runs_p rfl (Valid.lss rfl rfl rfl) rfl rfl ?_ -- ref.go:48 binOp
          refine Runs_nil ?_
          refine thenQ_n ?_
          refine W_cond _ rfl (fun hb3 => ?_) (fun hb3 => ?_)
          · try simp only [decide_eq_true_eq] at hb3
            all_goals (
              refine W_skip ?_
              refine thenQ_n ?_
              refine W_seq ?_
              refine W_block ?_
              refine W_seq ?_
              refine W_seq ?_
              refine W_regionE (c := 22) (c' := 28) (by kernel_rfl) rfl ?_
              refine Runs_p rfl (Valid.movek (A := Sl 1 _ _) rfl rfl) rfl rfl ?_ -- ref.go:49 move
              refine Runs_p rfl (Valid.movek (A := Is _) rfl rfl) rfl rfl ?_ -- ref.go:49 move
              refine Runs_p rfl (Valid.eltaddr1 0 rfl Try.underlying22 sz3 (Reads.sl rfl) rfl (by first | omega | (simp only [Int.toNat_natCast, toNat_add, toNat_add1, List.length_append, List.length_cons, List.length_nil, List.length_replicate]; omega)) (by first | rfl | simp)) rfl rfl ?_ -- ref.go:49 indexAddr
              refine Runs_p rfl (Valid.loadelt rfl ag3 rfl) rfl rfl ?_ -- ref.go:49 load
              refine Runs_p rfl (Valid.movek (A := Is _) rfl rfl) rfl rfl ?_ -- ref.go:49 move
              refine Runs_p rfl (Valid.neq rfl rfl rfl) rfl rfl ?_ -- ref.go:49 binOp
              refine Runs_nil ?_
              refine thenQ_n ?_
              refine W_cond _ rfl (fun hb4 => ?_) (fun hb4 => ?_)
              · try simp only [Int.toNat_natCast, decide_eq_true_eq, ne_eq] at hb4
                all_goals (
                  refine W_exit ?_
                  refine thenQ_e ?_
                  refine blockQ_x ?_
                  refine thenQ_n ?_
                  refine W_regionE (c := 28) (c' := 31) (by kernel_rfl) rfl ?_
                  refine Runs_p rfl (Valid.movek (A := Is _) rfl rfl) rfl rfl ?_ -- ref.go:48 move
                  refine Runs_p rfl (Valid.add rfl rfl rfl (room64 (by first | omega | (simp only [Int.toNat_natCast, toNat_add, toNat_add1, List.length_append, List.length_cons, List.length_nil, List.length_replicate]; omega)) (by first | omega | (simp only [Int.toNat_natCast, toNat_add, toNat_add1, List.length_append, List.length_cons, List.length_nil, List.length_replicate]; omega)))) rfl rfl ?_ -- ref.go:48 binOp
                  refine Runs_p rfl (Valid.assignk (A := Is _) rfl rfl) rfl rfl ?_ -- ref.go:48 assign
                  refine Runs_nil ?_
                  refine LoopQ.next (i + 1) [] (by omega) (by omega) ⟨⟨(leq_is rfl rfl (by first | rfl | exact congrArg (List.flatMap _) (rW_n (by assumption)).symm | exact congrArg (fun p : Int × Int => Value.int .i64 p.1) (rin_n (by assumption)).symm | exact congrArg (fun p : Int × Int => Value.int .u64 p.2) (rin_n (by assumption)).symm | exact congrArg (fun p : Int × Int => Value.int .i64 p.1) (rin_y (by assumption)).symm | exact (congrArg (Value.int .u64) hxv).trans (congrArg (fun p : Int × Int => Value.int .u64 p.2) (rin_y (by assumption)).symm) | exact congrArg (List.flatMap _) (rW_y (by assumption) hxv))), (leq_is rfl rfl (by first | rfl | exact congrArg (List.flatMap _) (rW_n (by assumption)).symm | exact congrArg (fun p : Int × Int => Value.int .i64 p.1) (rin_n (by assumption)).symm | exact congrArg (fun p : Int × Int => Value.int .u64 p.2) (rin_n (by assumption)).symm | exact congrArg (fun p : Int × Int => Value.int .i64 p.1) (rin_y (by assumption)).symm | exact (congrArg (Value.int .u64) hxv).trans (congrArg (fun p : Int × Int => Value.int .u64 p.2) (rin_y (by assumption)).symm) | exact congrArg (List.flatMap _) (rW_y (by assumption) hxv))), (leq_is rfl rfl (by first | rfl | exact congrArg (List.flatMap _) (rW_n (by assumption)).symm | exact congrArg (fun p : Int × Int => Value.int .i64 p.1) (rin_n (by assumption)).symm | exact congrArg (fun p : Int × Int => Value.int .u64 p.2) (rin_n (by assumption)).symm | exact congrArg (fun p : Int × Int => Value.int .i64 p.1) (rin_y (by assumption)).symm | exact (congrArg (Value.int .u64) hxv).trans (congrArg (fun p : Int × Int => Value.int .u64 p.2) (rin_y (by assumption)).symm) | exact congrArg (List.flatMap _) (rW_y (by assumption) hxv))), trivial⟩, ⟨(leq_sl (Reads.sl rfl) rfl rfl rfl), (leq_mrow rfl rfl rfl rfl), (leq_is rfl rfl rfl), trivial⟩, ⟨hp_arrE rfl (by first | rfl | exact congrArg (List.flatMap _) (rW_n (by assumption)).symm | exact congrArg (fun p : Int × Int => Value.int .i64 p.1) (rin_n (by assumption)).symm | exact congrArg (fun p : Int × Int => Value.int .u64 p.2) (rin_n (by assumption)).symm | exact congrArg (fun p : Int × Int => Value.int .i64 p.1) (rin_y (by assumption)).symm | exact (congrArg (Value.int .u64) hxv).trans (congrArg (fun p : Int × Int => Value.int .u64 p.2) (rin_y (by assumption)).symm) | exact congrArg (List.flatMap _) (rW_y (by assumption) hxv)), trivial⟩, trivial, rfl, ⟨supg rfl, supg rfl, supg rfl, trivial⟩, ⟨supg rfl, supg rfl, supg rfl, trivial⟩, ⟨suph rfl rfl, trivial⟩, trivial, rfl, rfl⟩
                  done)
              · try simp only [Int.toNat_natCast, decide_eq_false_iff_not, ne_eq] at hb4
                all_goals (
                  refine W_skip ?_
                  refine thenQ_n ?_
                  refine W_seq ?_
                  refine W_seq ?_
                  have hy : l.getD i 0 = (n : Int) + 1 := by omega
                  refine W_regionE (c := 28) (c' := 30) (by kernel_rfl) rfl ?_
                  refine Runs_p rfl (Valid.movek (A := Is _) rfl rfl) rfl rfl ?_ -- ref.go:52 move
                  refine Runs_p rfl (Valid.gtr rfl rfl rfl) rfl rfl ?_ -- ref.go:52 binOp
                  refine Runs_nil ?_
                  refine thenQ_n ?_
                  refine W_cond _ rfl (fun hb5 => ?_) (fun hb5 => ?_)
                  · try simp only [decide_eq_true_eq] at hb5
                    all_goals (
                      refine W_seq ?_
                      refine W_regionE (c := 30) (c' := 33) (by kernel_rfl) rfl ?_
                      refine Runs_p rfl (Valid.movek (A := Is _) rfl rfl) rfl rfl ?_ -- ref.go:53 move
                      refine Runs_p rfl (Valid.addw rfl rfl rfl) rfl rfl ?_ -- ref.go:53 binOp
                      refine Runs_p rfl (Valid.assignk (A := Is _) rfl rfl) rfl rfl ?_ -- ref.go:53 assign
                      refine Runs_nil ?_
                      refine thenQ_n ?_
                      refine W_seq ?_
                      refine W_regionE (c := 33) (c' := 35) (by kernel_rfl) rfl ?_
                      refine Runs_p rfl (Valid.movek (A := Is _) rfl rfl) rfl rfl ?_ -- ref.go:54 move
                      refine Runs_p rfl (Valid.assignk (A := Is _) rfl rfl) rfl rfl ?_ -- ref.go:54 assign
                      refine Runs_nil ?_
                      refine thenQ_n ?_
                      refine W_block ?_
                      refine W_loopx (G := Nat) (fun (j : Nat) => (rin l n i).1 + (j : Int) ≤ (n : Int) + 1) [(0, Sl 1 _ _), (5, Mrow 80 _), (8, Is _), (9, Is _)] (fun (j : Nat) => [(10, Is (.int .i64 ((rin l n i).1 + (j : Int)))), (6, Is (.int .u64 (((rin l n i).2 + 1) * 2 ^ j)))]) [(80, .arr 34 _)] (fun (j : Nat) => []) 35 (fun (j : Nat) => ((n : Int) + 1 - (rin l n i).1).toNat - j) (0) [] (by first | trivial | omega | (simp; omega)) ⟨⟨(leq_is rfl rfl (by first | rfl | (refine congrArg (Value.int .i64) ?_; omega) | (refine congrArg (Value.int .u64) ?_; rw [Int.pow_zero, Int.mul_one, IntKind.wrap_u64, Int.emod_eq_of_lt (by omega) (by omega)]))), (leq_is rfl rfl (by first | rfl | (refine congrArg (Value.int .i64) ?_; omega) | (refine congrArg (Value.int .u64) ?_; rw [Int.pow_zero, Int.mul_one, IntKind.wrap_u64, Int.emod_eq_of_lt (by omega) (by omega)]))), trivial⟩, ⟨(leq_sl (Reads.sl rfl) rfl rfl rfl), (leq_mrow rfl rfl rfl rfl), (leq_is rfl rfl rfl), (leq_is rfl rfl rfl), trivial⟩, trivial, ⟨hp_arrE rfl rfl, trivial⟩, rfl, ⟨supg rfl, supg rfl, trivial⟩, ⟨supg rfl, supg rfl, supg rfl, supg rfl, trivial⟩, trivial, ⟨suph rfl rfl, trivial⟩, rfl, rfl⟩ ?_
                      intro j hI3
                      have hrj : 0 ≤ ((rin l n i).2 + 1) * 2 ^ j ∧ ((rin l n i).2 + 1) * 2 ^ j ≤ 600000000 := by rcases hri with h | h; (· omega); (· exact ⟨(h.2.2.2.2 j hI3).1, (h.2.2.2.2 j hI3).2.1⟩)
                      refine W_seq ?_
                      refine W_seq ?_
                      refine W_regionE (c := 35) (c' := 38) (by kernel_rfl) rfl ?_
                      refine Runs_p rfl (Valid.movek (A := Is _) rfl rfl) rfl rfl ?_ -- ref.go:54 move
                      refine Runs_p rfl (Valid.movek (A := Is _) rfl rfl) rfl rfl ?_ -- ref.go:54 move
                      refine Runs_p rfl (Valid.lss rfl rfl rfl) rfl rfl ?_ -- ref.go:54 binOp
                      refine Runs_nil ?_
                      refine thenQ_n ?_
                      refine W_cond _ rfl (fun hb6 => ?_) (fun hb6 => ?_)
                      · try simp only [decide_eq_true_eq] at hb6
                        all_goals (
                          refine W_skip ?_
                          refine thenQ_n ?_
                          refine W_seq ?_
                          refine W_block ?_
                          refine W_regionE (c := 38) (c' := 41) (by kernel_rfl) rfl ?_
                          refine Runs_p rfl (Valid.movek (A := Is _) rfl rfl) rfl rfl ?_ -- ref.go:55 move
                          refine Runs_p rfl (Valid.mulw rfl rfl rfl) rfl rfl ?_ -- ref.go:55 binOp
                          refine Runs_p rfl (Valid.assignk (A := Is _) rfl rfl) rfl rfl ?_ -- ref.go:55 assign
                          refine Runs_nil ?_
                          refine blockQ_n ?_
                          refine thenQ_n ?_
                          refine W_regionE (c := 41) (c' := 44) (by kernel_rfl) rfl ?_
                          refine Runs_p rfl (Valid.movek (A := Is _) rfl rfl) rfl rfl ?_ -- ref.go:54 move
                          refine Runs_p rfl (Valid.add rfl rfl rfl (room64 (by first | omega | (simp only [Int.toNat_natCast, toNat_add, toNat_add1, List.length_append, List.length_cons, List.length_nil, List.length_replicate]; omega)) (by first | omega | (simp only [Int.toNat_natCast, toNat_add, toNat_add1, List.length_append, List.length_cons, List.length_nil, List.length_replicate]; omega)))) rfl rfl ?_ -- ref.go:54 binOp
                          refine Runs_p rfl (Valid.assignk (A := Is _) rfl rfl) rfl rfl ?_ -- ref.go:54 assign
                          refine Runs_nil ?_
                          refine LoopQ.next (j + 1) [] (by omega) (by omega) ⟨⟨(leq_is rfl rfl (by first | (refine congrArg (Value.int .i64) ?_; omega) | (refine congrArg (Value.int .u64) ?_; rw [Int.pow_succ, ← Int.mul_assoc _ (2 ^ j) 2]; exact dbl hrj))), (leq_is rfl rfl (by first | (refine congrArg (Value.int .i64) ?_; omega) | (refine congrArg (Value.int .u64) ?_; rw [Int.pow_succ, ← Int.mul_assoc _ (2 ^ j) 2]; exact dbl hrj))), trivial⟩, ⟨(leq_sl (Reads.sl rfl) rfl rfl rfl), (leq_mrow rfl rfl rfl rfl), (leq_is rfl rfl rfl), (leq_is rfl rfl rfl), trivial⟩, trivial, ⟨hp_arrE rfl rfl, trivial⟩, rfl, ⟨supg rfl, supg rfl, trivial⟩, ⟨supg rfl, supg rfl, supg rfl, supg rfl, trivial⟩, trivial, ⟨suph rfl rfl, trivial⟩, rfl, rfl⟩
                          done)
                      · try simp only [decide_eq_false_iff_not] at hb6
                        all_goals (
                          refine W_exit ?_
                          refine thenQ_e ?_
                          refine loopQ_e ?_
                          refine blockQ_x ?_
                          refine thenQ_n ?_
                          refine W_seq ?_
                          first | (have hxv : ((rin l n i).2 + 1) * 2 ^ j = rV l n i := by rcases hri with h | h; (· omega); (· exact (h.2.2.2.2 j hI3).2.2 (by omega))) | (have hxv : (rin l n i).2 = rV l n i := by omega)
                          refine W_regionE (c := 38) (c' := 45) (by kernel_rfl) rfl ?_
                          refine Runs_p rfl (Valid.movek (A := Mrow 80 _) rfl rfl) rfl rfl ?_ -- ref.go:58 move
                          refine Runs_p rfl (Valid.movek (A := Is _) rfl rfl) rfl rfl ?_ -- ref.go:58 move
                          refine Runs_p rfl (Valid.movek (A := Is _) rfl rfl) rfl rfl ?_ -- ref.go:58 move
                          refine Runs_p rfl (Valid.movek (A := Is _) rfl rfl) rfl rfl ?_ -- ref.go:58 move
                          refine Runs_p rfl (Valid.struct [_, _] rfl rfl (fun _ => by kernel_rfl)) rfl rfl ?_ -- ref.go:58 build
                          refine Runs_p rfl (Valid.idxM rfl Try.underlying27 sz34 rfl rfl (by first | omega | (simp only [Int.toNat_natCast, toNat_add, toNat_add1, List.length_append, List.length_cons, List.length_nil, List.length_replicate]; omega))) rfl rfl ?_ -- ref.go:58 indexAddr
                          refine Runs_op rfl (Valid.storeE (f := (fun p : Int × Int => [Value.int .i64 p.1, Value.int .u64 p.2])) (e := 2) _ (_, _) rfl (fun _ => rfl) sz34 rfl rfl rfl (by first | omega | (simp only [Int.toNat_natCast, toNat_add, toNat_add1, List.length_append, List.length_cons, List.length_nil, List.length_replicate]; omega)) rfl rfl) rfl ?_ -- ref.go:58 store
                          refine Runs_nil ?_
                          refine thenQ_n ?_
                          refine W_regionE (c := 45) (c' := 47) (by kernel_rfl) rfl ?_
                          refine Runs_p rfl (Valid.movek (A := Is _) rfl rfl) rfl rfl ?_ -- ref.go:59 move
                          refine Runs_p rfl (Valid.assignk (A := Is _) rfl rfl) rfl rfl ?_ -- ref.go:59 assign
                          refine Runs_nil ?_
                          refine blockQ_n ?_
                          refine thenQ_n ?_
                          refine W_regionE (c := 47) (c' := 50) (by kernel_rfl) rfl ?_
                          refine Runs_p rfl (Valid.movek (A := Is _) rfl rfl) rfl rfl ?_ -- ref.go:48 move
                          refine Runs_p rfl (Valid.add rfl rfl rfl (room64 (by first | omega | (simp only [Int.toNat_natCast, toNat_add, toNat_add1, List.length_append, List.length_cons, List.length_nil, List.length_replicate]; omega)) (by first | omega | (simp only [Int.toNat_natCast, toNat_add, toNat_add1, List.length_append, List.length_cons, List.length_nil, List.length_replicate]; omega)))) rfl rfl ?_ -- ref.go:48 binOp
                          refine Runs_p rfl (Valid.assignk (A := Is _) rfl rfl) rfl rfl ?_ -- ref.go:48 assign
                          refine Runs_nil ?_
                          refine LoopQ.next (i + 1) [] (by omega) (by omega) ⟨⟨(leq_is rfl rfl (by first | rfl | exact congrArg (List.flatMap _) (rW_n (by assumption)).symm | exact congrArg (fun p : Int × Int => Value.int .i64 p.1) (rin_n (by assumption)).symm | exact congrArg (fun p : Int × Int => Value.int .u64 p.2) (rin_n (by assumption)).symm | exact congrArg (fun p : Int × Int => Value.int .i64 p.1) (rin_y (by assumption)).symm | exact (congrArg (Value.int .u64) hxv).trans (congrArg (fun p : Int × Int => Value.int .u64 p.2) (rin_y (by assumption)).symm) | exact congrArg (List.flatMap _) (rW_y (by assumption) hxv))), (leq_is rfl rfl (by first | rfl | exact congrArg (List.flatMap _) (rW_n (by assumption)).symm | exact congrArg (fun p : Int × Int => Value.int .i64 p.1) (rin_n (by assumption)).symm | exact congrArg (fun p : Int × Int => Value.int .u64 p.2) (rin_n (by assumption)).symm | exact congrArg (fun p : Int × Int => Value.int .i64 p.1) (rin_y (by assumption)).symm | exact (congrArg (Value.int .u64) hxv).trans (congrArg (fun p : Int × Int => Value.int .u64 p.2) (rin_y (by assumption)).symm) | exact congrArg (List.flatMap _) (rW_y (by assumption) hxv))), (leq_is rfl rfl (by first | rfl | exact congrArg (List.flatMap _) (rW_n (by assumption)).symm | exact congrArg (fun p : Int × Int => Value.int .i64 p.1) (rin_n (by assumption)).symm | exact congrArg (fun p : Int × Int => Value.int .u64 p.2) (rin_n (by assumption)).symm | exact congrArg (fun p : Int × Int => Value.int .i64 p.1) (rin_y (by assumption)).symm | exact (congrArg (Value.int .u64) hxv).trans (congrArg (fun p : Int × Int => Value.int .u64 p.2) (rin_y (by assumption)).symm) | exact congrArg (List.flatMap _) (rW_y (by assumption) hxv))), trivial⟩, ⟨(leq_sl (Reads.sl rfl) rfl rfl rfl), (leq_mrow rfl rfl rfl rfl), (leq_is rfl rfl rfl), trivial⟩, ⟨hp_arrE rfl (by first | rfl | exact congrArg (List.flatMap _) (rW_n (by assumption)).symm | exact congrArg (fun p : Int × Int => Value.int .i64 p.1) (rin_n (by assumption)).symm | exact congrArg (fun p : Int × Int => Value.int .u64 p.2) (rin_n (by assumption)).symm | exact congrArg (fun p : Int × Int => Value.int .i64 p.1) (rin_y (by assumption)).symm | exact (congrArg (Value.int .u64) hxv).trans (congrArg (fun p : Int × Int => Value.int .u64 p.2) (rin_y (by assumption)).symm) | exact congrArg (List.flatMap _) (rW_y (by assumption) hxv)), trivial⟩, trivial, rfl, ⟨supg rfl, supg rfl, supg rfl, trivial⟩, ⟨supg rfl, supg rfl, supg rfl, trivial⟩, ⟨suph rfl rfl, trivial⟩, trivial, rfl, rfl⟩
                          done)
                      done)
                  · try simp only [decide_eq_false_iff_not] at hb5
                    all_goals (
                      refine W_skip ?_
                      refine thenQ_n ?_
                      refine W_seq ?_
                      first | (have hxv : ((rin l n i).2 + 1) * 2 ^ j = rV l n i := by rcases hri with h | h; (· omega); (· exact (h.2.2.2.2 j hI3).2.2 (by omega))) | (have hxv : (rin l n i).2 = rV l n i := by omega)
                      refine W_regionE (c := 30) (c' := 37) (by kernel_rfl) rfl ?_
                      refine Runs_p rfl (Valid.movek (A := Mrow 80 _) rfl rfl) rfl rfl ?_ -- ref.go:58 move
                      refine Runs_p rfl (Valid.movek (A := Is _) rfl rfl) rfl rfl ?_ -- ref.go:58 move
                      refine Runs_p rfl (Valid.movek (A := Is _) rfl rfl) rfl rfl ?_ -- ref.go:58 move
                      refine Runs_p rfl (Valid.movek (A := Is _) rfl rfl) rfl rfl ?_ -- ref.go:58 move
                      refine Runs_p rfl (Valid.struct [_, _] rfl rfl (fun _ => by kernel_rfl)) rfl rfl ?_ -- ref.go:58 build
                      refine Runs_p rfl (Valid.idxM rfl Try.underlying27 sz34 rfl rfl (by first | omega | (simp only [Int.toNat_natCast, toNat_add, toNat_add1, List.length_append, List.length_cons, List.length_nil, List.length_replicate]; omega))) rfl rfl ?_ -- ref.go:58 indexAddr
                      refine Runs_op rfl (Valid.storeE (f := (fun p : Int × Int => [Value.int .i64 p.1, Value.int .u64 p.2])) (e := 2) _ (_, _) rfl (fun _ => rfl) sz34 rfl rfl rfl (by first | omega | (simp only [Int.toNat_natCast, toNat_add, toNat_add1, List.length_append, List.length_cons, List.length_nil, List.length_replicate]; omega)) rfl rfl) rfl ?_ -- ref.go:58 store
                      refine Runs_nil ?_
                      refine thenQ_n ?_
                      refine W_regionE (c := 37) (c' := 39) (by kernel_rfl) rfl ?_
                      refine Runs_p rfl (Valid.movek (A := Is _) rfl rfl) rfl rfl ?_ -- ref.go:59 move
                      refine Runs_p rfl (Valid.assignk (A := Is _) rfl rfl) rfl rfl ?_ -- ref.go:59 assign
                      refine Runs_nil ?_
                      refine blockQ_n ?_
                      refine thenQ_n ?_
                      refine W_regionE (c := 39) (c' := 42) (by kernel_rfl) rfl ?_
                      refine Runs_p rfl (Valid.movek (A := Is _) rfl rfl) rfl rfl ?_ -- ref.go:48 move
                      refine Runs_p rfl (Valid.add rfl rfl rfl (room64 (by first | omega | (simp only [Int.toNat_natCast, toNat_add, toNat_add1, List.length_append, List.length_cons, List.length_nil, List.length_replicate]; omega)) (by first | omega | (simp only [Int.toNat_natCast, toNat_add, toNat_add1, List.length_append, List.length_cons, List.length_nil, List.length_replicate]; omega)))) rfl rfl ?_ -- ref.go:48 binOp
                      refine Runs_p rfl (Valid.assignk (A := Is _) rfl rfl) rfl rfl ?_ -- ref.go:48 assign
                      refine Runs_nil ?_
                      refine LoopQ.next (i + 1) [] (by omega) (by omega) ⟨⟨(leq_is rfl rfl (by first | rfl | exact congrArg (List.flatMap _) (rW_n (by assumption)).symm | exact congrArg (fun p : Int × Int => Value.int .i64 p.1) (rin_n (by assumption)).symm | exact congrArg (fun p : Int × Int => Value.int .u64 p.2) (rin_n (by assumption)).symm | exact congrArg (fun p : Int × Int => Value.int .i64 p.1) (rin_y (by assumption)).symm | exact (congrArg (Value.int .u64) hxv).trans (congrArg (fun p : Int × Int => Value.int .u64 p.2) (rin_y (by assumption)).symm) | exact congrArg (List.flatMap _) (rW_y (by assumption) hxv))), (leq_is rfl rfl (by first | rfl | exact congrArg (List.flatMap _) (rW_n (by assumption)).symm | exact congrArg (fun p : Int × Int => Value.int .i64 p.1) (rin_n (by assumption)).symm | exact congrArg (fun p : Int × Int => Value.int .u64 p.2) (rin_n (by assumption)).symm | exact congrArg (fun p : Int × Int => Value.int .i64 p.1) (rin_y (by assumption)).symm | exact (congrArg (Value.int .u64) hxv).trans (congrArg (fun p : Int × Int => Value.int .u64 p.2) (rin_y (by assumption)).symm) | exact congrArg (List.flatMap _) (rW_y (by assumption) hxv))), (leq_is rfl rfl (by first | rfl | exact congrArg (List.flatMap _) (rW_n (by assumption)).symm | exact congrArg (fun p : Int × Int => Value.int .i64 p.1) (rin_n (by assumption)).symm | exact congrArg (fun p : Int × Int => Value.int .u64 p.2) (rin_n (by assumption)).symm | exact congrArg (fun p : Int × Int => Value.int .i64 p.1) (rin_y (by assumption)).symm | exact (congrArg (Value.int .u64) hxv).trans (congrArg (fun p : Int × Int => Value.int .u64 p.2) (rin_y (by assumption)).symm) | exact congrArg (List.flatMap _) (rW_y (by assumption) hxv))), trivial⟩, ⟨(leq_sl (Reads.sl rfl) rfl rfl rfl), (leq_mrow rfl rfl rfl rfl), (leq_is rfl rfl rfl), trivial⟩, ⟨hp_arrE rfl (by first | rfl | exact congrArg (List.flatMap _) (rW_n (by assumption)).symm | exact congrArg (fun p : Int × Int => Value.int .i64 p.1) (rin_n (by assumption)).symm | exact congrArg (fun p : Int × Int => Value.int .u64 p.2) (rin_n (by assumption)).symm | exact congrArg (fun p : Int × Int => Value.int .i64 p.1) (rin_y (by assumption)).symm | exact (congrArg (Value.int .u64) hxv).trans (congrArg (fun p : Int × Int => Value.int .u64 p.2) (rin_y (by assumption)).symm) | exact congrArg (List.flatMap _) (rW_y (by assumption) hxv)), trivial⟩, trivial, rfl, ⟨supg rfl, supg rfl, supg rfl, trivial⟩, ⟨supg rfl, supg rfl, supg rfl, trivial⟩, ⟨suph rfl rfl, trivial⟩, trivial, rfl, rfl⟩
                      done)
                  done)
              done)
          · try simp only [decide_eq_false_iff_not] at hb3
            all_goals (
              refine W_exit ?_
              refine thenQ_e ?_
              refine loopQ_e ?_
              refine blockQ_x ?_
              refine blockQ_n ?_
              refine thenQ_n ?_
              refine W_regionE (c := 22) (c' := 25) (by kernel_rfl) rfl ?_
              refine Runs_p rfl (Valid.movek (A := Is _) rfl rfl) rfl rfl ?_ -- ref.go:47 move
              refine Runs_p rfl (Valid.add rfl rfl rfl (room64 (by first | omega | (simp only [Int.toNat_natCast, toNat_add, toNat_add1, List.length_append, List.length_cons, List.length_nil, List.length_replicate]; omega)) (by first | omega | (simp only [Int.toNat_natCast, toNat_add, toNat_add1, List.length_append, List.length_cons, List.length_nil, List.length_replicate]; omega)))) rfl rfl ?_ -- ref.go:47 binOp
              refine Runs_p rfl (Valid.assignk (A := Is _) rfl rfl) rfl rfl ?_ -- ref.go:47 assign
              refine Runs_nil ?_
              refine LoopQ.next (n + 1) [] (by omega) (by omega) ⟨⟨(leq_is rfl rfl (by first | rfl | exact congrArg (List.flatMap _) (rW_end l n _ (by omega)) | exact congrArg (fun p : Int × Int => Value.int .i64 p.1) (rin_end l n _ (by omega)) | exact congrArg (fun p : Int × Int => Value.int .u64 p.2) (rin_end l n _ (by omega)) | (refine congrArg (Value.int .i64) ?_; omega))), (leq_is rfl rfl (by first | rfl | exact congrArg (List.flatMap _) (rW_end l n _ (by omega)) | exact congrArg (fun p : Int × Int => Value.int .i64 p.1) (rin_end l n _ (by omega)) | exact congrArg (fun p : Int × Int => Value.int .u64 p.2) (rin_end l n _ (by omega)) | (refine congrArg (Value.int .i64) ?_; omega))), (leq_is rfl rfl (by first | rfl | exact congrArg (List.flatMap _) (rW_end l n _ (by omega)) | exact congrArg (fun p : Int × Int => Value.int .i64 p.1) (rin_end l n _ (by omega)) | exact congrArg (fun p : Int × Int => Value.int .u64 p.2) (rin_end l n _ (by omega)) | (refine congrArg (Value.int .i64) ?_; omega))), trivial⟩, ⟨(leq_sl (Reads.sl rfl) rfl rfl rfl), (leq_mrow rfl rfl rfl rfl), trivial⟩, ⟨hp_arrE rfl (by first | rfl | exact congrArg (List.flatMap _) (rW_end l n _ (by omega)) | exact congrArg (fun p : Int × Int => Value.int .i64 p.1) (rin_end l n _ (by omega)) | exact congrArg (fun p : Int × Int => Value.int .u64 p.2) (rin_end l n _ (by omega)) | (refine congrArg (Value.int .i64) ?_; omega)), trivial⟩, trivial, rfl, ⟨supg rfl, supg rfl, supg rfl, trivial⟩, ⟨supg rfl, supg rfl, trivial⟩, ⟨suph rfl rfl, trivial⟩, trivial, rfl, rfl⟩
              done)
          done)
      · try simp only [decide_eq_false_iff_not] at hb2
        all_goals (
          refine W_exit ?_
          refine thenQ_e ?_
          refine loopQ_e ?_
          refine blockQ_x ?_
          refine thenQ_n ?_
          refine W_seq ?_
          refine W_regionE (c := 17) (c' := 20) (by kernel_rfl) rfl ?_
          refine Runs_p rfl (Valid.movek (A := Mrow 80 _) rfl rfl) rfl rfl ?_ -- ref.go:62 move
          refine Runs_p rfl (Valid.assignk (A := Mrow 80 _) rfl rfl) rfl rfl ?_ -- ref.go:62 assign
          refine Runs_p rfl (Valid.assignk (A := Is _) rfl rfl) rfl rfl ?_ -- ref.go:62 assign
          refine Runs_nil ?_
          refine thenQ_n ?_
          refine W.ent ?_ (Ent.freezeE 2 80 _ 2 rfl rfl (by rw [flat_len (e := 2) (fun _ => rfl), wdS_len, Int.toNat_natCast]) (by simp only [maxLen]; omega))
          refine W_ret ?_
          refine finQ_r ?_
          refine ResOk.two rfl (RVal.sl (Reads.sl rfl) rfl (by first | (rw [wdV, if_neg (by assumption)]; done) | (rw [wdV, if_neg (by assumption)]; rfl) | rfl | (rw [wdV, if_pos hok, show n = 20 by omega]; done) | (rw [wdV, if_pos hok, show n = 20 by omega]; rfl) | (rw [wdV, if_pos hok, wdS_len, Int.toNat_natCast]; done) | (rw [hok]; done)) (by first | (rw [wdV, if_neg (by assumption)]; done) | (rw [wdV, if_neg (by assumption)]; rfl) | rfl | (rw [wdV, if_pos hok, show n = 20 by omega]; done) | (rw [wdV, if_pos hok, show n = 20 by omega]; rfl) | (rw [wdV, if_pos hok, wdS_len, Int.toNat_natCast]; done) | (rw [hok]; done))) (RVal.is rfl rfl (by first | (rw [wdV, if_neg (by assumption)]; done) | (rw [wdV, if_neg (by assumption)]; rfl) | rfl | (rw [wdV, if_pos hok, show n = 20 by omega]; done) | (rw [wdV, if_pos hok, show n = 20 by omega]; rfl) | (rw [wdV, if_pos hok, wdS_len, Int.toNat_natCast]; done) | (rw [hok]; done)))
          done)
      done)
end Oj
end Go.Proofs.Ytnomocicogbdpaa
