/-
  WALKS of stage 2: the first place; one bit.
-/
import Derived.Test.YtabhnnighhglfaaRows
import Derived.Test.YtabhnnighhglfaaAby
import Derived.Test.YtabhnnighhglfaaBb
import Derived.Test.YtabhnnighhglfaaCm
import Derived.Test.YtabhnnighhglfaaCa
import Derived.Test.YtabhnnighhglfaaMa
import Derived.Test.YtabhnnighhglfaaMb
import Derived.Test.YtabhnnighhglfaaMc
import Derived.Test.YtabhnnighhglfaaMd
import Derived.Test.YtabhnnighhglfaaMe
namespace Go.Proofs.Ytabhnnighhglfaa
open Go.RowKit
namespace Mf
open Ab Bm Bt Bb Cm Ca Ma Mb Mc Md Me
theorem ag3 (w : World) : (isAgg 3).run Try.prog w = .ok false w := by kernel_rfl
theorem sz3 (w : World) : (sizeOf 3).run Try.prog w = .ok 1 w := by kernel_rfl
/-- the first one of the last j that is not less -/
def wnV (l : List Int) (f : Int) : Nat → Int
  | 0 => -1
  | j + 1 => if f ≤ l.getD (l.length - 1 - j) 0 then l.getD (l.length - 1 - j) 0 else wnV l f j
  termination_by j => j
theorem wn_0 (l : List Int) (f : Int) : wnV l f 0 = -1 := by rw [wnV]
theorem wn_y {l : List Int} {f : Int} {j : Nat} {i : Nat} (hi : i = l.length - 1 - j) (h : f ≤ l.getD i 0) : wnV l f (j + 1) = l.getD i 0 := by rw [wnV, ← hi, if_pos h]
theorem wn_n {l : List Int} {f : Int} {j : Nat} {i : Nat} (hi : i = l.length - 1 - j) (h : ¬ f ≤ l.getD i 0) : wnV l f (j + 1) = wnV l f j := by rw [wnV, ← hi, if_neg h]
theorem wn_is {l : List Int} {f : Int} : ∀ j, j ≤ l.length → (wnV l f j = -1 ∧ ∀ q, l.length - j ≤ q → q < l.length → l.getD q 0 < f) ∨ ∃ q, l.length - j ≤ q ∧ q < l.length ∧ wnV l f j = l.getD q 0 ∧ f ≤ l.getD q 0 ∧ ∀ p, l.length - j ≤ p → p < q → l.getD p 0 < f
  | 0, _ => .inl ⟨wn_0 _ _, fun q h1 h2 => by omega⟩
  | j + 1, hj => by
    have ih := wn_is (l := l) (f := f) j (by omega)
    by_cases h : f ≤ l.getD (l.length - 1 - j) 0
    · exact .inr ⟨l.length - 1 - j, by omega, by omega, wn_y rfl h, h, fun p h1 h2 => by omega⟩
    · rw [wn_n rfl h]
      rcases ih with ⟨h1, h2⟩ | ⟨q, h1, h2, h3, h4, h5⟩
      · refine .inl ⟨h1, fun q h3 h4 => ?_⟩
        by_cases e : q = l.length - 1 - j
        · subst e; omega
        · exact h2 q (by omega) h4
      · refine .inr ⟨q, by omega, h2, h3, h4, fun p h6 h7 => ?_⟩
        by_cases e : p = l.length - 1 - j
        · subst e; omega
        · exact h5 p (by omega) h7
theorem wn_find {s : ByteArray} {f m n : Int} {j : Nat} (hj : j = (plZ s 0 m n).length) : findV s f m n = wnV (plZ s 0 m n) f j := by
  subst hj
  rcases wn_is (l := plZ s 0 m n) (f := f) _ (Nat.le_refl _) with ⟨h1, h2⟩ | ⟨q, h1, h2, h3, h4, h5⟩
  · rw [h1, findV_no (fun q hq => h2 q (by omega) hq)]
  · rw [h3, findV_at h2 (fun p hp => h5 p (by omega) hp) h4]
theorem wn_bd {s : ByteArray} {f m n : Int} {j : Nat} (hj : j ≤ (plZ s 0 m n).length) : -1 ≤ wnV (plZ s 0 m n) f j ∧ wnV (plZ s 0 m n) f j ≤ 8 * s.size := by
  rcases wn_is (l := plZ s 0 m n) (f := f) j hj with ⟨h1, h2⟩ | ⟨q, h1, h2, h3, h4, h5⟩
  · rw [h1]; omega
  · rw [h3]
    have := plZ_0 h2; omega
theorem val_half {s : ByteArray} {a m : Int} {k : Nat} (h1 : 1 ≤ k) (h2 : k + 1 ≤ 64) (h : matV s a m ((k : Int) + 1) = true) : matV s a (m / 2) (k : Int) = true := by
  unfold matV at h ⊢
  rw [decide_eq_true (show 1 ≤ (k : Int) + 1 ∧ (k : Int) + 1 ≤ 64 by omega), Bool.true_and, Bool.and_eq_true, decide_eq_true_eq, decide_eq_true_eq] at h
  obtain ⟨h3, h4⟩ := h
  have hc : ∀ n : Int, 0 ≤ n → n ≤ 64 → 0 ≤ a → ¬ (decide (0 ≤ n) && decide (n ≤ 64) && decide (0 ≤ a)) = false := fun n g1 g2 g3 => by rw [decide_eq_true g1, decide_eq_true g2, decide_eq_true g3]; decide
  have ha : 0 ≤ a := Classical.byContradiction fun e => by
    unfold getV at h3
    rw [if_pos (by rw [decide_eq_false e]; simp)] at h3
    exact absurd h3 (by decide)
  have hin : a + ((k : Int) + 1) ≤ 8 * s.size := Classical.byContradiction fun e => by
    unfold getV at h3
    rw [if_neg (hc _ (by omega) (by omega) ha), if_neg e] at h3
    exact absurd h3 (by decide)
  have g1 : getV s a ((k : Int) + 1) = (((val (bitsAt s.data.toList a.toNat (k + 1)) : Nat) : Int), 0) := by
    rw [getV, if_neg (hc _ (by omega) (by omega) ha), if_pos hin]; rfl
  have g2 : getV s a (k : Int) = (((val (bitsAt s.data.toList a.toNat k) : Nat) : Int), 0) := by
    rw [getV, if_neg (hc _ (by omega) (by omega) ha), if_pos (by omega)]; rfl
  rw [g1] at h4
  rw [g2, decide_eq_true (show 1 ≤ (k : Int) ∧ (k : Int) ≤ 64 by omega), Bool.true_and]
  have e1 : val (bitsAt s.data.toList a.toNat (k + 1)) = 2 * val (bitsAt s.data.toList a.toNat k) + (Bm.bit s.data.toList (a.toNat + k)).toNat := by
    rw [bitsAt_split, val_append]
    simp [bitsAt, val]; omega
  have e2 := Bool.toNat_le (Bm.bit s.data.toList (a.toNat + k))
  rw [e1, show ((k : Int) + 1).toNat = k + 1 by omega] at h4
  have h4 : ((2 * val (bitsAt s.data.toList a.toNat k) + (Bm.bit s.data.toList (a.toNat + k)).toNat : Nat) : Int) = m % 2 ^ (k + 1) := h4
  rw [decide_eq_true rfl, Bool.true_and, decide_eq_true_eq, Int.toNat_natCast]
  show ((val (bitsAt s.data.toList a.toNat k) : Nat) : Int) = m / 2 % 2 ^ k
  have hp : (0 : Int) < 2 ^ k := Int.pow_pos (by decide)
  have e3 : m % 2 ^ (k + 1) = 2 * (m / 2 % 2 ^ k) + m % 2 := by
    have e4 : (2 : Int) ^ (k + 1) = 2 * 2 ^ k := by rw [Int.pow_succ, Int.mul_comm]
    have q1 := Int.emod_add_mul_ediv m 2
    have q2 := Int.emod_add_mul_ediv (m / 2) (2 ^ k)
    have q3 : 0 ≤ m / 2 % 2 ^ k := Int.emod_nonneg _ (Int.ne_of_gt hp)
    have q4 : m / 2 % 2 ^ k < 2 ^ k := Int.emod_lt_of_pos _ hp
    have q5 : m = (2 * (m / 2 % 2 ^ k) + m % 2) + 2 * 2 ^ k * (m / 2 / 2 ^ k) := by
      rw [Int.mul_assoc]
      generalize 2 ^ k * (m / 2 / 2 ^ k) = z at *
      omega
    rw [e4]
    conv => lhs; rw [q5]
    rw [Int.add_mul_emod_self_left, Int.emod_eq_of_lt (by omega) (by omega)]
  rw [e3] at h4
  omega
theorem mem_half {s : ByteArray} {m n : Int} {i : Nat} (h1 : 1 < n) (h2 : n ≤ 64) (hi : i < (plZ s 0 m n).length) : (plZ s 0 m n).getD i 0 ∈ plZ s 0 (m / 2) (n - 1) := by
  rw [plZ_at hi]
  rw [plZ_len] at hi
  have h3 : (plL s 0 m n (8 * s.size)).getD i 0 ∈ plL s 0 m n (8 * s.size) := by rw [getD_lt _ _ _ hi]; exact List.getElem_mem _
  obtain ⟨h4, h5⟩ := List.mem_filter.1 h3
  rw [Bool.and_eq_true] at h5
  obtain ⟨k, rfl⟩ : ∃ k : Nat, n = (k : Int) + 1 := ⟨(n - 1).toNat, by omega⟩
  have h6 := val_half (by omega) (by omega) h5.2
  rw [show (k : Int) + 1 - 1 = k by omega]
  exact List.mem_map.2 ⟨_, List.mem_filter.2 ⟨h4, by rw [h6, h5.1]; rfl⟩, rfl⟩
theorem any_0 (l : List Int) (v : Int) : false = (l.take 0).any fun z => decide (z = v) := rfl
theorem any_1 {l : List Int} {v : Int} {k : Nat} (h : k < l.length) : ((l.take k).any fun z => decide (z = v)) = true ∨ l.getD k 0 = v ↔ ((l.take (k + 1)).any fun z => decide (z = v)) = true := by
  rw [List.take_succ_eq_append_getElem h, List.any_append, getD_lt _ _ _ h]
  simp
theorem any_or {l : List Int} {v : Int} {k : Nat} (h : k < l.length) : (((l.take k).any fun z => decide (z = v)) || decide (l.getD k 0 = v)) = (l.take (k + 1)).any fun z => decide (z = v) := by
  rw [Bool.eq_iff_iff, ← any_1 h]; simp
theorem any_all {l : List Int} {v : Int} {k : Nat} (h : l.length ≤ k) (hm : v ∈ l) : ((l.take k).any fun z => decide (z = v)) = true := by
  rw [List.take_of_length_le h, List.any_eq_true]
  exact ⟨v, hm, by simp⟩
theorem shr1 {m : Int} (_h : 0 ≤ m) : Int.fdiv m (2 ^ min (Int.toNat 1) IntKind.u64.bits) = m / 2 := Int.fdiv_eq_ediv_of_nonneg _ (by decide)

set_option maxRecDepth 100000 in
set_option maxHeartbeats 1000000 in
theorem first_law (s : ByteArray) (hs : s.size ≤ 9223372036854775807) (m : Int) (wm : 0 ≤ m ∧ m < 18446744073709551616) (n0 : Int) (wn0 : -9223372036854775808 ≤ n0 ∧ n0 ≤ 9223372036854775807) (f0 : Int) (wf0 : -9223372036854775808 ≤ f0 ∧ f0 ≤ 9223372036854775807) :
    FPure Try.prog 6 [Is (.string s), Is (.int .u64 m), Is (.int .i64 n0), Is (.int .i64 f0)] (Is (.bool true)) := by
  refine FPure.of Try.func6 Try.ntmps6 rfl (by kernel_rfl) rfl rfl rfl ?_
  refine W_seq ?_
  refine W_regionE (c := 1) (c' := 2) (by kernel_rfl) rfl ?_
  refine Runs_p rfl (Valid.assignk (A := Is _) rfl rfl) rfl rfl ?_ -- law.go:102 assign
  refine Runs_nil ?_
  refine thenQ_n ?_
  refine W_seq ?_
  refine W_regionE (c := 2) (c' := 4) (by kernel_rfl) rfl ?_
  refine Runs_p rfl (Valid.call rfl (awake2_s) trivial) rfl rfl ?_ -- law.go:103 call
  refine Runs_p rfl (Valid.assignk (A := Is _) rfl rfl) rfl rfl ?_ -- law.go:103 assign
  refine Runs_nil ?_
  refine thenQ_n ?_
  refine W_seq ?_
  refine W_regionE (c := 4) (c' := 10) (by kernel_rfl) rfl ?_
  refine Runs_p rfl (Valid.movek (A := Is _) rfl rfl) rfl rfl ?_ -- law.go:104 move
  refine Runs_p rfl (Valid.movek (A := Is _) rfl rfl) rfl rfl ?_ -- law.go:104 move
  refine Runs_p rfl (Valid.slen rfl Try.underlying9 rfl) rfl rfl ?_ -- law.go:104 call
  refine Runs_p rfl (Valid.min rfl rfl rfl) rfl rfl ?_ -- law.go:104 call
  refine Runs_p rfl (Valid.ssliceto rfl Try.underlying9 rfl rfl (by first | omega | (simp only [Int.toNat_natCast, toNat_add, toNat_add1, List.length_append, List.length_cons, List.length_nil, List.length_replicate]; omega))) rfl rfl ?_ -- law.go:104 slice
  refine Runs_p rfl (Valid.assignk (A := Is _) rfl rfl) rfl rfl ?_ -- law.go:104 assign
  refine Runs_nil ?_
  refine thenQ_n ?_
  refine W_seq ?_
  have hxs : (s.extract 0 (min (s.size : Int) 40).toNat).size ≤ 40 := by rw [ByteArray.size_extract]; omega
  generalize (s.extract 0 (min (s.size : Int) 40).toNat) = x at *
  have hpk := pickV_range n0 12 (by decide)
  refine W_regionE (c := 10) (c' := 14) (by kernel_rfl) rfl ?_
  refine Runs_p rfl (Valid.movek (A := Is _) rfl rfl) rfl rfl ?_ -- law.go:105 move
  refine Runs_p rfl (Valid.call rfl (pick2_s _ _ (by omega) (by omega) (by omega) (by omega)) ⟨argle rfl, argle rfl, trivial⟩) rfl rfl ?_ -- law.go:105 call
  refine Runs_p rfl (Valid.add rfl rfl rfl (room64 (by first | omega | (simp only [Int.toNat_natCast, toNat_add, toNat_add1, List.length_append, List.length_cons, List.length_nil, List.length_replicate]; omega)) (by first | omega | (simp only [Int.toNat_natCast, toNat_add, toNat_add1, List.length_append, List.length_cons, List.length_nil, List.length_replicate]; omega)))) rfl rfl ?_ -- law.go:105 binOp
  refine Runs_p rfl (Valid.assignk (A := Is _) rfl rfl) rfl rfl ?_ -- law.go:105 assign
  refine Runs_nil ?_
  refine thenQ_n ?_
  refine W_seq ?_
  have hn1 : 1 ≤ (1 + pickV n0 12) ∧ (1 + pickV n0 12) ≤ 12 := by omega
  generalize (1 + pickV n0 12) = n at *
  have hzl := plZ_le x 0 m n
  refine W_regionE (c := 14) (c' := 19) (by kernel_rfl) rfl ?_
  refine Runs_p rfl (Valid.movek (A := Is _) rfl rfl) rfl rfl ?_ -- law.go:106 move
  refine Runs_p rfl (Valid.movek (A := Is _) rfl rfl) rfl rfl ?_ -- law.go:106 move
  refine Runs_p rfl (Valid.movek (A := Is _) rfl rfl) rfl rfl ?_ -- law.go:106 move
  refine Runs_p rfl (Valid.call rfl (all_z _ _ wm _ (by omega) (by omega)) ⟨argle rfl, argle rfl, argle rfl, trivial⟩) rfl rfl ?_ -- law.go:106 call
  refine Runs_p rfl (Valid.assignk (A := Sl 1 _ _) rfl rfl) rfl rfl ?_ -- law.go:106 assign
  refine Runs_nil ?_
  refine thenQ_n ?_
  refine W_seq ?_
  refine W_seq ?_
  have hpf := pickV_range f0 330 (by decide)
  refine W_regionE (c := 19) (c' := 26) (by kernel_rfl) rfl ?_
  refine Runs_p rfl (Valid.movek (A := Is _) rfl rfl) rfl rfl ?_ -- law.go:107 move
  refine Runs_p rfl (Valid.movek (A := Is _) rfl rfl) rfl rfl ?_ -- law.go:107 move
  refine Runs_p rfl (Valid.call rfl (pick2_s _ _ (by omega) (by omega) (by omega) (by omega)) ⟨argle rfl, argle rfl, trivial⟩) rfl rfl ?_ -- law.go:107 call
  refine Runs_p rfl (Valid.sub rfl rfl rfl (room64 (by first | omega | (simp only [Int.toNat_natCast, toNat_add, toNat_add1, List.length_append, List.length_cons, List.length_nil, List.length_replicate]; omega)) (by first | omega | (simp only [Int.toNat_natCast, toNat_add, toNat_add1, List.length_append, List.length_cons, List.length_nil, List.length_replicate]; omega)))) rfl rfl ?_ -- law.go:107 binOp
  refine Runs_p rfl (Valid.lit (el := 3) ((twoN f0 (pickV f0 330 - 2)).map (Value.int .i64)) rfl rfl (fun _ => by kernel_rfl) rfl (by decide)) rfl rfl ?_ -- law.go:107 buildSlice
  refine Runs_p rfl (Valid.len rfl Try.underlying25 (Reads.sl rfl)) rfl rfl ?_ -- law.go:107 call
  refine Runs_p rfl (Valid.movek (A := Is _) rfl rfl) rfl rfl ?_ -- law.go:107 move
  refine Runs_nil ?_
  refine thenQ_n ?_
  refine W_block ?_
  refine W_loopx (G := Nat) (fun (q : Nat) => q ≤ 2) [(1, Is _), (9, Is _), (10, Is _), (11, Is _), (12, Sl 1 _ _), (38, Sl 1 2 ((twoN f0 (pickV f0 330 - 2)).map (Value.int .i64))), (39, Is _)] (fun (q : Nat) => [(40, Is (.int .i64 (q : Int)))]) [] (fun (q : Nat) => []) 26 (fun (q : Nat) => 2 - q) (0) [] (by first | trivial | omega | (simp; omega)) ⟨⟨(leq_is rfl rfl (by first | rfl | (simp; done) | omega | (simp [toNat_add, toNat_add1, Nat.add_assoc]; done) | (simp [toNat_add, toNat_add1]; omega))), trivial⟩, ⟨(leq_is rfl rfl rfl), (leq_is rfl rfl rfl), (leq_is rfl rfl rfl), (leq_is rfl rfl rfl), (leq_sl (Reads.sl rfl) rfl rfl rfl), (leq_sl (Reads.sl rfl) rfl rfl rfl), (leq_is rfl rfl rfl), trivial⟩, trivial, trivial, rfl, ⟨supg rfl, trivial⟩, ⟨supg rfl, supg rfl, supg rfl, supg rfl, supg rfl, supg rfl, supg rfl, trivial⟩, trivial, trivial, rfl, rfl⟩ ?_
  intro q hI1
  refine W_seq ?_
  refine W_regionE (c := 26) (c' := 27) (by kernel_rfl) rfl ?_
  refine Runs_p rfl (Valid.lss rfl rfl rfl) rfl rfl ?_ -- law.go:107 binOp
  refine Runs_nil ?_
  refine thenQ_n ?_
  refine W_seq ?_
  refine W_cond _ rfl (fun hb1 => ?_) (fun hb1 => ?_)
  · try simp only [decide_eq_true_eq] at hb1
    all_goals (
      refine W_skip ?_
      refine thenQ_n ?_
      refine W_seq ?_
      refine W_block ?_
      refine W_seq ?_
      refine W_regionE (c := 27) (c' := 30) (by kernel_rfl) rfl ?_
      refine Runs_p rfl (Valid.eltaddr1 0 rfl Try.underlying25 sz3 (Reads.sl rfl) rfl (by first | omega | (simp only [Int.toNat_natCast, toNat_add, toNat_add1, List.length_append, List.length_cons, List.length_nil, List.length_replicate]; omega)) (by first | rfl | simp)) rfl rfl ?_ -- law.go:107 indexAddr
      refine Runs_p rfl (Valid.loadelt rfl ag3 rfl) rfl rfl ?_ -- law.go:107 load
      refine Runs_p rfl (Valid.assignk (A := Is _) rfl rfl) rfl rfl ?_ -- law.go:107 assign
      refine Runs_nil ?_
      refine thenQ_n ?_
      refine W_seq ?_
      have hfw := (twoN_in (b := pickV f0 330 - 2) wf0 (by omega)).at_ (q : Int).toNat
      generalize (twoN f0 (pickV f0 330 - 2)).getD (q : Int).toNat 0 = f at *
      refine W_regionE (c := 30) (c' := 31) (by kernel_rfl) rfl ?_
      refine Runs_p rfl (Valid.assignk (A := Is _) rfl rfl) rfl rfl ?_ -- law.go:108 assign
      refine Runs_nil ?_
      refine thenQ_n ?_
      refine W_seq ?_
      refine W_seq ?_
      refine W_regionE (c := 31) (c' := 35) (by kernel_rfl) rfl ?_
      refine Runs_p rfl (Valid.movek (A := Sl 1 _ _) rfl rfl) rfl rfl ?_ -- law.go:109 move
      refine Runs_p rfl (Valid.len rfl Try.underlying25 (Reads.sl rfl)) rfl rfl ?_ -- law.go:109 call
      refine Runs_p rfl (Valid.sub rfl rfl rfl (room64 (by first | omega | (simp only [Int.toNat_natCast, toNat_add, toNat_add1, List.length_append, List.length_cons, List.length_nil, List.length_replicate]; omega)) (by first | omega | (simp only [Int.toNat_natCast, toNat_add, toNat_add1, List.length_append, List.length_cons, List.length_nil, List.length_replicate]; omega)))) rfl rfl ?_ -- law.go:109 binOp
      refine Runs_p rfl (Valid.assignk (A := Is _) rfl rfl) rfl rfl ?_ -- law.go:109 assign
      refine Runs_nil ?_
      refine thenQ_n ?_
      refine W_block ?_
      refine W_loopx (G := Nat) (fun (j : Nat) => j ≤ (plZ x 0 m n).length) [(1, Is _), (9, Is _), (10, Is _), (11, Is _), (12, Sl 1 _ _), (14, Is _), (38, Sl 1 _ _), (39, Is _), (40, Is _)] (fun (j : Nat) => [(16, Is (.int .i64 (((plZ x 0 m n).length : Int) - 1 - (j : Int)))), (15, Is (.int .i64 (wnV (plZ x 0 m n) f j)))]) [] (fun (j : Nat) => []) 35 (fun (j : Nat) => (plZ x 0 m n).length - j) (0) [] (by first | trivial | omega | (simp; omega)) ⟨⟨(leq_is rfl rfl (by first | rfl | exact congrArg (Value.int .i64) (by omega) | (rw [wn_0]))), (leq_is rfl rfl (by first | rfl | exact congrArg (Value.int .i64) (by omega) | (rw [wn_0]))), trivial⟩, ⟨(leq_is rfl rfl rfl), (leq_is rfl rfl rfl), (leq_is rfl rfl rfl), (leq_is rfl rfl rfl), (leq_sl (Reads.sl rfl) rfl rfl rfl), (leq_is rfl rfl rfl), (leq_sl (Reads.sl rfl) rfl rfl rfl), (leq_is rfl rfl rfl), (leq_is rfl rfl rfl), trivial⟩, trivial, trivial, rfl, ⟨supg rfl, supg rfl, trivial⟩, ⟨supg rfl, supg rfl, supg rfl, supg rfl, supg rfl, supg rfl, supg rfl, supg rfl, supg rfl, trivial⟩, trivial, trivial, rfl, rfl⟩ ?_
      intro j hI2
      have hwb := wn_bd (s := x) (f := f) (m := m) (n := n) hI2
      refine W_seq ?_
      refine W_seq ?_
      refine W_regionE (c := 35) (c' := 37) (by kernel_rfl) rfl ?_
      refine Runs_p rfl (Valid.movek (A := Is _) rfl rfl) rfl rfl ?_ -- law.go:109 move
      refine Runs_p rfl (Valid.geq rfl rfl rfl) rfl rfl ?_ -- law.go:109 binOp
      refine Runs_nil ?_
      refine thenQ_n ?_
      refine W_cond _ rfl (fun hb2 => ?_) (fun hb2 => ?_)
      · try simp only [decide_eq_true_eq] at hb2
        all_goals (
          refine W_skip ?_
          refine thenQ_n ?_
          refine W_seq ?_
          refine W_block ?_
          refine W_seq ?_
          refine W_regionE (c := 37) (c' := 43) (by kernel_rfl) rfl ?_
          refine Runs_p rfl (Valid.movek (A := Sl 1 _ _) rfl rfl) rfl rfl ?_ -- law.go:110 move
          refine Runs_p rfl (Valid.movek (A := Is _) rfl rfl) rfl rfl ?_ -- law.go:110 move
          refine Runs_p rfl (Valid.eltaddr1 0 rfl Try.underlying25 sz3 (Reads.sl rfl) rfl (by first | omega | (simp only [Int.toNat_natCast, toNat_add, toNat_add1, List.length_append, List.length_cons, List.length_nil, List.length_replicate]; omega)) (by first | rfl | simp)) rfl rfl ?_ -- law.go:110 indexAddr
          refine Runs_p rfl (Valid.loadelt rfl ag3 rfl) rfl rfl ?_ -- law.go:110 load
          refine Runs_p rfl (Valid.movek (A := Is _) rfl rfl) rfl rfl ?_ -- law.go:110 move
          refine Runs_p rfl (Valid.geq rfl rfl rfl) rfl rfl ?_ -- law.go:110 binOp
          refine Runs_nil ?_
          refine thenQ_n ?_
          refine W_cond _ rfl (fun hb3 => ?_) (fun hb3 => ?_)
          · try simp only [decide_eq_true_eq] at hb3
            all_goals (
              refine W_regionE (c := 43) (c' := 48) (by kernel_rfl) rfl ?_
              refine Runs_p rfl (Valid.movek (A := Sl 1 _ _) rfl rfl) rfl rfl ?_ -- law.go:111 move
              refine Runs_p rfl (Valid.movek (A := Is _) rfl rfl) rfl rfl ?_ -- law.go:111 move
              refine Runs_p rfl (Valid.eltaddr1 0 rfl Try.underlying25 sz3 (Reads.sl rfl) rfl (by first | omega | (simp only [Int.toNat_natCast, toNat_add, toNat_add1, List.length_append, List.length_cons, List.length_nil, List.length_replicate]; omega)) (by first | rfl | simp)) rfl rfl ?_ -- law.go:111 indexAddr
              refine Runs_p rfl (Valid.loadelt rfl ag3 rfl) rfl rfl ?_ -- law.go:111 load
              refine Runs_p rfl (Valid.assignk (A := Is _) rfl rfl) rfl rfl ?_ -- law.go:111 assign
              refine Runs_nil ?_
              refine blockQ_n ?_
              refine thenQ_n ?_
              refine W_regionE (c := 48) (c' := 51) (by kernel_rfl) rfl ?_
              refine Runs_p rfl (Valid.movek (A := Is _) rfl rfl) rfl rfl ?_ -- law.go:109 move
              refine Runs_p rfl (Valid.sub rfl rfl rfl (room64 (by first | omega | (simp only [Int.toNat_natCast, toNat_add, toNat_add1, List.length_append, List.length_cons, List.length_nil, List.length_replicate]; omega)) (by first | omega | (simp only [Int.toNat_natCast, toNat_add, toNat_add1, List.length_append, List.length_cons, List.length_nil, List.length_replicate]; omega)))) rfl rfl ?_ -- law.go:109 binOp
              refine Runs_p rfl (Valid.assignk (A := Is _) rfl rfl) rfl rfl ?_ -- law.go:109 assign
              refine Runs_nil ?_
              refine LoopQ.next (j + 1) [] (by omega) (by omega) ⟨⟨(leq_is rfl rfl (by first | rfl | exact congrArg (Value.int .i64) (wn_y (by omega) (by assumption)).symm | exact congrArg (Value.int .i64) (wn_n (i := (((plZ x 0 m n).length : Int) - 1 - (j : Int)).toNat) (by omega) (by assumption)).symm | exact congrArg (Value.int .i64) (by omega))), (leq_is rfl rfl (by first | rfl | exact congrArg (Value.int .i64) (wn_y (by omega) (by assumption)).symm | exact congrArg (Value.int .i64) (wn_n (i := (((plZ x 0 m n).length : Int) - 1 - (j : Int)).toNat) (by omega) (by assumption)).symm | exact congrArg (Value.int .i64) (by omega))), trivial⟩, ⟨(leq_is rfl rfl rfl), (leq_is rfl rfl rfl), (leq_is rfl rfl rfl), (leq_is rfl rfl rfl), (leq_sl (Reads.sl rfl) rfl rfl rfl), (leq_is rfl rfl rfl), (leq_sl (Reads.sl rfl) rfl rfl rfl), (leq_is rfl rfl rfl), (leq_is rfl rfl rfl), trivial⟩, trivial, trivial, rfl, ⟨supg rfl, supg rfl, trivial⟩, ⟨supg rfl, supg rfl, supg rfl, supg rfl, supg rfl, supg rfl, supg rfl, supg rfl, supg rfl, trivial⟩, trivial, trivial, rfl, rfl⟩
              done)
          · try simp only [decide_eq_false_iff_not] at hb3
            all_goals (
              refine W_skip ?_
              refine blockQ_n ?_
              refine thenQ_n ?_
              refine W_regionE (c := 43) (c' := 46) (by kernel_rfl) rfl ?_
              refine Runs_p rfl (Valid.movek (A := Is _) rfl rfl) rfl rfl ?_ -- law.go:109 move
              refine Runs_p rfl (Valid.sub rfl rfl rfl (room64 (by first | omega | (simp only [Int.toNat_natCast, toNat_add, toNat_add1, List.length_append, List.length_cons, List.length_nil, List.length_replicate]; omega)) (by first | omega | (simp only [Int.toNat_natCast, toNat_add, toNat_add1, List.length_append, List.length_cons, List.length_nil, List.length_replicate]; omega)))) rfl rfl ?_ -- law.go:109 binOp
              refine Runs_p rfl (Valid.assignk (A := Is _) rfl rfl) rfl rfl ?_ -- law.go:109 assign
              refine Runs_nil ?_
              refine LoopQ.next (j + 1) [] (by omega) (by omega) ⟨⟨(leq_is rfl rfl (by first | rfl | exact congrArg (Value.int .i64) (wn_y (by omega) (by assumption)).symm | exact congrArg (Value.int .i64) (wn_n (i := (((plZ x 0 m n).length : Int) - 1 - (j : Int)).toNat) (by omega) (by assumption)).symm | exact congrArg (Value.int .i64) (by omega))), (leq_is rfl rfl (by first | rfl | exact congrArg (Value.int .i64) (wn_y (by omega) (by assumption)).symm | exact congrArg (Value.int .i64) (wn_n (i := (((plZ x 0 m n).length : Int) - 1 - (j : Int)).toNat) (by omega) (by assumption)).symm | exact congrArg (Value.int .i64) (by omega))), trivial⟩, ⟨(leq_is rfl rfl rfl), (leq_is rfl rfl rfl), (leq_is rfl rfl rfl), (leq_is rfl rfl rfl), (leq_sl (Reads.sl rfl) rfl rfl rfl), (leq_is rfl rfl rfl), (leq_sl (Reads.sl rfl) rfl rfl rfl), (leq_is rfl rfl rfl), (leq_is rfl rfl rfl), trivial⟩, trivial, trivial, rfl, ⟨supg rfl, supg rfl, trivial⟩, ⟨supg rfl, supg rfl, supg rfl, supg rfl, supg rfl, supg rfl, supg rfl, supg rfl, supg rfl, trivial⟩, trivial, trivial, rfl, rfl⟩
              done)
          done)
      · try simp only [decide_eq_false_iff_not] at hb2
        all_goals (
          refine W_exit ?_
          refine thenQ_e ?_
          refine loopQ_e ?_
          refine blockQ_x ?_
          refine thenQ_n ?_
          refine W_seq ?_
          refine W_regionE (c := 37) (c' := 44) (by kernel_rfl) rfl ?_
          refine Runs_p rfl (Valid.movek (A := Is _) rfl rfl) rfl rfl ?_ -- law.go:114 move
          refine Runs_p rfl (Valid.movek (A := Is _) rfl rfl) rfl rfl ?_ -- law.go:114 move
          refine Runs_p rfl (Valid.movek (A := Is _) rfl rfl) rfl rfl ?_ -- law.go:114 move
          refine Runs_p rfl (Valid.movek (A := Is _) rfl rfl) rfl rfl ?_ -- law.go:114 move
          refine Runs_p rfl (Valid.call rfl (find_s _ _ hfw _ wm _ (by omega) (by omega)) ⟨argle rfl, argle rfl, argle rfl, argle rfl, trivial⟩) rfl rfl ?_ -- law.go:114 call
          refine Runs_p rfl (Valid.movek (A := Is _) rfl rfl) rfl rfl ?_ -- law.go:114 move
          refine Runs_p rfl (Valid.neq rfl rfl rfl) rfl rfl ?_ -- law.go:114 binOp
          refine Runs_nil ?_
          refine thenQ_n ?_
          refine W_cond _ rfl (fun hb4 => ?_) (fun hb4 => ?_)
          · try simp only [decide_eq_true_eq, ne_eq] at hb4
            all_goals (
              exfalso
              exact hb4 (wn_find (by omega))
              
              done)
          · try simp only [decide_eq_false_iff_not, ne_eq] at hb4
            all_goals (
              refine W_skip ?_
              refine blockQ_n ?_
              refine thenQ_n ?_
              refine W_regionE (c := 44) (c' := 46) (by kernel_rfl) rfl ?_
              refine Runs_p rfl (Valid.add rfl rfl rfl (room64 (by first | omega | (simp only [Int.toNat_natCast, toNat_add, toNat_add1, List.length_append, List.length_cons, List.length_nil, List.length_replicate]; omega)) (by first | omega | (simp only [Int.toNat_natCast, toNat_add, toNat_add1, List.length_append, List.length_cons, List.length_nil, List.length_replicate]; omega)))) rfl rfl ?_ -- law.go:107 binOp
              refine Runs_p rfl (Valid.movek (A := Is _) rfl rfl) rfl rfl ?_ -- law.go:107 move
              refine Runs_nil ?_
              refine LoopQ.next (q + 1) [] (by omega) (by omega) ⟨⟨(leq_is rfl rfl (by first | rfl | (simp; done) | omega | (simp [toNat_add, toNat_add1, Nat.add_assoc]; done) | (simp [toNat_add, toNat_add1]; omega))), trivial⟩, ⟨(leq_is rfl rfl rfl), (leq_is rfl rfl rfl), (leq_is rfl rfl rfl), (leq_is rfl rfl rfl), (leq_sl (Reads.sl rfl) rfl rfl rfl), (leq_sl (Reads.sl rfl) rfl rfl rfl), (leq_is rfl rfl rfl), trivial⟩, trivial, trivial, rfl, ⟨supg rfl, trivial⟩, ⟨supg rfl, supg rfl, supg rfl, supg rfl, supg rfl, supg rfl, supg rfl, trivial⟩, trivial, trivial, rfl, rfl⟩
              done)
          done)
      done)
  · try simp only [decide_eq_false_iff_not] at hb1
    all_goals (
      refine W_exit ?_
      refine thenQ_e ?_
      refine loopQ_e ?_
      refine blockQ_x ?_
      refine thenQ_n ?_
      refine W_seq ?_
      have hml := plZ_le x 0 (m / 2) (n - 1)
      have hsh := shr1 wm.1
      have hm2 : 0 ≤ m / 2 ∧ m / 2 < 18446744073709551616 := by omega
      refine W_regionE (c := 27) (c' := 34) (by kernel_rfl) rfl ?_
      refine Runs_p rfl (Valid.movek (A := Is _) rfl rfl) rfl rfl ?_ -- law.go:118 move
      refine Runs_p rfl (Valid.movek (A := Is _) rfl rfl) rfl rfl ?_ -- law.go:118 move
      refine Runs_p rfl (Valid.shrw rfl rfl rfl (by first | omega | (simp only [Int.toNat_natCast, toNat_add, toNat_add1, List.length_append, List.length_cons, List.length_nil, List.length_replicate]; omega))) rfl rfl ?_ -- law.go:118 binOp
      refine Runs_p rfl (Valid.movek (A := Is _) rfl rfl) rfl rfl ?_ -- law.go:118 move
      refine Runs_p rfl (Valid.sub rfl rfl rfl (room64 (by first | omega | (simp only [Int.toNat_natCast, toNat_add, toNat_add1, List.length_append, List.length_cons, List.length_nil, List.length_replicate]; omega)) (by first | omega | (simp only [Int.toNat_natCast, toNat_add, toNat_add1, List.length_append, List.length_cons, List.length_nil, List.length_replicate]; omega)))) rfl rfl ?_ -- law.go:118 binOp
      refine Runs_p rfl (Valid.call rfl (all_t (l := (plZ x 0 (m / 2) (n - 1))) (by rw [hsh]) (by rw [hsh]; exact hm2) (by omega) (by omega)) ⟨argle rfl, argle rfl, argle rfl, trivial⟩) rfl rfl ?_ -- law.go:118 call
      refine Runs_p rfl (Valid.assignk (A := Sl 1 _ _) rfl rfl) rfl rfl ?_ -- law.go:118 assign
      refine Runs_nil ?_
      refine thenQ_n ?_
      refine W_seq ?_
      refine W_seq ?_
      refine W_regionE (c := 34) (c' := 35) (by kernel_rfl) rfl ?_
      refine Runs_p rfl (Valid.assignk (A := Is _) rfl rfl) rfl rfl ?_ -- law.go:119 assign
      refine Runs_nil ?_
      refine thenQ_n ?_
      refine W_block ?_
      refine W_loopx (G := Nat) (fun (i : Nat) => i ≤ (plZ x 0 m n).length) [(9, Is _), (11, Is _), (12, Sl 1 _ _), (17, Sl 1 _ _)] (fun (i : Nat) => [(18, Is (.int .i64 (i : Int)))]) [] (fun (i : Nat) => []) 35 (fun (i : Nat) => (plZ x 0 m n).length - i) (0) [] (by first | trivial | omega | (simp; omega)) ⟨⟨(leq_is rfl rfl (by first | rfl | (simp; done) | omega | (simp [toNat_add, toNat_add1, Nat.add_assoc]; done) | (simp [toNat_add, toNat_add1]; omega))), trivial⟩, ⟨(leq_is rfl rfl rfl), (leq_is rfl rfl rfl), (leq_sl (Reads.sl rfl) rfl rfl rfl), (leq_sl (Reads.sl rfl) rfl rfl rfl), trivial⟩, trivial, trivial, rfl, ⟨supg rfl, trivial⟩, ⟨supg rfl, supg rfl, supg rfl, supg rfl, trivial⟩, trivial, trivial, rfl, rfl⟩ ?_
      intro i hI3
      refine W_seq ?_
      refine W_seq ?_
      refine W_regionE (c := 35) (c' := 43) (by kernel_rfl) rfl ?_
      refine Runs_p rfl (Valid.movek (A := Is _) rfl rfl) rfl rfl ?_ -- law.go:119 move
      refine Runs_p rfl (Valid.movek (A := Sl 1 _ _) rfl rfl) rfl rfl ?_ -- law.go:119 move
      refine Runs_p rfl (Valid.len rfl Try.underlying25 (Reads.sl rfl)) rfl rfl ?_ -- law.go:119 call
      refine Runs_p rfl (Valid.lss rfl rfl rfl) rfl rfl ?_ -- law.go:119 binOp
      refine Runs_p rfl (Valid.movek (A := Is _) rfl rfl) rfl rfl ?_ -- law.go:119 move
      refine Runs_cnd rfl rfl (Grd.is rfl) [] (fun hg => trivial) (fun hg => Valid.movek (A := Is _) rfl rfl) (by rfl) rfl ?_
      refine Runs_cnd rfl rfl (Grd.is rfl) [(80, _)] (fun hg => ⟨cnd_at rfl (by first | exact hg | exact hg.1 | exact hg.1.1 | exact hg.1.1.1), trivial⟩) (fun hg => Valid.gtr rfl rfl rfl) (by rfl) rfl ?_
      refine Runs_p rfl (Valid.pickand rfl rfl rfl (fun h => by first | exact h | exact ⟨hg, h⟩) rfl) rfl rfl ?_ -- law.go:119 pick
      refine Runs_nil ?_
      refine thenQ_n ?_
      refine W_cond _ rfl (fun hb5 => ?_) (fun hb5 => ?_)
      · try simp only [decide_eq_true_eq, Bool.and_eq_true] at hb5
        all_goals (
          refine W_skip ?_
          refine thenQ_n ?_
          refine W_seq ?_
          refine W_block ?_
          refine W_seq ?_
          have hmem := mem_half (s := x) (m := m) (n := n) (i := i) (by omega) (by omega) (by omega)
          refine W_regionE (c := 43) (c' := 44) (by kernel_rfl) rfl ?_
          refine Runs_p rfl (Valid.assignk (A := Is _) rfl rfl) rfl rfl ?_ -- law.go:120 assign
          refine Runs_nil ?_
          refine thenQ_n ?_
          refine W_seq ?_
          refine W_seq ?_
          refine W_regionE (c := 44) (c' := 45) (by kernel_rfl) rfl ?_
          refine Runs_p rfl (Valid.assignk (A := Is _) rfl rfl) rfl rfl ?_ -- law.go:121 assign
          refine Runs_nil ?_
          refine thenQ_n ?_
          refine W_block ?_
          refine W_loopx (G := Nat) (fun (p : Nat) => p ≤ (plZ x 0 (m / 2) (n - 1)).length) [(9, Is _), (11, Is _), (12, Sl 1 _ _), (17, Sl 1 _ _), (18, Is _)] (fun (p : Nat) => [(20, Is (.int .i64 (p : Int))), (19, Is (.bool (((plZ x 0 (m / 2) (n - 1)).take p).any fun z => decide (z = (plZ x 0 m n).getD i 0))))]) [] (fun (p : Nat) => []) 45 (fun (p : Nat) => (plZ x 0 (m / 2) (n - 1)).length - p) (0) [] (by first | trivial | omega | (simp; omega)) ⟨⟨(leq_is rfl rfl (by first | rfl | exact congrArg Value.bool (any_or (by omega)))), (leq_is rfl rfl (by first | rfl | exact congrArg Value.bool (any_or (by omega)))), trivial⟩, ⟨(leq_is rfl rfl rfl), (leq_is rfl rfl rfl), (leq_sl (Reads.sl rfl) rfl rfl rfl), (leq_sl (Reads.sl rfl) rfl rfl rfl), (leq_is rfl rfl rfl), trivial⟩, trivial, trivial, rfl, ⟨supg rfl, supg rfl, trivial⟩, ⟨supg rfl, supg rfl, supg rfl, supg rfl, supg rfl, trivial⟩, trivial, trivial, rfl, rfl⟩ ?_
          intro p hI4
          refine W_seq ?_
          refine W_seq ?_
          refine W_regionE (c := 45) (c' := 49) (by kernel_rfl) rfl ?_
          refine Runs_p rfl (Valid.movek (A := Is _) rfl rfl) rfl rfl ?_ -- law.go:121 move
          refine Runs_p rfl (Valid.movek (A := Sl 1 _ _) rfl rfl) rfl rfl ?_ -- law.go:121 move
          refine Runs_p rfl (Valid.len rfl Try.underlying25 (Reads.sl rfl)) rfl rfl ?_ -- law.go:121 call
          refine Runs_p rfl (Valid.lss rfl rfl rfl) rfl rfl ?_ -- law.go:121 binOp
          refine Runs_nil ?_
          refine thenQ_n ?_
          refine W_cond _ rfl (fun hb6 => ?_) (fun hb6 => ?_)
          · try simp only [decide_eq_true_eq] at hb6
            all_goals (
              refine W_skip ?_
              refine thenQ_n ?_
              refine W_seq ?_
              refine W_block ?_
              refine W_drawE (c := 49) (c' := 62) (by kernel_rfl) rfl ?_
              refine Runs_p rfl (Valid.movek (A := Is _) rfl rfl) rfl rfl ?_ -- law.go:122 move
              refine Runs_p rfl (Valid.movek (A := Is _) rfl rfl) rfl rfl ?_ -- law.go:122 move
              refine Runs_cnd rfl rfl (Grd.is rfl) [] (fun hg => trivial) (fun hg => Valid.movek (A := Sl 1 _ _) rfl rfl) (by rfl) rfl ?_
              refine Runs_cnd rfl rfl (Grd.is rfl) [] (fun hg => trivial) (fun hg => Valid.movek (A := Is _) rfl rfl) (by rfl) rfl ?_
              refine Runs_cnd rfl rfl (Grd.is rfl) [(93, _), (94, _)] (fun hg => ⟨cnd_at rfl (by first | exact hg | exact hg.1 | exact hg.1.1 | exact hg.1.1.1), cnd_at rfl (by first | exact hg | exact hg.1 | exact hg.1.1 | exact hg.1.1.1), trivial⟩) (fun hg => Valid.eltaddr1 0 rfl Try.underlying25 sz3 (Reads.sl rfl) rfl (by (try simp only [Int.toNat_natCast, toNat_add, toNat_add1, decide_eq_true_eq, decide_eq_false_iff_not, Bool.and_eq_true, Bool.or_eq_true, Bool.and_eq_false_iff, Bool.or_eq_false_iff, Bool.not_eq_true', Bool.not_eq_false', Bool.true_eq_false, Bool.false_eq_true, not_true_eq_false, not_false_eq_true, ne_eq] at hg); first | omega | (simp only [Int.toNat_natCast, toNat_add, toNat_add1, List.length_append, List.length_cons, List.length_nil, List.length_replicate]; omega)) (by first | rfl | simp)) (by rfl) rfl ?_
              refine Runs_cnd rfl rfl (Grd.is rfl) [(95, _)] (fun hg => ⟨cnd_at rfl (by first | exact hg | exact hg.1 | exact hg.1.1 | exact hg.1.1.1), trivial⟩) (fun hg => Valid.loadelt rfl ag3 rfl) (by rfl) rfl ?_
              refine Runs_cnd rfl rfl (Grd.is rfl) [] (fun hg => trivial) (fun hg => Valid.movek (A := Sl 1 _ _) rfl rfl) (by rfl) rfl ?_
              refine Runs_cnd rfl rfl (Grd.is rfl) [] (fun hg => trivial) (fun hg => Valid.movek (A := Is _) rfl rfl) (by rfl) rfl ?_
              refine Runs_cnd rfl rfl (Grd.is rfl) [(97, _), (98, _)] (fun hg => ⟨cnd_at rfl (by first | exact hg | exact hg.1 | exact hg.1.1 | exact hg.1.1.1), cnd_at rfl (by first | exact hg | exact hg.1 | exact hg.1.1 | exact hg.1.1.1), trivial⟩) (fun hg => Valid.eltaddr1 0 rfl Try.underlying25 sz3 (Reads.sl rfl) rfl (by (try simp only [Int.toNat_natCast, toNat_add, toNat_add1, decide_eq_true_eq, decide_eq_false_iff_not, Bool.and_eq_true, Bool.or_eq_true, Bool.and_eq_false_iff, Bool.or_eq_false_iff, Bool.not_eq_true', Bool.not_eq_false', Bool.true_eq_false, Bool.false_eq_true, not_true_eq_false, not_false_eq_true, ne_eq] at hg); first | omega | (simp only [Int.toNat_natCast, toNat_add, toNat_add1, List.length_append, List.length_cons, List.length_nil, List.length_replicate]; omega)) (by first | rfl | simp)) (by rfl) rfl ?_
              refine Runs_cnd rfl rfl (Grd.is rfl) [(99, _)] (fun hg => ⟨cnd_at rfl (by first | exact hg | exact hg.1 | exact hg.1.1 | exact hg.1.1.1), trivial⟩) (fun hg => Valid.loadelt rfl ag3 rfl) (by rfl) rfl ?_
              refine Runs_cnd rfl rfl (Grd.is rfl) [(96, _), (100, _)] (fun hg => ⟨cnd_at rfl (by first | exact hg | exact hg.1 | exact hg.1.1 | exact hg.1.1.1), cnd_at rfl (by first | exact hg | exact hg.1 | exact hg.1.1 | exact hg.1.1.1), trivial⟩) (fun hg => Valid.eql rfl rfl rfl) (by rfl) rfl ?_
              refine Runs_p rfl (Valid.pickor rfl rfl rfl rfl (fun h => by first | exact h | exact ⟨hg, h⟩)) rfl rfl ?_ -- law.go:122 pick
              refine Runs_p rfl (Valid.assignk (A := Is _) rfl rfl) rfl rfl ?_ -- law.go:122 assign
              refine Runs_nil ?_
              refine ⟨_, _, rfl, rfl, by kernel_rfl, ?_⟩
              refine blockQ_n ?_
              refine thenQ_n ?_
              refine W_regionE (c := 62) (c' := 65) (by kernel_rfl) rfl ?_
              refine Runs_p rfl (Valid.movek (A := Is _) rfl rfl) rfl rfl ?_ -- law.go:121 move
              refine Runs_p rfl (Valid.add rfl rfl rfl (room64 (by first | omega | (simp only [Int.toNat_natCast, toNat_add, toNat_add1, List.length_append, List.length_cons, List.length_nil, List.length_replicate]; omega)) (by first | omega | (simp only [Int.toNat_natCast, toNat_add, toNat_add1, List.length_append, List.length_cons, List.length_nil, List.length_replicate]; omega)))) rfl rfl ?_ -- law.go:121 binOp
              refine Runs_p rfl (Valid.assignk (A := Is _) rfl rfl) rfl rfl ?_ -- law.go:121 assign
              refine Runs_nil ?_
              refine LoopQ.next (p + 1) [] (by omega) (by omega) ⟨⟨(leq_is rfl rfl (by first | rfl | exact congrArg Value.bool (any_or (by omega)))), (leq_is rfl rfl (by first | rfl | exact congrArg Value.bool (any_or (by omega)))), trivial⟩, ⟨(leq_is rfl rfl rfl), (leq_is rfl rfl rfl), (leq_sl (Reads.sl rfl) rfl rfl rfl), (leq_sl (Reads.sl rfl) rfl rfl rfl), (leq_is rfl rfl rfl), trivial⟩, trivial, trivial, rfl, ⟨supg rfl, supg rfl, trivial⟩, ⟨supg rfl, supg rfl, supg rfl, supg rfl, supg rfl, trivial⟩, trivial, trivial, rfl, rfl⟩
              done)
          · try simp only [decide_eq_false_iff_not] at hb6
            all_goals (
              refine W_exit ?_
              refine thenQ_e ?_
              refine loopQ_e ?_
              refine blockQ_x ?_
              refine thenQ_n ?_
              refine W_seq ?_
              refine W_regionE (c := 49) (c' := 51) (by kernel_rfl) rfl ?_
              refine Runs_p rfl (Valid.movek (A := Is _) rfl rfl) rfl rfl ?_ -- law.go:124 move
              refine Runs_p rfl (Valid.not rfl rfl) rfl rfl ?_ -- law.go:124 unOp
              refine Runs_nil ?_
              refine thenQ_n ?_
              refine W_cond _ rfl (fun hb7 => ?_) (fun hb7 => ?_)
              · try simp only [Bool.not_eq_true'] at hb7
                all_goals (
                  exfalso
                  rw [any_all (l := (plZ x 0 (m / 2) (n - 1))) (k := p) (by omega) hmem] at hb7
                  cases hb7
                  
                  done)
              · try simp only [Bool.not_eq_false'] at hb7
                all_goals (
                  refine W_skip ?_
                  refine blockQ_n ?_
                  refine thenQ_n ?_
                  refine W_regionE (c := 51) (c' := 54) (by kernel_rfl) rfl ?_
                  refine Runs_p rfl (Valid.movek (A := Is _) rfl rfl) rfl rfl ?_ -- law.go:119 move
                  refine Runs_p rfl (Valid.add rfl rfl rfl (room64 (by first | omega | (simp only [Int.toNat_natCast, toNat_add, toNat_add1, List.length_append, List.length_cons, List.length_nil, List.length_replicate]; omega)) (by first | omega | (simp only [Int.toNat_natCast, toNat_add, toNat_add1, List.length_append, List.length_cons, List.length_nil, List.length_replicate]; omega)))) rfl rfl ?_ -- law.go:119 binOp
                  refine Runs_p rfl (Valid.assignk (A := Is _) rfl rfl) rfl rfl ?_ -- law.go:119 assign
                  refine Runs_nil ?_
                  refine LoopQ.next (i + 1) [] (by omega) (by omega) ⟨⟨(leq_is rfl rfl (by first | rfl | (simp; done) | omega | (simp [toNat_add, toNat_add1, Nat.add_assoc]; done) | (simp [toNat_add, toNat_add1]; omega))), trivial⟩, ⟨(leq_is rfl rfl rfl), (leq_is rfl rfl rfl), (leq_sl (Reads.sl rfl) rfl rfl rfl), (leq_sl (Reads.sl rfl) rfl rfl rfl), trivial⟩, trivial, trivial, rfl, ⟨supg rfl, trivial⟩, ⟨supg rfl, supg rfl, supg rfl, supg rfl, trivial⟩, trivial, trivial, rfl, rfl⟩
                  done)
              done)
          done)
      · try simp only [decide_eq_false_iff_not, Bool.and_eq_false_iff] at hb5
        all_goals (
          refine W_exit ?_
          refine thenQ_e ?_
          refine loopQ_e ?_
          refine blockQ_x ?_
          refine thenQ_n ?_
          refine W_seq ?_
          refine W_regionE (c := 43) (c' := 45) (by kernel_rfl) rfl ?_
          refine Runs_p rfl (Valid.movek (A := Is _) rfl rfl) rfl rfl ?_ -- law.go:128 move
          refine Runs_p rfl (Valid.assignk (A := Is _) rfl rfl) rfl rfl ?_ -- law.go:128 assign
          refine Runs_nil ?_
          refine thenQ_n ?_
          refine W_ret ?_
          refine finQ_r ?_
          refine ResOk.one rfl (RVal.is rfl rfl (rfl))
          done)
      done)
end Mf
end Go.Proofs.Ytabhnnighhglfaa
