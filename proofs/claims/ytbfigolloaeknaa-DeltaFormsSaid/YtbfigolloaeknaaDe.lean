/-
  WALKS of stage 9: the bits of a change; Put.
-/
import Derived.Test.YtbfigolloaeknaaRows
import Derived.Test.YtbfigolloaeknaaMgc
import Derived.Test.YtbfigolloaeknaaDd
import Derived.Test.YtbfigolloaeknaaDa
import Derived.Test.YtbfigolloaeknaaDb
import Derived.Test.YtbfigolloaeknaaMha
import Derived.Test.YtbfigolloaeknaaCa
namespace Go.Proofs.Ytbfigolloaeknaa
open Go.RowKit
namespace De
open Ab Bm Bt Dd Da Db Bb Ca
theorem ag27 (w : World) : (isAgg 27).run Try.prog w = .ok true w := by kernel_rfl
theorem ag3 (w : World) : (isAgg 3).run Try.prog w = .ok false w := by kernel_rfl
theorem sz27 (w : World) : (sizeOf 27).run Try.prog w = .ok 2 w := by kernel_rfl
theorem sz3 (w : World) : (sizeOf 3).run Try.prog w = .ok 1 w := by kernel_rfl
theorem ti27 : TI Try.prog 27 2 24 := .mk' (z := (.agg #[(Value.string ⟨#[]⟩), (Value.int .i64 0)])) (by kernel_rfl) rfl
theorem zv27 (w : World) : (zeroValue 27).run Try.prog w = .ok (.agg #[(Value.string ⟨#[]⟩), (Value.int .i64 0)]) w := by kernel_rfl
theorem or_i {P : Program} {t : TypeId} (x y : Int) (hx : 0 ≤ x ∧ x < 18446744073709551616) (hy : 0 ≤ y ∧ y < 18446744073709551616) (w : World) : (binOp .or t (.int .u64 x) (.int .u64 y)).run P w = .ok (.int .u64 ((x.toNat ||| y.toNat : Nat) : Int)) w := by
  show (Op.intBits .or .u64 x y).run P w = _
  have h1 : ∀ z : Int, 0 ≤ z → z < 18446744073709551616 → (BitVec.ofInt 64 z) = BitVec.ofNat 64 z.toNat := fun z h0 h1 => by
    rw [show z = ((z.toNat : Nat) : Int) by omega, BitVec.ofInt_natCast, Int.toNat_natCast]
  have hlt : x.toNat ||| y.toNat < 2 ^ 64 := Nat.or_lt_two_pow (by omega) (by omega)
  have h2 : (BitVec.ofNat 64 x.toNat ||| BitVec.ofNat 64 y.toNat).toNat = x.toNat ||| y.toNat := by
    rw [BitVec.toNat_or, BitVec.toNat_ofNat, BitVec.toNat_ofNat, Nat.mod_eq_of_lt (by omega), Nat.mod_eq_of_lt (by omega)]
  show (pure (Value.int .u64 (IntKind.u64.wrap (((BitVec.ofInt 64 x ||| BitVec.ofInt 64 y).toNat : Nat) : Int))) : Sem Value).run P w = _
  rw [h1 x hx.1 hx.2, h1 y hy.1 hy.2, h2, IntKind.wrap_u64]
  show Result.ok (Value.int .u64 (((x.toNat ||| y.toNat : Nat) : Int) % 18446744073709551616)) w = _
  rw [show (((x.toNat ||| y.toNat : Nat) : Int) % 18446744073709551616) = ((x.toNat ||| y.toNat : Nat) : Int) by omega]
/-- so many steps, each of two bits -/
def chg : Nat → Bool → List Bool
  | 0, _ => []
  | n + 1, x => chg n x ++ [true, x]
theorem chg_len (x : Bool) : ∀ n, (chg n x).length = 2 * n
  | 0 => rfl
  | n + 1 => by rw [chg, List.length_append, chg_len x n]; simp; omega
theorem chg_s (n : Nat) (x : Bool) : chg (n + 1) x = chg n x ++ [true, x] := rfl
def chgB (a b : Int) : List Bool := chg (b - a).toNat false ++ chg (a - b).toNat true ++ [false]
theorem chgB_len (a b : Int) : (chgB a b).length = 2 * (b - a).toNat + 2 * (a - b).toNat + 1 := by
  unfold chgB; simp only [List.length_append, chg_len]; rfl
theorem val_lt40 {l : List Bool} (h : l.length ≤ 40) : val l < 1099511627776 :=
  Nat.lt_of_lt_of_le (val_lt l) (Nat.pow_le_pow_right (n := 2) (by omega) h)
theorem sh_2 {x : Nat} (h : x < 1099511627776) : IntKind.u64.wrap ((x : Int) * 2 ^ min (Int.toNat 2) IntKind.u64.bits) = ((4 * x : Nat) : Int) := by
  show IntKind.u64.wrap ((x : Int) * 2 ^ 2) = _
  rw [IntKind.wrap_u64]; omega
theorem sh_1 {x : Nat} (h : x < 1099511627776) : IntKind.u64.wrap ((x : Int) * 2 ^ min (Int.toNat 1) IntKind.u64.bits) = ((2 * x : Nat) : Int) := by
  show IntKind.u64.wrap ((x : Int) * 2 ^ 1) = _
  rw [IntKind.wrap_u64]; omega
theorem val_two (l : List Bool) (x : Bool) : val (l ++ [true, x]) = 4 * val l + (2 + x.toNat) := by
  rw [val_append]
  have : val [true, x] = 2 + x.toNat := by cases x <;> rfl
  rw [this]; simp; omega
theorem val_one (l : List Bool) : val (l ++ [false]) = 2 * val l := by
  rw [val_append]
  have : val [false] = 0 := rfl
  rw [this]; simp; omega
theorem or_two (l : List Bool) (h : l.length ≤ 40) (x : Bool) (y : Int) (hy : y = 2 + (x.toNat : Int)) : ((IntKind.u64.wrap (((val l : Nat) : Int) * 2 ^ min (Int.toNat 2) IntKind.u64.bits)).toNat ||| y.toNat) = val (l ++ [true, x]) := by
  rw [sh_2 (val_lt40 h), val_two, hy, show (2 + (x.toNat : Int)).toNat = 2 + x.toNat by omega, Int.toNat_natCast]
  have := Nat.two_pow_add_eq_or_of_lt (show 2 + x.toNat < 2 ^ 2 by cases x <;> decide) (val l)
  rw [show 2 ^ 2 * val l = 4 * val l by rfl] at this
  rw [← this]

set_option maxRecDepth 100000 in
set_option maxHeartbeats 1000000 in
theorem change_s (a b : Int) (ha : Da.good a) (hb : Da.good b) :
    FPure Try.prog 22 [Is (.int .i64 a), Is (.int .i64 b)] (Agg [Is (.string (pack (chgB a b))), Is (.int .i64 ((chgB a b).length : Int))]) := by
  refine FPure.of Try.func22 Try.ntmps22 rfl (by kernel_rfl) rfl rfl rfl ?_
  refine W_seq ?_
  refine W_regionE (c := 1) (c' := 2) (by kernel_rfl) rfl ?_
  refine Runs_w rfl (Valid.alloc [(Value.string ⟨#[]⟩), (Value.int .i64 0)] rfl zv27 rfl) rfl rfl ?_ -- delta.go:38 alloc
  refine Runs_nil ?_
  refine thenQ_n ?_
  refine W_seq ?_
  refine W_regionE (c := 2) (c' := 3) (by kernel_rfl) rfl ?_
  refine Runs_p rfl (Valid.assignk (A := Is _) rfl rfl) rfl rfl ?_ -- delta.go:39 assign
  refine Runs_nil ?_
  refine thenQ_n ?_
  refine W_seq ?_
  refine W_regionE (c := 3) (c' := 4) (by kernel_rfl) rfl ?_
  refine Runs_p rfl (Valid.assignk (A := Is _) rfl rfl) rfl rfl ?_ -- delta.go:40 assign
  refine Runs_nil ?_
  refine thenQ_n ?_
  refine W_seq ?_
  refine W_block ?_
  refine W_loopx (G := Nat) (fun (k : Nat) => k ≤ (b - a).toNat) [(1, Is _), (4, Ptr 8 0)] (fun (k : Nat) => [(0, Is (.int .i64 (a + (k : Int)))), (5, Is (.int .u64 ((val (chg k false) : Nat) : Int))), (6, Is (.int .i64 (1 + 2 * (k : Int))))]) [(8, .var 27 [Is _, Is _])] (fun (k : Nat) => []) 4 (fun (k : Nat) => (b - a).toNat - k) (0) [] (by first | trivial | omega | (simp; omega)) ⟨⟨(leq_is rfl rfl (by first | rfl | exact congrArg (Value.int .i64) (by omega))), (leq_is rfl rfl (by first | rfl | exact congrArg (Value.int .i64) (by omega))), (leq_is rfl rfl (by first | rfl | exact congrArg (Value.int .i64) (by omega))), trivial⟩, ⟨(leq_is rfl rfl rfl), (leq_ptr rfl rfl rfl), trivial⟩, trivial, ⟨hp_var rfl ⟨(leq_is rfl rfl rfl), (leq_is rfl rfl rfl), trivial⟩, trivial⟩, rfl, ⟨supg rfl, supg rfl, supg rfl, trivial⟩, ⟨supg rfl, supg rfl, trivial⟩, trivial, ⟨suph rfl rfl, trivial⟩, rfl, rfl⟩ ?_
  intro k hI1
  refine W_seq ?_
  refine W_seq ?_
  have hga : 1 ≤ a ∧ a ≤ 20 := ha
  have hgb : 1 ≤ b ∧ b ≤ 20 := hb
  refine W_regionE (c := 4) (c' := 7) (by kernel_rfl) rfl ?_
  refine Runs_p rfl (Valid.movek (A := Is _) rfl rfl) rfl rfl ?_ -- delta.go:41 move
  refine Runs_p rfl (Valid.movek (A := Is _) rfl rfl) rfl rfl ?_ -- delta.go:41 move
  refine Runs_p rfl (Valid.lss rfl rfl rfl) rfl rfl ?_ -- delta.go:41 binOp
  refine Runs_nil ?_
  refine thenQ_n ?_
  refine W_cond _ rfl (fun hb1 => ?_) (fun hb1 => ?_)
  · try simp only [decide_eq_true_eq] at hb1
    all_goals (
      refine W_skip ?_
      refine thenQ_n ?_
      refine W_seq ?_
      refine W_block ?_
      refine W_seq ?_
      have hkl : (chg k false).length ≤ 40 := by rw [chg_len]; omega
      have hvl := val_lt40 hkl
      refine W_regionE (c := 7) (c' := 11) (by kernel_rfl) rfl ?_
      refine Runs_p rfl (Valid.movek (A := Is _) rfl rfl) rfl rfl ?_ -- delta.go:42 move
      refine Runs_p rfl (Valid.shlw rfl rfl rfl (by first | omega | (simp only [Int.toNat_natCast, toNat_add, toNat_add1, List.length_append, List.length_cons, List.length_nil, List.length_replicate]; omega))) rfl rfl ?_ -- delta.go:42 binOp
      refine Runs_p rfl (Valid.bits rfl rfl rfl (fun w => or_i _ _ (by rw [sh_2 hvl]; omega) (by decide) w)) rfl rfl ?_ -- delta.go:42 binOp
      refine Runs_p rfl (Valid.assignk (A := Is _) rfl rfl) rfl rfl ?_ -- delta.go:42 assign
      refine Runs_nil ?_
      refine thenQ_n ?_
      refine W_regionE (c := 11) (c' := 14) (by kernel_rfl) rfl ?_
      refine Runs_p rfl (Valid.movek (A := Is _) rfl rfl) rfl rfl ?_ -- delta.go:43 move
      refine Runs_p rfl (Valid.add rfl rfl rfl (room64 (by first | omega | (simp only [Int.toNat_natCast, toNat_add, toNat_add1, List.length_append, List.length_cons, List.length_nil, List.length_replicate]; omega)) (by first | omega | (simp only [Int.toNat_natCast, toNat_add, toNat_add1, List.length_append, List.length_cons, List.length_nil, List.length_replicate]; omega)))) rfl rfl ?_ -- delta.go:43 binOp
      refine Runs_p rfl (Valid.assignk (A := Is _) rfl rfl) rfl rfl ?_ -- delta.go:43 assign
      refine Runs_nil ?_
      refine blockQ_n ?_
      refine thenQ_n ?_
      refine W_regionE (c := 14) (c' := 17) (by kernel_rfl) rfl ?_
      refine Runs_p rfl (Valid.movek (A := Is _) rfl rfl) rfl rfl ?_ -- delta.go:41 move
      refine Runs_p rfl (Valid.add rfl rfl rfl (room64 (by first | omega | (simp only [Int.toNat_natCast, toNat_add, toNat_add1, List.length_append, List.length_cons, List.length_nil, List.length_replicate]; omega)) (by first | omega | (simp only [Int.toNat_natCast, toNat_add, toNat_add1, List.length_append, List.length_cons, List.length_nil, List.length_replicate]; omega)))) rfl rfl ?_ -- delta.go:41 binOp
      refine Runs_p rfl (Valid.assignk (A := Is _) rfl rfl) rfl rfl ?_ -- delta.go:41 assign
      refine Runs_nil ?_
      refine LoopQ.next (k + 1) [] (by omega) (by omega) ⟨⟨(leq_is rfl rfl (by first | rfl | exact congrArg (Value.int .i64) (by omega) | exact congrArg (fun n : Nat => Value.int .u64 (n : Int)) (or_two _ hkl false 2 (by decide)))), (leq_is rfl rfl (by first | rfl | exact congrArg (Value.int .i64) (by omega) | exact congrArg (fun n : Nat => Value.int .u64 (n : Int)) (or_two _ hkl false 2 (by decide)))), (leq_is rfl rfl (by first | rfl | exact congrArg (Value.int .i64) (by omega) | exact congrArg (fun n : Nat => Value.int .u64 (n : Int)) (or_two _ hkl false 2 (by decide)))), trivial⟩, ⟨(leq_is rfl rfl rfl), (leq_ptr rfl rfl rfl), trivial⟩, trivial, ⟨hp_var rfl ⟨(leq_is rfl rfl rfl), (leq_is rfl rfl rfl), trivial⟩, trivial⟩, rfl, ⟨supg rfl, supg rfl, supg rfl, trivial⟩, ⟨supg rfl, supg rfl, trivial⟩, trivial, ⟨suph rfl rfl, trivial⟩, rfl, rfl⟩
      done)
  · try simp only [decide_eq_false_iff_not] at hb1
    all_goals (
      refine W_exit ?_
      refine thenQ_e ?_
      refine loopQ_e ?_
      refine blockQ_x ?_
      refine thenQ_n ?_
      refine W_seq ?_
      refine W_block ?_
      refine W_loopx (G := Nat) (fun (j : Nat) => j ≤ (a - b).toNat ∧ k = (b - a).toNat) [(1, Is _), (4, Ptr 8 0)] (fun (j : Nat) => [(0, Is (.int .i64 (a + (k : Int) - (j : Int)))), (5, Is (.int .u64 ((val (chg k false ++ chg j true) : Nat) : Int))), (6, Is (.int .i64 (1 + 2 * (k : Int) + 2 * (j : Int))))]) [(8, .var 27 [Is _, Is _])] (fun (j : Nat) => []) 7 (fun (j : Nat) => (a - b).toNat - j) (0) [] (⟨by omega, by omega⟩) ⟨⟨(leq_is rfl rfl (by first | rfl | exact congrArg (Value.int .i64) (by omega) | (rw [show chg 0 true = [] from rfl, List.append_nil]; done))), (leq_is rfl rfl (by first | rfl | exact congrArg (Value.int .i64) (by omega) | (rw [show chg 0 true = [] from rfl, List.append_nil]; done))), (leq_is rfl rfl (by first | rfl | exact congrArg (Value.int .i64) (by omega) | (rw [show chg 0 true = [] from rfl, List.append_nil]; done))), trivial⟩, ⟨(leq_is rfl rfl rfl), (leq_ptr rfl rfl rfl), trivial⟩, trivial, ⟨hp_var rfl ⟨(leq_is rfl rfl rfl), (leq_is rfl rfl rfl), trivial⟩, trivial⟩, rfl, ⟨supg rfl, supg rfl, supg rfl, trivial⟩, ⟨supg rfl, supg rfl, trivial⟩, trivial, ⟨suph rfl rfl, trivial⟩, rfl, rfl⟩ ?_
      intro j hI2
      obtain ⟨hj1, hj2⟩ := hI2
      refine W_seq ?_
      refine W_seq ?_
      refine W_regionE (c := 7) (c' := 10) (by kernel_rfl) rfl ?_
      refine Runs_p rfl (Valid.movek (A := Is _) rfl rfl) rfl rfl ?_ -- delta.go:45 move
      refine Runs_p rfl (Valid.movek (A := Is _) rfl rfl) rfl rfl ?_ -- delta.go:45 move
      refine Runs_p rfl (Valid.gtr rfl rfl rfl) rfl rfl ?_ -- delta.go:45 binOp
      refine Runs_nil ?_
      refine thenQ_n ?_
      refine W_cond _ rfl (fun hb2 => ?_) (fun hb2 => ?_)
      · try simp only [decide_eq_true_eq] at hb2
        all_goals (
          refine W_skip ?_
          refine thenQ_n ?_
          refine W_seq ?_
          refine W_block ?_
          refine W_seq ?_
          have hjl : (chg k false ++ chg j true).length ≤ 40 := by rw [List.length_append, chg_len, chg_len]; omega
          have hvl := val_lt40 hjl
          refine W_regionE (c := 10) (c' := 14) (by kernel_rfl) rfl ?_
          refine Runs_p rfl (Valid.movek (A := Is _) rfl rfl) rfl rfl ?_ -- delta.go:46 move
          refine Runs_p rfl (Valid.shlw rfl rfl rfl (by first | omega | (simp only [Int.toNat_natCast, toNat_add, toNat_add1, List.length_append, List.length_cons, List.length_nil, List.length_replicate]; omega))) rfl rfl ?_ -- delta.go:46 binOp
          refine Runs_p rfl (Valid.bits rfl rfl rfl (fun w => or_i _ _ (by rw [sh_2 hvl]; omega) (by decide) w)) rfl rfl ?_ -- delta.go:46 binOp
          refine Runs_p rfl (Valid.assignk (A := Is _) rfl rfl) rfl rfl ?_ -- delta.go:46 assign
          refine Runs_nil ?_
          refine thenQ_n ?_
          refine W_regionE (c := 14) (c' := 17) (by kernel_rfl) rfl ?_
          refine Runs_p rfl (Valid.movek (A := Is _) rfl rfl) rfl rfl ?_ -- delta.go:47 move
          refine Runs_p rfl (Valid.add rfl rfl rfl (room64 (by first | omega | (simp only [Int.toNat_natCast, toNat_add, toNat_add1, List.length_append, List.length_cons, List.length_nil, List.length_replicate]; omega)) (by first | omega | (simp only [Int.toNat_natCast, toNat_add, toNat_add1, List.length_append, List.length_cons, List.length_nil, List.length_replicate]; omega)))) rfl rfl ?_ -- delta.go:47 binOp
          refine Runs_p rfl (Valid.assignk (A := Is _) rfl rfl) rfl rfl ?_ -- delta.go:47 assign
          refine Runs_nil ?_
          refine blockQ_n ?_
          refine thenQ_n ?_
          refine W_regionE (c := 17) (c' := 20) (by kernel_rfl) rfl ?_
          refine Runs_p rfl (Valid.movek (A := Is _) rfl rfl) rfl rfl ?_ -- delta.go:45 move
          refine Runs_p rfl (Valid.sub rfl rfl rfl (room64 (by first | omega | (simp only [Int.toNat_natCast, toNat_add, toNat_add1, List.length_append, List.length_cons, List.length_nil, List.length_replicate]; omega)) (by first | omega | (simp only [Int.toNat_natCast, toNat_add, toNat_add1, List.length_append, List.length_cons, List.length_nil, List.length_replicate]; omega)))) rfl rfl ?_ -- delta.go:45 binOp
          refine Runs_p rfl (Valid.assignk (A := Is _) rfl rfl) rfl rfl ?_ -- delta.go:45 assign
          refine Runs_nil ?_
          refine LoopQ.next (j + 1) [] (⟨by omega, hj2⟩) (by omega) ⟨⟨(leq_is rfl rfl (by first | rfl | exact congrArg (Value.int .i64) (by omega) | (refine congrArg (fun n : Nat => Value.int .u64 (n : Int)) ((or_two _ hjl true 3 (by decide)).trans ?_); rw [chg_s, List.append_assoc]))), (leq_is rfl rfl (by first | rfl | exact congrArg (Value.int .i64) (by omega) | (refine congrArg (fun n : Nat => Value.int .u64 (n : Int)) ((or_two _ hjl true 3 (by decide)).trans ?_); rw [chg_s, List.append_assoc]))), (leq_is rfl rfl (by first | rfl | exact congrArg (Value.int .i64) (by omega) | (refine congrArg (fun n : Nat => Value.int .u64 (n : Int)) ((or_two _ hjl true 3 (by decide)).trans ?_); rw [chg_s, List.append_assoc]))), trivial⟩, ⟨(leq_is rfl rfl rfl), (leq_ptr rfl rfl rfl), trivial⟩, trivial, ⟨hp_var rfl ⟨(leq_is rfl rfl rfl), (leq_is rfl rfl rfl), trivial⟩, trivial⟩, rfl, ⟨supg rfl, supg rfl, supg rfl, trivial⟩, ⟨supg rfl, supg rfl, trivial⟩, trivial, ⟨suph rfl rfl, trivial⟩, rfl, rfl⟩
          done)
      · try simp only [decide_eq_false_iff_not] at hb2
        all_goals (
          refine W_exit ?_
          refine thenQ_e ?_
          refine loopQ_e ?_
          refine blockQ_x ?_
          refine thenQ_n ?_
          refine W_seq ?_
          obtain rfl : k = (b - a).toNat := by omega
          obtain rfl : j = (a - b).toNat := by omega
          have hll := chgB_len a b
          have hjl : (chg (b - a).toNat false ++ chg (a - b).toNat true).length ≤ 40 := by rw [List.length_append, chg_len, chg_len]; omega
          have hvl := val_lt40 hjl
          have hnv := num_val (chgB a b)
          have hvo : val (chgB a b) = 2 * val (chg (b - a).toNat false ++ chg (a - b).toNat true) := val_one _
          refine W_regionE (c := 10) (c' := 21) (by kernel_rfl) rfl ?_
          refine Runs_p rfl (Valid.build [] [(Value.string ⟨#[]⟩), (Value.int .i64 0)] rfl rfl (fun _ => by kernel_rfl)) rfl rfl ?_ -- delta.go:49 build
          refine Runs_p rfl (Valid.movek (A := Is _) rfl rfl) rfl rfl ?_ -- delta.go:49 move
          refine Runs_p rfl (Valid.shlw rfl rfl rfl (by first | omega | (simp only [Int.toNat_natCast, toNat_add, toNat_add1, List.length_append, List.length_cons, List.length_nil, List.length_replicate]; omega))) rfl rfl ?_ -- delta.go:49 binOp
          refine Runs_p rfl (Valid.movek (A := Is _) rfl rfl) rfl rfl ?_ -- delta.go:49 move
          refine Runs_p rfl (Valid.call rfl (put_f [] 0 _ _ (val (chgB a b)) (chgB a b).length rfl (by rw [sh_1 hvl, hvo]) (by omega) (by omega) (by omega) (by decide)) ⟨argle rfl, argle rfl, argle rfl, trivial⟩) rfl rfl ?_ -- delta.go:49 call
          refine Runs_p rfl (Valid.movek (A := Tup [Agg [Is _, Is _], Is _]) rfl rfl) rfl rfl ?_ -- delta.go:49 move
          refine Runs_p rfl (Valid.extract _ rfl rfl rfl) rfl rfl ?_ -- delta.go:49 extract
          refine Runs_p rfl (Valid.extract _ rfl rfl rfl) rfl rfl ?_ -- delta.go:49 extract
          refine Runs_w rfl (Valid.alloc [(Value.string ⟨#[]⟩), (Value.int .i64 0)] rfl zv27 rfl) rfl rfl ?_ -- delta.go:49 alloc
          refine Runs_op rfl (Valid.storeagg (l := [_, _]) rfl sz27 rfl rfl (Nat.le_of_ble_eq_true rfl) rfl ⟨(One.is rfl rfl rfl), (One.is rfl rfl rfl), trivial⟩) rfl ?_ -- delta.go:49 store
          refine Runs_p rfl (Valid.assignk (A := Is _) rfl rfl) rfl rfl ?_ -- delta.go:49 assign
          refine Runs_nil ?_
          refine thenQ_n ?_
          refine W_seq ?_
          refine W_regionE (c := 21) (c' := 23) (by kernel_rfl) rfl ?_
          refine Runs_p rfl (Valid.loadagg rfl ag27 sz27 rfl rfl (Nat.le_of_ble_eq_true rfl)) rfl rfl ?_ -- delta.go:50 load
          refine Runs_op rfl (Valid.storeagg (l := [_, _]) rfl sz27 rfl rfl (Nat.le_of_ble_eq_true rfl) rfl ⟨(One.is rfl rfl rfl), (One.is rfl rfl rfl), trivial⟩) rfl ?_ -- delta.go:50 store
          refine Runs_nil ?_
          refine thenQ_n ?_
          refine W_ret ?_
          refine finQ_r ?_
          refine ResOk.one rfl (RVal.cellagg ag27 sz27 rfl rfl (Nat.le_of_ble_eq_true rfl) (argle (by first | rfl | (rw [List.nil_append, hnv]; done) | (rw [List.nil_append, hnv]; rfl))))
          done)
      done)

/-- the bits of the first length, and of each change, as far as k -/
def dps (l : List Int) (k : Nat) : List (List Bool) := num (l.getD 0 0).toNat 5 :: (List.range k).map fun i => chgB (l.getD (i - 1) 0) (l.getD i 0)
theorem dps_len (l : List Int) (k : Nat) : (dps l k).length = k + 1 := by simp [dps]
theorem dps_s (l : List Int) (k : Nat) : dps l (k + 1) = dps l k ++ [chgB (l.getD (k - 1) 0) (l.getD k 0)] := by
  unfold dps; rw [List.range_succ, List.map_append]; rfl
def dB (l : List Int) : List Bool := (dps l l.length).flatten
theorem dps_flat {l : List Int} : ∀ k, (∀ j, j < k → Da.good (l.getD j 0)) → (dps l k).flatten.length ≤ 5 + 39 * k
  | 0, _ => by simp [dps, num_len]
  | k + 1, h => by
    have ih := dps_flat (l := l) k (fun j hj => h j (by omega))
    have h1 : 1 ≤ l.getD k 0 ∧ l.getD k 0 ≤ 20 := h k (by omega)
    have h2 : 1 ≤ l.getD (k - 1) 0 ∧ l.getD (k - 1) 0 ≤ 20 := h (k - 1) (by omega)
    rw [dps_s, List.flatten_append, List.length_append]
    simp only [List.flatten_cons, List.flatten_nil, List.append_nil, chgB_len]
    omega
theorem dps_c (l : List Int) (k : Nat) : pcells ((dps l k).map both) ++ pcells [(pack (chgB (l.getD (k - 1) 0) (l.getD k 0)), ((chgB (l.getD (k - 1) 0) (l.getD k 0)).length : Int))] = pcells ((dps l (k + 1)).map both) := by
  rw [dps_s, List.map_append, pcells_app]; rfl
def putD (l : List Int) : (ByteArray × Int) × Int := if l.length < 2 ∨ 258 < l.length then ((ByteArray.empty, 0), 1) else if ∀ x ∈ l, Da.good x then ((pack (dB l), ((dB l).length : Int)), 0) else ((ByteArray.empty, 0), 1)
theorem getD_mem' {l : List Int} {k : Nat} (h : k < l.length) : l.getD k 0 ∈ l := by
  rw [List.getD_eq_getElem?_getD, List.getElem?_eq_getElem h]; exact List.getElem_mem h
theorem pd_1 {l : List Int} (h : l.length < 2 ∨ 258 < l.length) : putD l = ((ByteArray.empty, 0), 1) := by rw [putD, if_pos h]
theorem pd_2 {l : List Int} {k : Nat} (hk : k < l.length) (hx : ¬ Da.good (l.getD k 0)) : putD l = ((ByteArray.empty, 0), 1) := by
  rw [putD]; split
  · rfl
  · rw [if_neg (fun h2 => hx (h2 _ (getD_mem' hk)))]
theorem all_at {l : List Int} (hx : ∀ j, j < l.length → Da.good (l.getD j 0)) : ∀ x ∈ l, Da.good x := fun x hx2 => by
  obtain ⟨j, hj, rfl⟩ := List.mem_iff_getElem.1 hx2
  have := hx j hj
  rwa [List.getD_eq_getElem?_getD, List.getElem?_eq_getElem hj] at this
theorem pd_0 {l : List Int} (h : ¬ (l.length < 2 ∨ 258 < l.length)) (hx : ∀ j, j < l.length → Da.good (l.getD j 0)) : putD l = ((pack (dps l l.length).flatten, ((dps l l.length).flatten.length : Int)), 0) := by
  rw [putD, if_neg h, if_pos (all_at hx)]; rfl
theorem one_pc (l : List (ByteArray × Int)) : ∀ u ∈ pcells l, u.oneCell' = true := fun u hu => by
  obtain ⟨p, _, hp⟩ := List.mem_flatMap.1 hu
  simp at hp
  rcases hp with rfl | rfl <;> rfl

set_option maxRecDepth 100000 in
set_option maxHeartbeats 1000000 in
theorem put_s (l : List Int) (hl : l.length ≤ 9223372036854775807) :
    FPure Try.prog 11 [Sl 1 l.length (l.map (Value.int .i64))] (Tup [Agg [Is (.string (putD l).1.1), Is (.int .i64 (putD l).1.2)], Is (.int .i64 (putD l).2)]) := by
  refine FPure.of Try.func11 Try.ntmps11 rfl (by kernel_rfl) rfl rfl rfl ?_
  refine W_seq ?_
  refine W_regionE (c := 1) (c' := 3) (by kernel_rfl) rfl ?_
  refine Runs_w rfl (Valid.alloc [(Value.string ⟨#[]⟩), (Value.int .i64 0)] rfl zv27 rfl) rfl rfl ?_ -- delta.go:18 alloc
  refine Runs_p rfl (Valid.assignk (A := Is _) rfl rfl) rfl rfl ?_ -- delta.go:18 assign
  refine Runs_nil ?_
  refine thenQ_n ?_
  refine W_seq ?_
  refine W_seq ?_
  refine W_regionE (c := 3) (c' := 11) (by kernel_rfl) rfl ?_
  refine Runs_p rfl (Valid.movek (A := Sl 1 _ _) rfl rfl) rfl rfl ?_ -- delta.go:19 move
  refine Runs_p rfl (Valid.len rfl Try.underlying22 (Reads.sl rfl)) rfl rfl ?_ -- delta.go:19 call
  refine Runs_p rfl (Valid.lss rfl rfl rfl) rfl rfl ?_ -- delta.go:19 binOp
  refine Runs_p rfl (Valid.movek (A := Is _) rfl rfl) rfl rfl ?_ -- delta.go:19 move
  refine Runs_cnd rfl rfl (Grd.is rfl) [] (fun hg => trivial) (fun hg => Valid.movek (A := Sl 1 _ _) rfl rfl) (by rfl) rfl ?_
  refine Runs_cnd rfl rfl (Grd.is rfl) [(16, _)] (fun hg => ⟨cnd_at rfl (by first | exact hg | exact hg.1 | exact hg.1.1 | exact hg.1.1.1), trivial⟩) (fun hg => Valid.len rfl Try.underlying22 (Reads.sl rfl)) (by rfl) rfl ?_
  refine Runs_cnd rfl rfl (Grd.is rfl) [(17, _)] (fun hg => ⟨cnd_at rfl (by first | exact hg | exact hg.1 | exact hg.1.1 | exact hg.1.1.1), trivial⟩) (fun hg => Valid.gtr rfl rfl rfl) (by rfl) rfl ?_
  refine Runs_p rfl (Valid.pickor rfl rfl rfl rfl (fun h => by first | exact h | exact ⟨hg, h⟩)) rfl rfl ?_ -- delta.go:19 pick
  refine Runs_nil ?_
  refine thenQ_n ?_
  refine W_cond _ rfl (fun hb1 => ?_) (fun hb1 => ?_)
  · try simp only [decide_eq_true_eq, Bool.or_eq_true] at hb1
    all_goals (
      refine W_seq ?_
      refine W_regionE (c := 11) (c' := 14) (by kernel_rfl) rfl ?_
      refine Runs_p rfl (Valid.build [] [(Value.string ⟨#[]⟩), (Value.int .i64 0)] rfl rfl (fun _ => by kernel_rfl)) rfl rfl ?_ -- delta.go:20 build
      refine Runs_op rfl (Valid.storeagg (l := [_, _]) rfl sz27 rfl rfl (Nat.le_of_ble_eq_true rfl) rfl ⟨(One.is rfl rfl rfl), (One.is rfl rfl rfl), trivial⟩) rfl ?_ -- delta.go:20 store
      refine Runs_p rfl (Valid.assignk (A := Is _) rfl rfl) rfl rfl ?_ -- delta.go:20 assign
      refine Runs_nil ?_
      refine thenQ_n ?_
      refine W_ret ?_
      refine thenQ_r ?_
      refine finQ_r ?_
      refine ResOk.two rfl (RVal.cellagg ag27 sz27 rfl rfl (Nat.le_of_ble_eq_true rfl) (argle (by first | (rw [pd_1 (by omega)]; done) | (rw [pd_1 (by omega)]; rfl) | (have h5 := pd_2 (l := l) (k := k) (by omega) (by first | assumption | (simpa using hb3)); rw [h5]; done) | (have h5 := pd_2 (l := l) (k := k) (by omega) (by first | assumption | (simpa using hb3)); rw [h5]; rfl) | (have h0 := pd_0 (by omega) hal; rw [h0]; done) | (have h0 := pd_0 (by omega) hal; rw [h0]; rfl)))) (RVal.is rfl rfl (by first | (rw [pd_1 (by omega)]; done) | (rw [pd_1 (by omega)]; rfl) | (have h5 := pd_2 (l := l) (k := k) (by omega) (by first | assumption | (simpa using hb3)); rw [h5]; done) | (have h5 := pd_2 (l := l) (k := k) (by omega) (by first | assumption | (simpa using hb3)); rw [h5]; rfl) | (have h0 := pd_0 (by omega) hal; rw [h0]; done) | (have h0 := pd_0 (by omega) hal; rw [h0]; rfl)))
      done)
  · try simp only [decide_eq_false_iff_not, Bool.or_eq_false_iff] at hb1
    all_goals (
      refine W_skip ?_
      refine thenQ_n ?_
      refine W_seq ?_
      refine W_seq ?_
      refine W_regionE (c := 11) (c' := 14) (by kernel_rfl) rfl ?_
      refine Runs_p rfl (Valid.movek (A := Sl 1 _ _) rfl rfl) rfl rfl ?_ -- delta.go:22 move
      refine Runs_p rfl (Valid.len rfl Try.underlying22 (Reads.sl rfl)) rfl rfl ?_ -- delta.go:22 call
      refine Runs_p rfl (Valid.movek (A := Is _) rfl rfl) rfl rfl ?_ -- delta.go:22 move
      refine Runs_nil ?_
      refine thenQ_n ?_
      refine W_block ?_
      refine W_loopx (G := Nat) (fun (k : Nat) => k ≤ l.length ∧ ∀ j, j < k → Da.good (l.getD j 0)) [(0, Sl 1 _ _), (2, Ptr 8 0), (21, Sl 1 _ _), (22, Is _)] (fun (k : Nat) => [(23, Is (.int .i64 (k : Int)))]) [(8, .var 27 [Is _, Is _])] (fun (k : Nat) => []) 14 (fun (k : Nat) => l.length - k) (0) [] (⟨by omega, fun j hj => by omega⟩) ⟨⟨(leq_is rfl rfl (by first | rfl | (simp; done) | omega | (simp [toNat_add, toNat_add1, Nat.add_assoc]; done) | (simp [toNat_add, toNat_add1]; omega))), trivial⟩, ⟨(leq_sl (Reads.sl rfl) rfl rfl rfl), (leq_ptr rfl rfl rfl), (leq_sl (Reads.sl rfl) rfl rfl rfl), (leq_is rfl rfl rfl), trivial⟩, trivial, ⟨hp_var rfl ⟨(leq_is rfl rfl rfl), (leq_is rfl rfl rfl), trivial⟩, trivial⟩, rfl, ⟨supg rfl, trivial⟩, ⟨supg rfl, supg rfl, supg rfl, supg rfl, trivial⟩, trivial, ⟨suph rfl rfl, trivial⟩, rfl, rfl⟩ ?_
      intro k hI1
      obtain ⟨hk1, hk2⟩ := hI1
      refine W_seq ?_
      refine W_regionE (c := 14) (c' := 15) (by kernel_rfl) rfl ?_
      refine Runs_p rfl (Valid.lss rfl rfl rfl) rfl rfl ?_ -- delta.go:22 binOp
      refine Runs_nil ?_
      refine thenQ_n ?_
      refine W_seq ?_
      refine W_cond _ rfl (fun hb2 => ?_) (fun hb2 => ?_)
      · try simp only [decide_eq_true_eq] at hb2
        all_goals (
          refine W_skip ?_
          refine thenQ_n ?_
          refine W_seq ?_
          refine W_block ?_
          refine W_seq ?_
          refine W_regionE (c := 15) (c' := 18) (by kernel_rfl) rfl ?_
          refine Runs_p rfl (Valid.eltaddr1 0 rfl Try.underlying22 sz3 (Reads.sl rfl) rfl (by first | omega | (simp only [Int.toNat_natCast, toNat_add, toNat_add1, List.length_append, List.length_cons, List.length_nil, List.length_replicate]; omega)) (by first | rfl | simp)) rfl rfl ?_ -- delta.go:22 indexAddr
          refine Runs_p rfl (Valid.loadelt rfl ag3 rfl) rfl rfl ?_ -- delta.go:22 load
          refine Runs_p rfl (Valid.assignk (A := Is _) rfl rfl) rfl rfl ?_ -- delta.go:22 assign
          refine Runs_nil ?_
          refine thenQ_n ?_
          refine W_seq ?_
          refine W_regionE (c := 18) (c' := 21) (by kernel_rfl) rfl ?_
          refine Runs_p rfl (Valid.movek (A := Is _) rfl rfl) rfl rfl ?_ -- delta.go:23 move
          refine Runs_p rfl (Valid.call rfl (may_s _) ⟨argle rfl, trivial⟩) rfl rfl ?_ -- delta.go:23 call
          refine Runs_p rfl (Valid.not rfl rfl) rfl rfl ?_ -- delta.go:23 unOp
          refine Runs_nil ?_
          refine thenQ_n ?_
          refine W_cond _ rfl (fun hb3 => ?_) (fun hb3 => ?_)
          · try simp only [Int.toNat_natCast, decide_eq_false_iff_not, Bool.not_eq_true'] at hb3
            all_goals (
              refine W_seq ?_
              refine W_regionE (c := 21) (c' := 24) (by kernel_rfl) rfl ?_
              refine Runs_p rfl (Valid.build [] [(Value.string ⟨#[]⟩), (Value.int .i64 0)] rfl rfl (fun _ => by kernel_rfl)) rfl rfl ?_ -- delta.go:24 build
              refine Runs_op rfl (Valid.storeagg (l := [_, _]) rfl sz27 rfl rfl (Nat.le_of_ble_eq_true rfl) rfl ⟨(One.is rfl rfl rfl), (One.is rfl rfl rfl), trivial⟩) rfl ?_ -- delta.go:24 store
              refine Runs_p rfl (Valid.assignk (A := Is _) rfl rfl) rfl rfl ?_ -- delta.go:24 assign
              refine Runs_nil ?_
              refine thenQ_n ?_
              refine W_ret ?_
              refine blockQ_r ?_
              refine thenQ_r ?_
              refine loopQ_r ?_
              refine blockQ_r ?_
              refine thenQ_r ?_
              refine finQ_r ?_
              refine ResOk.two rfl (RVal.cellagg ag27 sz27 rfl rfl (Nat.le_of_ble_eq_true rfl) (argle (by first | (rw [pd_1 (by omega)]; done) | (rw [pd_1 (by omega)]; rfl) | (have h5 := pd_2 (l := l) (k := k) (by omega) (by first | assumption | (simpa using hb3)); rw [h5]; done) | (have h5 := pd_2 (l := l) (k := k) (by omega) (by first | assumption | (simpa using hb3)); rw [h5]; rfl) | (have h0 := pd_0 (by omega) hal; rw [h0]; done) | (have h0 := pd_0 (by omega) hal; rw [h0]; rfl)))) (RVal.is rfl rfl (by first | (rw [pd_1 (by omega)]; done) | (rw [pd_1 (by omega)]; rfl) | (have h5 := pd_2 (l := l) (k := k) (by omega) (by first | assumption | (simpa using hb3)); rw [h5]; done) | (have h5 := pd_2 (l := l) (k := k) (by omega) (by first | assumption | (simpa using hb3)); rw [h5]; rfl) | (have h0 := pd_0 (by omega) hal; rw [h0]; done) | (have h0 := pd_0 (by omega) hal; rw [h0]; rfl)))
              done)
          · try simp only [Int.toNat_natCast, decide_eq_true_eq, Bool.not_eq_false'] at hb3
            all_goals (
              refine W_skip ?_
              refine blockQ_n ?_
              refine thenQ_n ?_
              refine W_regionE (c := 21) (c' := 23) (by kernel_rfl) rfl ?_
              refine Runs_p rfl (Valid.add rfl rfl rfl (room64 (by first | omega | (simp only [Int.toNat_natCast, toNat_add, toNat_add1, List.length_append, List.length_cons, List.length_nil, List.length_replicate]; omega)) (by first | omega | (simp only [Int.toNat_natCast, toNat_add, toNat_add1, List.length_append, List.length_cons, List.length_nil, List.length_replicate]; omega)))) rfl rfl ?_ -- delta.go:22 binOp
              refine Runs_p rfl (Valid.movek (A := Is _) rfl rfl) rfl rfl ?_ -- delta.go:22 move
              refine Runs_nil ?_
              refine LoopQ.next (k + 1) [] (⟨by omega, fun j hj => by by_cases e : j = k; (· subst e; first | assumption | (simpa using hb3)); (· exact hk2 j (by omega))⟩) (by omega) ⟨⟨(leq_is rfl rfl (by first | rfl | (simp; done) | omega | (simp [toNat_add, toNat_add1, Nat.add_assoc]; done) | (simp [toNat_add, toNat_add1]; omega))), trivial⟩, ⟨(leq_sl (Reads.sl rfl) rfl rfl rfl), (leq_ptr rfl rfl rfl), (leq_sl (Reads.sl rfl) rfl rfl rfl), (leq_is rfl rfl rfl), trivial⟩, trivial, ⟨hp_var rfl ⟨(leq_is rfl rfl rfl), (leq_is rfl rfl rfl), trivial⟩, trivial⟩, rfl, ⟨supg rfl, trivial⟩, ⟨supg rfl, supg rfl, supg rfl, supg rfl, trivial⟩, trivial, ⟨suph rfl rfl, trivial⟩, rfl, rfl⟩
              done)
          done)
      · try simp only [decide_eq_false_iff_not] at hb2
        all_goals (
          refine W_exit ?_
          refine thenQ_e ?_
          refine loopQ_e ?_
          refine blockQ_x ?_
          refine thenQ_n ?_
          refine W_seq ?_
          have hal : ∀ j, j < l.length → Da.good (l.getD j 0) := fun j hj => hk2 j (by omega)
          have h0 := hal 0 (by omega)
          have h0g : 1 ≤ l.getD 0 0 ∧ l.getD 0 0 ≤ 20 := h0
          have hz : l.getD (0 : Int).toNat 0 = l.getD 0 0 := rfl
          refine W_regionE (c := 15) (c' := 27) (by kernel_rfl) rfl ?_
          refine Runs_p rfl (Valid.build [] [(Value.string ⟨#[]⟩), (Value.int .i64 0)] rfl rfl (fun _ => by kernel_rfl)) rfl rfl ?_ -- delta.go:27 build
          refine Runs_p rfl (Valid.movek (A := Sl 1 _ _) rfl rfl) rfl rfl ?_ -- delta.go:27 move
          refine Runs_p rfl (Valid.eltaddr1 0 rfl Try.underlying22 sz3 (Reads.sl rfl) rfl (by first | omega | (simp only [Int.toNat_natCast, toNat_add, toNat_add1, List.length_append, List.length_cons, List.length_nil, List.length_replicate]; omega)) (by first | rfl | simp)) rfl rfl ?_ -- delta.go:27 indexAddr
          refine Runs_p rfl (Valid.loadelt rfl ag3 rfl) rfl rfl ?_ -- delta.go:27 load
          refine Runs_p rfl (Valid.convr rfl rfl Try.underlying3 Try.underlying47 (by unfold Room; rw [IntKind.wrap_u64]; omega)) rfl rfl ?_ -- delta.go:27 convert
          refine Runs_p rfl (Valid.call rfl (put_f [] 0 _ 5 (l.getD 0 0).toNat 5 rfl (by omega) rfl (by omega) (by decide) (by decide)) ⟨argle rfl, argle rfl, argle rfl, trivial⟩) rfl rfl ?_ -- delta.go:27 call
          refine Runs_p rfl (Valid.movek (A := Tup [Agg [Is _, Is _], Is _]) rfl rfl) rfl rfl ?_ -- delta.go:27 move
          refine Runs_p rfl (Valid.extract _ rfl rfl rfl) rfl rfl ?_ -- delta.go:27 extract
          refine Runs_p rfl (Valid.extract _ rfl rfl rfl) rfl rfl ?_ -- delta.go:27 extract
          refine Runs_w rfl (Valid.alloc [(Value.string ⟨#[]⟩), (Value.int .i64 0)] rfl zv27 rfl) rfl rfl ?_ -- delta.go:27 alloc
          refine Runs_op rfl (Valid.storeagg (l := [_, _]) rfl sz27 rfl rfl (Nat.le_of_ble_eq_true rfl) rfl ⟨(One.is rfl rfl rfl), (One.is rfl rfl rfl), trivial⟩) rfl ?_ -- delta.go:27 store
          refine Runs_p rfl (Valid.assignk (A := Is _) rfl rfl) rfl rfl ?_ -- delta.go:27 assign
          refine Runs_nil ?_
          refine thenQ_n ?_
          refine W_seq ?_
          refine W_regionE (c := 27) (c' := 30) (by kernel_rfl) rfl ?_
          refine Runs_p rfl (Valid.loadagg rfl ag27 sz27 rfl rfl (Nat.le_of_ble_eq_true rfl)) rfl rfl ?_ -- delta.go:28 load
          refine Runs_w rfl (Valid.litownP (el := 27) [(_, _)] rfl rfl (fun _ => by kernel_rfl) rfl (by decide)) rfl rfl ?_ -- delta.go:28 buildSlice
          refine Runs_p rfl (Valid.assignk (A := Ab.Own 224 2 _ _) rfl rfl) rfl rfl ?_ -- delta.go:28 assign
          refine Runs_nil ?_
          refine thenQ_n ?_
          refine W_seq ?_
          refine W_regionE (c := 30) (c' := 34) (by kernel_rfl) rfl ?_
          refine Runs_p rfl (Valid.movek (A := Sl 1 _ _) rfl rfl) rfl rfl ?_ -- delta.go:29 move
          refine Runs_p rfl (Valid.eltaddr1 0 rfl Try.underlying22 sz3 (Reads.sl rfl) rfl (by first | omega | (simp only [Int.toNat_natCast, toNat_add, toNat_add1, List.length_append, List.length_cons, List.length_nil, List.length_replicate]; omega)) (by first | rfl | simp)) rfl rfl ?_ -- delta.go:29 indexAddr
          refine Runs_p rfl (Valid.loadelt rfl ag3 rfl) rfl rfl ?_ -- delta.go:29 load
          refine Runs_p rfl (Valid.assignk (A := Is _) rfl rfl) rfl rfl ?_ -- delta.go:29 assign
          refine Runs_nil ?_
          refine thenQ_n ?_
          refine W_seq ?_
          refine W_seq ?_
          refine W_regionE (c := 34) (c' := 37) (by kernel_rfl) rfl ?_
          refine Runs_p rfl (Valid.movek (A := Sl 1 _ _) rfl rfl) rfl rfl ?_ -- delta.go:30 move
          refine Runs_p rfl (Valid.len rfl Try.underlying22 (Reads.sl rfl)) rfl rfl ?_ -- delta.go:30 call
          refine Runs_p rfl (Valid.movek (A := Is _) rfl rfl) rfl rfl ?_ -- delta.go:30 move
          refine Runs_nil ?_
          refine thenQ_n ?_
          refine W_block ?_
          refine W_loopx (G := Nat) (fun (i : Nat) => i ≤ l.length) [(2, Ptr 8 0), (46, Sl 1 _ _), (47, Is _)] (fun (i : Nat) => [(48, Is (.int .i64 (i : Int))), (9, Is (.int .i64 (l.getD (i - 1) 0))), (8, Ab.Own 224 2 (i + 1) (pcells ((dps l i).map both)))]) [(8, .var 27 [Is _, Is _])] (fun (i : Nat) => [(224, .row 27 2 (i + 1) (pcells ((dps l i).map both)))]) 37 (fun (i : Nat) => l.length - i) (0) [] (by omega) ⟨⟨(leq_is rfl rfl (by first | rfl)), (leq_is rfl rfl (by first | rfl)), (leq_own rfl rfl rfl (by first | rfl) (by first | rfl)), trivial⟩, ⟨(leq_ptr rfl rfl rfl), (leq_sl (Reads.sl rfl) rfl rfl rfl), (leq_is rfl rfl rfl), trivial⟩, ⟨hp_row rfl (by first | rfl) (by first | rfl), trivial⟩, ⟨hp_var rfl ⟨(leq_is rfl rfl rfl), (leq_is rfl rfl rfl), trivial⟩, trivial⟩, rfl, ⟨supg rfl, supg rfl, supg rfl, trivial⟩, ⟨supg rfl, supg rfl, supg rfl, trivial⟩, ⟨suph rfl rfl, trivial⟩, ⟨suph rfl rfl, trivial⟩, rfl, rfl⟩ ?_
          intro i hI2
          refine W_seq ?_
          refine W_regionE (c := 37) (c' := 38) (by kernel_rfl) rfl ?_
          refine Runs_p rfl (Valid.lss rfl rfl rfl) rfl rfl ?_ -- delta.go:30 binOp
          refine Runs_nil ?_
          refine thenQ_n ?_
          refine W_seq ?_
          refine W_cond _ rfl (fun hb4 => ?_) (fun hb4 => ?_)
          · try simp only [decide_eq_true_eq] at hb4
            all_goals (
              refine W_skip ?_
              refine thenQ_n ?_
              refine W_seq ?_
              refine W_block ?_
              refine W_seq ?_
              refine W_regionE (c := 38) (c' := 41) (by kernel_rfl) rfl ?_
              refine Runs_p rfl (Valid.eltaddr1 0 rfl Try.underlying22 sz3 (Reads.sl rfl) rfl (by first | omega | (simp only [Int.toNat_natCast, toNat_add, toNat_add1, List.length_append, List.length_cons, List.length_nil, List.length_replicate]; omega)) (by first | rfl | simp)) rfl rfl ?_ -- delta.go:30 indexAddr
              refine Runs_p rfl (Valid.loadelt rfl ag3 rfl) rfl rfl ?_ -- delta.go:30 load
              refine Runs_p rfl (Valid.assignk (A := Is _) rfl rfl) rfl rfl ?_ -- delta.go:30 assign
              refine Runs_nil ?_
              refine thenQ_n ?_
              refine W_seq ?_
              have hgk := hal i (by omega)
              have hgp := hal (i - 1) (by omega)
              have hfl := dps_flat (l := l) i (fun j hj => hal j (by omega))
              refine W_regionE (c := 41) (c' := 48) (by kernel_rfl) rfl ?_
              refine Runs_p rfl (Valid.movek (A := Ab.Own 224 2 _ _) rfl rfl) rfl rfl ?_ -- delta.go:31 move
              refine Runs_p rfl (Valid.movek (A := Is _) rfl rfl) rfl rfl ?_ -- delta.go:31 move
              refine Runs_p rfl (Valid.movek (A := Is _) rfl rfl) rfl rfl ?_ -- delta.go:31 move
              refine Runs_p rfl (Valid.call rfl (change_s _ _ hgp hgk) ⟨argle rfl, argle rfl, trivial⟩) rfl rfl ?_ -- delta.go:31 call
              refine Runs_p rfl (Valid.litP (el := 27) [(_, _)] rfl rfl (fun _ => by kernel_rfl) rfl (by decide)) rfl rfl ?_ -- delta.go:31 buildSlice
              refine Runs_w rfl (Valid.app rfl Try.underlying48 ti27 (by decide) rfl rfl (Reads.sl rfl) (one_pc _) (by first | (simp only [maxLen]; omega) | (simp only [maxLen, Int.toNat_natCast, toNat_add, toNat_add1, List.length_append, List.length_cons, List.length_nil, List.length_replicate]; omega)) (by first | omega | (simp only [Int.toNat_natCast, toNat_add, toNat_add1, List.length_append, List.length_cons, List.length_nil, List.length_replicate]; omega))) rfl rfl ?_ -- delta.go:31 call
              refine Runs_p rfl (Valid.assignk (A := Ab.Own 368 2 _ _) rfl rfl) rfl rfl ?_ -- delta.go:31 assign
              refine Runs_nil ?_
              refine thenQ_n ?_
              refine W_regionE (c := 48) (c' := 50) (by kernel_rfl) rfl ?_
              refine Runs_p rfl (Valid.movek (A := Is _) rfl rfl) rfl rfl ?_ -- delta.go:32 move
              refine Runs_p rfl (Valid.assignk (A := Is _) rfl rfl) rfl rfl ?_ -- delta.go:32 assign
              refine Runs_nil ?_
              refine blockQ_n ?_
              refine thenQ_n ?_
              refine W_regionE (c := 50) (c' := 52) (by kernel_rfl) rfl ?_
              refine Runs_p rfl (Valid.add rfl rfl rfl (room64 (by first | omega | (simp only [Int.toNat_natCast, toNat_add, toNat_add1, List.length_append, List.length_cons, List.length_nil, List.length_replicate]; omega)) (by first | omega | (simp only [Int.toNat_natCast, toNat_add, toNat_add1, List.length_append, List.length_cons, List.length_nil, List.length_replicate]; omega)))) rfl rfl ?_ -- delta.go:30 binOp
              refine Runs_p rfl (Valid.movek (A := Is _) rfl rfl) rfl rfl ?_ -- delta.go:30 move
              refine Runs_nil ?_
              refine LoopQ.next (i + 1) [(224, 368)] (by omega) (by omega) ⟨⟨(leq_is rfl rfl (by first | rfl | exact dps_c _ _)), (leq_is rfl rfl (by first | rfl | exact dps_c _ _)), (leq_own rfl rfl rfl (by first | rfl | exact dps_c _ _) (by first | rfl | exact dps_c _ _)), trivial⟩, ⟨(leq_ptr rfl rfl rfl), (leq_sl (Reads.sl rfl) rfl rfl rfl), (leq_is rfl rfl rfl), trivial⟩, ⟨hp_row rfl (by first | rfl | exact dps_c _ _) (by first | rfl | exact dps_c _ _), trivial⟩, ⟨hp_var rfl ⟨(leq_is rfl rfl rfl), (leq_is rfl rfl rfl), trivial⟩, trivial⟩, rfl, ⟨supg rfl, supg rfl, supg rfl, trivial⟩, ⟨supg rfl, supg rfl, supg rfl, trivial⟩, ⟨suph rfl rfl, trivial⟩, ⟨suph rfl rfl, trivial⟩, rfl, rfl⟩
              done)
          · try simp only [decide_eq_false_iff_not] at hb4
            all_goals (
              refine W_exit ?_
              refine thenQ_e ?_
              refine loopQ_e ?_
              refine blockQ_x ?_
              refine thenQ_n ?_
              refine W_seq ?_
              obtain rfl : i = l.length := by omega
              refine W_regionE (c := 38) (c' := 44) (by kernel_rfl) rfl ?_
              refine Runs_p rfl (Valid.movek (A := Ab.Own 224 2 _ _) rfl rfl) rfl rfl ?_ -- delta.go:34 move
              refine Runs_p rfl (Valid.call rfl (cat_f (dps l l.length) _ _ (dps_len _ _).symm rfl (by have := dps_flat (l := l) l.length hal; omega)) ⟨argle_sl (Reads.own rfl), trivial⟩) rfl rfl ?_ -- delta.go:34 call
              refine Runs_p rfl (Valid.extract _ rfl rfl rfl) rfl rfl ?_ -- delta.go:34 extract
              refine Runs_p rfl (Valid.extract _ rfl rfl rfl) rfl rfl ?_ -- delta.go:34 extract
              refine Runs_op rfl (Valid.storeagg (l := [_, _]) rfl sz27 rfl rfl (Nat.le_of_ble_eq_true rfl) rfl ⟨(One.is rfl rfl rfl), (One.is rfl rfl rfl), trivial⟩) rfl ?_ -- delta.go:34 store
              refine Runs_p rfl (Valid.assignk (A := Is _) rfl rfl) rfl rfl ?_ -- delta.go:34 assign
              refine Runs_nil ?_
              refine thenQ_n ?_
              refine W_ret ?_
              refine finQ_r ?_
              refine ResOk.two rfl (RVal.cellagg ag27 sz27 rfl rfl (Nat.le_of_ble_eq_true rfl) (argle (by first | (rw [pd_1 (by omega)]; done) | (rw [pd_1 (by omega)]; rfl) | (have h5 := pd_2 (l := l) (k := k) (by omega) (by first | assumption | (simpa using hb3)); rw [h5]; done) | (have h5 := pd_2 (l := l) (k := k) (by omega) (by first | assumption | (simpa using hb3)); rw [h5]; rfl) | (have h0 := pd_0 (by omega) hal; rw [h0]; done) | (have h0 := pd_0 (by omega) hal; rw [h0]; rfl)))) (RVal.is rfl rfl (by first | (rw [pd_1 (by omega)]; done) | (rw [pd_1 (by omega)]; rfl) | (have h5 := pd_2 (l := l) (k := k) (by omega) (by first | assumption | (simpa using hb3)); rw [h5]; done) | (have h5 := pd_2 (l := l) (k := k) (by omega) (by first | assumption | (simpa using hb3)); rw [h5]; rfl) | (have h0 := pd_0 (by omega) hal; rw [h0]; done) | (have h0 := pd_0 (by omega) hal; rw [h0]; rfl)))
              done)
          done)
      done)
end De
end Go.Proofs.Ytbfigolloaeknaa
