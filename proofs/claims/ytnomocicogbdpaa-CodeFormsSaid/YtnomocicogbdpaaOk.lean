/-
  WALKS of stage 8: the reference: symbols as bits, the symbol that stands somewhere.
-/
import Derived.Test.YtnomocicogbdpaaRows
import Derived.Test.YtnomocicogbdpaaOa
import Derived.Test.YtnomocicogbdpaaOb
import Derived.Test.YtnomocicogbdpaaOc
import Derived.Test.YtnomocicogbdpaaOd
import Derived.Test.YtnomocicogbdpaaOe
import Derived.Test.YtnomocicogbdpaaOf
import Derived.Test.YtnomocicogbdpaaOg
import Derived.Test.YtnomocicogbdpaaOh
import Derived.Test.YtnomocicogbdpaaOi
import Derived.Test.YtnomocicogbdpaaOj
import Derived.Test.YtnomocicogbdpaaOm
import Derived.Test.YtnomocicogbdpaaCa
import Derived.Test.YtnomocicogbdpaaMha
namespace Go.Proofs.Ytnomocicogbdpaa
open Go.RowKit
namespace Ok
open Ab Bm Bt Om Oa Ob Oc Od Oe Of Og Oh Oi Oj Om Ca Bb
theorem ag3 (w : World) : (isAgg 3).run Try.prog w = .ok false w := by kernel_rfl
theorem ag32 (w : World) : (isAgg 32).run Try.prog w = .ok false w := by kernel_rfl
theorem ag37 (w : World) : (isAgg 37).run Try.prog w = .ok true w := by kernel_rfl
theorem sz3 (w : World) : (sizeOf 3).run Try.prog w = .ok 1 w := by kernel_rfl
theorem sz34 (w : World) : (sizeOf 34).run Try.prog w = .ok 2 w := by kernel_rfl
theorem sz37 (w : World) : (sizeOf 37).run Try.prog w = .ok 2 w := by kernel_rfl
theorem ti3 : TI Try.prog 3 1 8 := .mk' (z := (Value.int .i64 0)) (by kernel_rfl) rfl
theorem zv37 (w : World) : (zeroValue 37).run Try.prog w = .ok (.agg #[(Value.string ⟨#[]⟩), (Value.int .i64 0)]) w := by kernel_rfl
theorem bit_val (u : UInt8) (j : Nat) (h : j ≤ 7) : Int.fdiv (u.toNat : Int) (2 ^ min j 64) % 2 = (((u.toNat.testBit j).toNat : Nat) : Int) := by
  rw [show min j 64 = j by omega]
  have h1 : ((2 : Int) ^ j) = ((2 ^ j : Nat) : Int) := by simp
  rw [h1, Int.fdiv_eq_ediv_of_nonneg _ (Int.natCast_nonneg _), ← Int.natCast_ediv, Nat.testBit_eq_decide_div_mod_eq]
  generalize u.toNat / 2 ^ j = q
  by_cases h2 : q % 2 = 1
  · rw [decide_eq_true h2]; show (q : Int) % 2 = 1; omega
  · rw [decide_eq_false h2]; show (q : Int) % 2 = 0; omega
theorem bit_at (s : ByteArray) (a : Int) (h0 : 0 ≤ a) : Int.fdiv ((bat s (a / 8)).toNat : Int) (2 ^ min (7 - a % 8).toNat (IntKind.i64.bits)) % 2 = (((Bm.bit s.data.toList a.toNat).toNat : Nat) : Int) := by
  have := bit_val (bat s (a / 8)) (7 - a % 8).toNat (by omega)
  rw [show IntKind.i64.bits = 64 from rfl, this]
  unfold Bm.bit bitAt bat
  rw [show (a / 8).toNat = a.toNat / 8 by omega, show (7 - a % 8).toNat = 7 - a.toNat % 8 by omega]

set_option maxRecDepth 100000 in
set_option maxHeartbeats 1000000 in
theorem bit_s (s : ByteArray) (a : Int) (h0 : 0 ≤ a) (h : a < 8 * s.size) (hs : s.size ≤ 1000000000000) :
    FPure Try.prog 49 [Is (.string s), Is (.int .i64 a)] (Is (.int .i64 ((Bm.bit s.data.toList a.toNat).toNat : Int))) := by
  refine FPure.of Try.func49 Try.ntmps49 rfl (by kernel_rfl) rfl rfl rfl ?_
  refine W_seq ?_
  refine W_regionE (c := 1) (c' := 2) (by kernel_rfl) rfl ?_
  refine Runs_p rfl (Valid.assignk (A := Is _) rfl rfl) rfl rfl ?_ -- ref.go:9 assign
  refine Runs_nil ?_
  refine thenQ_n ?_
  refine W_seq ?_
  refine W_regionE (c := 2) (c' := 13) (by kernel_rfl) rfl ?_
  refine Runs_p rfl (Valid.movek (A := Is _) rfl rfl) rfl rfl ?_ -- ref.go:9 move
  refine Runs_p rfl (Valid.movek (A := Is _) rfl rfl) rfl rfl ?_ -- ref.go:9 move
  refine Runs_p rfl (Valid.quo rfl rfl rfl (by first | omega | (simp only [Int.toNat_natCast, toNat_add, toNat_add1, List.length_append, List.length_cons, List.length_nil, List.length_replicate]; omega)) (by first | omega | (simp only [Int.toNat_natCast, toNat_add, toNat_add1, List.length_append, List.length_cons, List.length_nil, List.length_replicate]; omega)) (room64 (by first | omega | (simp only [Int.toNat_natCast, toNat_add, toNat_add1, List.length_append, List.length_cons, List.length_nil, List.length_replicate]; omega)) (by first | omega | (simp only [Int.toNat_natCast, toNat_add, toNat_add1, List.length_append, List.length_cons, List.length_nil, List.length_replicate]; omega)))) rfl rfl ?_ -- ref.go:9 binOp
  refine Runs_p rfl (Valid.sindex rfl Try.underlying9 rfl rfl (by first | omega | (simp only [Int.toNat_natCast, toNat_add, toNat_add1, List.length_append, List.length_cons, List.length_nil, List.length_replicate]; omega))) rfl rfl ?_ -- ref.go:9 index
  refine Runs_p rfl (Valid.convr rfl rfl Try.underlying5 Try.underlying3 (room64 (by first | omega | (have hbb := (bat s (a / 8)).toNat_lt; omega)) (by first | omega | (have hbb := (bat s (a / 8)).toNat_lt; omega)))) rfl rfl ?_ -- ref.go:9 convert
  refine Runs_p rfl (Valid.movek (A := Is _) rfl rfl) rfl rfl ?_ -- ref.go:9 move
  refine Runs_p rfl (Valid.rem rfl rfl rfl (by first | omega | exact Int.fdiv_nonneg (by omega) (Int.le_of_lt (Int.pow_pos (by omega)))) (by first | omega | exact Int.fdiv_nonneg (by omega) (Int.le_of_lt (Int.pow_pos (by omega))))) rfl rfl ?_ -- ref.go:9 binOp
  refine Runs_p rfl (Valid.sub rfl rfl rfl (room64 (by first | omega | (simp only [Int.toNat_natCast, toNat_add, toNat_add1, List.length_append, List.length_cons, List.length_nil, List.length_replicate]; omega)) (by first | omega | (simp only [Int.toNat_natCast, toNat_add, toNat_add1, List.length_append, List.length_cons, List.length_nil, List.length_replicate]; omega)))) rfl rfl ?_ -- ref.go:9 binOp
  refine Runs_p rfl (Valid.shrw rfl rfl rfl (by first | omega | (simp only [Int.toNat_natCast, toNat_add, toNat_add1, List.length_append, List.length_cons, List.length_nil, List.length_replicate]; omega))) rfl rfl ?_ -- ref.go:9 binOp
  refine Runs_p rfl (Valid.rem rfl rfl rfl (by first | omega | exact Int.fdiv_nonneg (by omega) (Int.le_of_lt (Int.pow_pos (by omega)))) (by first | omega | exact Int.fdiv_nonneg (by omega) (Int.le_of_lt (Int.pow_pos (by omega))))) rfl rfl ?_ -- ref.go:9 binOp
  refine Runs_p rfl (Valid.assignk (A := Is _) rfl rfl) rfl rfl ?_ -- ref.go:9 assign
  refine Runs_nil ?_
  refine thenQ_n ?_
  refine W_ret ?_
  refine finQ_r ?_
  refine ResOk.one rfl (RVal.is rfl rfl (by rw [bit_at s a h0]))

theorem get_step (s : ByteArray) (a k : Nat) (hk : k < 64) : IntKind.u64.wrap (IntKind.u64.wrap (2 * ((val (bitsAt s.data.toList a k) : Nat) : Int)) + (((Bm.bit s.data.toList (a + k)).toNat : Nat) : Int)) = ((val (bitsAt s.data.toList a (k + 1)) : Nat) : Int) := by
  have h1 := val_lt (bitsAt s.data.toList a (k + 1))
  rw [bitsAt_len] at h1
  have h2 : 2 ^ (k + 1) ≤ 2 ^ 64 := Nat.pow_le_pow_right (by omega) (by omega)
  have h3 : val (bitsAt s.data.toList a (k + 1)) = 2 * val (bitsAt s.data.toList a k) + (Bm.bit s.data.toList (a + k)).toNat := by
    unfold bitsAt
    rw [List.range_succ, List.map_append, val_append]
    simp [val]; omega
  rw [h3] at h1 ⊢
  rw [IntKind.wrap_u64, IntKind.wrap_u64]
  omega
theorem val_0 (s : ByteArray) (a : Nat) : val (bitsAt s.data.toList a 0) = 0 := rfl
theorem gv_1 {s : ByteArray} {a n : Int} (h : (n < 0 ∨ 64 < n) ∨ a < 0) : getV s a n = (0, 1) := by
  rw [getV, if_pos]
  rcases h with (h | h) | h
  · rw [decide_eq_false (show ¬ 0 ≤ n by omega)]; rfl
  · rw [decide_eq_false (show ¬ n ≤ 64 by omega)]; simp
  · rw [decide_eq_false (show ¬ 0 ≤ a by omega)]; simp
theorem gv_no {a n : Int} (h : ¬ ((n < 0 ∨ 64 < n) ∨ a < 0)) : ¬ (decide (0 ≤ n) && decide (n ≤ 64) && decide (0 ≤ a)) = false := by
  rw [decide_eq_true (show 0 ≤ n by omega), decide_eq_true (show n ≤ 64 by omega), decide_eq_true (show 0 ≤ a by omega)]; decide
theorem gv_2 {s : ByteArray} {a n : Int} (h : ¬ ((n < 0 ∨ 64 < n) ∨ a < 0)) (h2 : 8 * (s.size : Int) - n < a) : getV s a n = (0, 2) := by
  rw [getV, if_neg (gv_no h), if_neg (by omega)]
theorem gv_0 {s : ByteArray} {a n : Int} (h : ¬ ((n < 0 ∨ 64 < n) ∨ a < 0)) (h2 : ¬ 8 * (s.size : Int) - n < a) {k : Nat} (hk : n.toNat = k) : getV s a n = (((val (bitsAt s.data.toList a.toNat k) : Nat) : Int), 0) := by
  rw [getV, if_neg (gv_no h), if_pos (by omega), hk]

set_option maxRecDepth 100000 in
set_option maxHeartbeats 1000000 in
theorem rget_s (s : ByteArray) (a n : Int) (hs : s.size ≤ 1000000000000) (ha : a ≤ 9223372036854775807) :
    FPure Try.prog 33 [Is (.string s), Is (.int .i64 a), Is (.int .i64 n)] (Tup [Is (.int .u64 (getV s a n).1), Is (.int .i64 (getV s a n).2)]) := by
  refine FPure.of Try.func33 Try.ntmps33 rfl (by kernel_rfl) rfl rfl rfl ?_
  refine W_seq ?_
  refine W_regionE (c := 1) (c' := 3) (by kernel_rfl) rfl ?_
  refine Runs_p rfl (Valid.assignk (A := Is _) rfl rfl) rfl rfl ?_ -- ref.go:88 assign
  refine Runs_p rfl (Valid.assignk (A := Is _) rfl rfl) rfl rfl ?_ -- ref.go:88 assign
  refine Runs_nil ?_
  refine thenQ_n ?_
  refine W_seq ?_
  refine W_seq ?_
  refine W_regionE (c := 3) (c' := 13) (by kernel_rfl) rfl ?_
  refine Runs_p rfl (Valid.movek (A := Is _) rfl rfl) rfl rfl ?_ -- ref.go:89 move
  refine Runs_p rfl (Valid.lss rfl rfl rfl) rfl rfl ?_ -- ref.go:89 binOp
  refine Runs_p rfl (Valid.movek (A := Is _) rfl rfl) rfl rfl ?_ -- ref.go:89 move
  refine Runs_cnd rfl rfl (Grd.is rfl) [] (fun hg => trivial) (fun hg => Valid.movek (A := Is _) rfl rfl) (by rfl) rfl ?_
  refine Runs_cnd rfl rfl (Grd.is rfl) [(13, _)] (fun hg => ⟨cnd_at rfl (by first | exact hg | exact hg.1 | exact hg.1.1 | exact hg.1.1.1), trivial⟩) (fun hg => Valid.gtr rfl rfl rfl) (by rfl) rfl ?_
  refine Runs_p rfl (Valid.pickor rfl rfl rfl rfl (fun h => by first | exact h | exact ⟨hg, h⟩)) rfl rfl ?_ -- ref.go:89 pick
  refine Runs_p rfl (Valid.movek (A := Is _) rfl rfl) rfl rfl ?_ -- ref.go:89 move
  refine Runs_cnd rfl rfl (Grd.is rfl) [] (fun hg => trivial) (fun hg => Valid.movek (A := Is _) rfl rfl) (by rfl) rfl ?_
  refine Runs_cnd rfl rfl (Grd.is rfl) [(17, _)] (fun hg => ⟨cnd_at rfl (by first | exact hg | exact hg.1 | exact hg.1.1 | exact hg.1.1.1), trivial⟩) (fun hg => Valid.lss rfl rfl rfl) (by rfl) rfl ?_
  refine Runs_p rfl (Valid.pickor rfl rfl rfl rfl (fun h => by first | exact h | exact ⟨hg, h⟩)) rfl rfl ?_ -- ref.go:89 pick
  refine Runs_nil ?_
  refine thenQ_n ?_
  refine W_cond _ rfl (fun hb1 => ?_) (fun hb1 => ?_)
  · try simp only [decide_eq_true_eq, Bool.or_eq_true] at hb1
    all_goals (
      refine W_seq ?_
      refine W_regionE (c := 13) (c' := 15) (by kernel_rfl) rfl ?_
      refine Runs_p rfl (Valid.assignk (A := Is _) rfl rfl) rfl rfl ?_ -- ref.go:90 assign
      refine Runs_p rfl (Valid.assignk (A := Is _) rfl rfl) rfl rfl ?_ -- ref.go:90 assign
      refine Runs_nil ?_
      refine thenQ_n ?_
      refine W_ret ?_
      refine thenQ_r ?_
      refine finQ_r ?_
      refine ResOk.two rfl (RVal.is rfl rfl (by first | (rw [gv_1 (by omega)]; done) | (rw [gv_2 (by omega) (by omega)]; done) | (rw [gv_0 (by omega) (by omega) (k := k) (by omega)]))) (RVal.is rfl rfl (by first | (rw [gv_1 (by omega)]; done) | (rw [gv_2 (by omega) (by omega)]; done) | (rw [gv_0 (by omega) (by omega) (k := k) (by omega)])))
      done)
  · try simp only [decide_eq_false_iff_not, Bool.or_eq_false_iff] at hb1
    all_goals (
      refine W_skip ?_
      refine thenQ_n ?_
      refine W_seq ?_
      refine W_seq ?_
      refine W_regionE (c := 13) (c' := 20) (by kernel_rfl) rfl ?_
      refine Runs_p rfl (Valid.movek (A := Is _) rfl rfl) rfl rfl ?_ -- ref.go:92 move
      refine Runs_p rfl (Valid.movek (A := Is _) rfl rfl) rfl rfl ?_ -- ref.go:92 move
      refine Runs_p rfl (Valid.slen rfl Try.underlying9 rfl) rfl rfl ?_ -- ref.go:92 call
      refine Runs_p rfl (Valid.mul rfl rfl rfl (room64 (by first | omega | (simp only [Int.toNat_natCast, toNat_add, toNat_add1, List.length_append, List.length_cons, List.length_nil, List.length_replicate]; omega)) (by first | omega | (simp only [Int.toNat_natCast, toNat_add, toNat_add1, List.length_append, List.length_cons, List.length_nil, List.length_replicate]; omega)))) rfl rfl ?_ -- ref.go:92 binOp
      refine Runs_p rfl (Valid.movek (A := Is _) rfl rfl) rfl rfl ?_ -- ref.go:92 move
      refine Runs_p rfl (Valid.sub rfl rfl rfl (room64 (by first | omega | (simp only [Int.toNat_natCast, toNat_add, toNat_add1, List.length_append, List.length_cons, List.length_nil, List.length_replicate]; omega)) (by first | omega | (simp only [Int.toNat_natCast, toNat_add, toNat_add1, List.length_append, List.length_cons, List.length_nil, List.length_replicate]; omega)))) rfl rfl ?_ -- ref.go:92 binOp
      refine Runs_p rfl (Valid.gtr rfl rfl rfl) rfl rfl ?_ -- ref.go:92 binOp
      refine Runs_nil ?_
      refine thenQ_n ?_
      refine W_cond _ rfl (fun hb2 => ?_) (fun hb2 => ?_)
      · try simp only [decide_eq_true_eq] at hb2
        all_goals (
          refine W_seq ?_
          refine W_regionE (c := 20) (c' := 22) (by kernel_rfl) rfl ?_
          refine Runs_p rfl (Valid.assignk (A := Is _) rfl rfl) rfl rfl ?_ -- ref.go:93 assign
          refine Runs_p rfl (Valid.assignk (A := Is _) rfl rfl) rfl rfl ?_ -- ref.go:93 assign
          refine Runs_nil ?_
          refine thenQ_n ?_
          refine W_ret ?_
          refine thenQ_r ?_
          refine finQ_r ?_
          refine ResOk.two rfl (RVal.is rfl rfl (by first | (rw [gv_1 (by omega)]; done) | (rw [gv_2 (by omega) (by omega)]; done) | (rw [gv_0 (by omega) (by omega) (k := k) (by omega)]))) (RVal.is rfl rfl (by first | (rw [gv_1 (by omega)]; done) | (rw [gv_2 (by omega) (by omega)]; done) | (rw [gv_0 (by omega) (by omega) (k := k) (by omega)])))
          done)
      · try simp only [decide_eq_false_iff_not] at hb2
        all_goals (
          refine W_skip ?_
          refine thenQ_n ?_
          refine W_seq ?_
          refine W_regionE (c := 20) (c' := 21) (by kernel_rfl) rfl ?_
          refine Runs_p rfl (Valid.assignk (A := Is _) rfl rfl) rfl rfl ?_ -- ref.go:95 assign
          refine Runs_nil ?_
          refine thenQ_n ?_
          refine W_seq ?_
          refine W_seq ?_
          refine W_regionE (c := 21) (c' := 22) (by kernel_rfl) rfl ?_
          refine Runs_p rfl (Valid.assignk (A := Is _) rfl rfl) rfl rfl ?_ -- ref.go:96 assign
          refine Runs_nil ?_
          refine thenQ_n ?_
          refine W_block ?_
          refine W_loopx (G := Nat) (fun (k : Nat) => (k : Int) ≤ n) [(0, Is _), (1, Is _), (2, Is _)] (fun (k : Nat) => [(9, Is (.int .i64 (k : Int))), (8, Is (.int .u64 ((val (bitsAt s.data.toList a.toNat k) : Nat) : Int)))]) [] (fun (k : Nat) => []) 22 (fun (k : Nat) => n.toNat - k) (0) [] (by first | trivial | omega | (simp; omega)) ⟨⟨(leq_is rfl rfl (by rfl)), (leq_is rfl rfl (by rfl)), trivial⟩, ⟨(leq_is rfl rfl rfl), (leq_is rfl rfl rfl), (leq_is rfl rfl rfl), trivial⟩, trivial, trivial, rfl, ⟨supg rfl, supg rfl, trivial⟩, ⟨supg rfl, supg rfl, supg rfl, trivial⟩, trivial, trivial, rfl, rfl⟩ ?_
          intro k hI1
          have hbl := Bool.toNat_le (Bm.bit s.data.toList (a + (k : Int)).toNat)
          have hgs := get_step s a.toNat k
          have hak : (a + (k : Int)).toNat = a.toNat + k := by omega
          rw [← hak] at hgs
          refine W_seq ?_
          refine W_seq ?_
          refine W_regionE (c := 22) (c' := 25) (by kernel_rfl) rfl ?_
          refine Runs_p rfl (Valid.movek (A := Is _) rfl rfl) rfl rfl ?_ -- ref.go:96 move
          refine Runs_p rfl (Valid.movek (A := Is _) rfl rfl) rfl rfl ?_ -- ref.go:96 move
          refine Runs_p rfl (Valid.lss rfl rfl rfl) rfl rfl ?_ -- ref.go:96 binOp
          refine Runs_nil ?_
          refine thenQ_n ?_
          refine W_cond _ rfl (fun hb3 => ?_) (fun hb3 => ?_)
          · try simp only [decide_eq_true_eq] at hb3
            all_goals (
              refine W_skip ?_
              refine thenQ_n ?_
              refine W_seq ?_
              refine W_block ?_
              refine W_regionE (c := 25) (c' := 35) (by kernel_rfl) rfl ?_
              refine Runs_p rfl (Valid.movek (A := Is _) rfl rfl) rfl rfl ?_ -- ref.go:97 move
              refine Runs_p rfl (Valid.mulw rfl rfl rfl) rfl rfl ?_ -- ref.go:97 binOp
              refine Runs_p rfl (Valid.movek (A := Is _) rfl rfl) rfl rfl ?_ -- ref.go:97 move
              refine Runs_p rfl (Valid.movek (A := Is _) rfl rfl) rfl rfl ?_ -- ref.go:97 move
              refine Runs_p rfl (Valid.movek (A := Is _) rfl rfl) rfl rfl ?_ -- ref.go:97 move
              refine Runs_p rfl (Valid.add rfl rfl rfl (room64 (by first | omega | (simp only [Int.toNat_natCast, toNat_add, toNat_add1, List.length_append, List.length_cons, List.length_nil, List.length_replicate]; omega)) (by first | omega | (simp only [Int.toNat_natCast, toNat_add, toNat_add1, List.length_append, List.length_cons, List.length_nil, List.length_replicate]; omega)))) rfl rfl ?_ -- ref.go:97 binOp
              refine Runs_p rfl (Valid.call rfl (bit_s _ _ (by omega) (by omega) (by omega)) ⟨argle rfl, argle rfl, trivial⟩) rfl rfl ?_ -- ref.go:97 call
              refine Runs_p rfl (Valid.convr rfl rfl Try.underlying3 Try.underlying32 (by unfold Room; rw [IntKind.wrap_u64]; omega)) rfl rfl ?_ -- ref.go:97 convert
              refine Runs_p rfl (Valid.addw rfl rfl rfl) rfl rfl ?_ -- ref.go:97 binOp
              refine Runs_p rfl (Valid.assignk (A := Is _) rfl rfl) rfl rfl ?_ -- ref.go:97 assign
              refine Runs_nil ?_
              refine blockQ_n ?_
              refine thenQ_n ?_
              refine W_regionE (c := 35) (c' := 38) (by kernel_rfl) rfl ?_
              refine Runs_p rfl (Valid.movek (A := Is _) rfl rfl) rfl rfl ?_ -- ref.go:96 move
              refine Runs_p rfl (Valid.add rfl rfl rfl (room64 (by first | omega | (simp only [Int.toNat_natCast, toNat_add, toNat_add1, List.length_append, List.length_cons, List.length_nil, List.length_replicate]; omega)) (by first | omega | (simp only [Int.toNat_natCast, toNat_add, toNat_add1, List.length_append, List.length_cons, List.length_nil, List.length_replicate]; omega)))) rfl rfl ?_ -- ref.go:96 binOp
              refine Runs_p rfl (Valid.assignk (A := Is _) rfl rfl) rfl rfl ?_ -- ref.go:96 assign
              refine Runs_nil ?_
              refine LoopQ.next (k + 1) [] (by omega) (by omega) ⟨⟨(leq_is rfl rfl (by first | rfl | exact congrArg (Value.int .u64) (hgs (by omega)))), (leq_is rfl rfl (by first | rfl | exact congrArg (Value.int .u64) (hgs (by omega)))), trivial⟩, ⟨(leq_is rfl rfl rfl), (leq_is rfl rfl rfl), (leq_is rfl rfl rfl), trivial⟩, trivial, trivial, rfl, ⟨supg rfl, supg rfl, trivial⟩, ⟨supg rfl, supg rfl, supg rfl, trivial⟩, trivial, trivial, rfl, rfl⟩
              done)
          · try simp only [decide_eq_false_iff_not] at hb3
            all_goals (
              refine W_exit ?_
              refine thenQ_e ?_
              refine loopQ_e ?_
              refine blockQ_x ?_
              refine thenQ_n ?_
              refine W_seq ?_
              refine W_regionE (c := 25) (c' := 28) (by kernel_rfl) rfl ?_
              refine Runs_p rfl (Valid.movek (A := Is _) rfl rfl) rfl rfl ?_ -- ref.go:99 move
              refine Runs_p rfl (Valid.assignk (A := Is _) rfl rfl) rfl rfl ?_ -- ref.go:99 assign
              refine Runs_p rfl (Valid.assignk (A := Is _) rfl rfl) rfl rfl ?_ -- ref.go:99 assign
              refine Runs_nil ?_
              refine thenQ_n ?_
              refine W_ret ?_
              refine finQ_r ?_
              refine ResOk.two rfl (RVal.is rfl rfl (by first | (rw [gv_1 (by omega)]; done) | (rw [gv_2 (by omega) (by omega)]; done) | (rw [gv_0 (by omega) (by omega) (k := k) (by omega)]))) (RVal.is rfl rfl (by first | (rw [gv_1 (by omega)]; done) | (rw [gv_2 (by omega) (by omega)]; done) | (rw [gv_0 (by omega) (by omega) (k := k) (by omega)])))
              done)
          done)
      done)

theorem mxB_0 (_l : List Int) : max (0 : Int) 0 = 0 := rfl
def mx0 (l : List Int) (i : Nat) : Int := (l.take i).foldl max 0
theorem mx0_s {l : List Int} {i : Nat} (h : i < l.length) : max (mx0 l i) (l.getD i 0) = mx0 l (i + 1) := by
  rw [mx0, mx0, List.take_succ_eq_append_getElem h, List.foldl_append, List.getD_eq_getElem?_getD, List.getElem?_eq_getElem h]; rfl
theorem foldl_max0 : ∀ (t : List Int) (a b : Int), t.foldl max (max a b) = max a (t.foldl max b)
  | [], _, _ => rfl
  | x :: t, a, b => by rw [List.foldl_cons, List.foldl_cons, ← foldl_max0 t a (max b x)]; congr 1; omega
theorem mx0_all {l : List Int} (h : 0 < l.length) (h0 : 0 ≤ l.getD 0 0) : mx0 l l.length = mxL l := by
  cases l with
  | nil => simp at h
  | cons x t =>
    rw [mx0, mxL, mxA, List.take_length]
    have h0 : 0 ≤ x := h0
    show List.foldl max 0 (x :: t) = List.foldl max x (x :: t)
    rw [List.foldl_cons, List.foldl_cons]
    congr 1; omega

set_option maxRecDepth 100000 in
set_option maxHeartbeats 1000000 in
theorem great_s (l : List Int) (_hin : In64 l) (hl : l.length ≤ 9223372036854775807) :
    FPure Try.prog 34 [Sl 1 l.length (l.map (Value.int .i64))] (Is (.int .i64 (mx0 l l.length))) := by
  refine FPure.of Try.func34 Try.ntmps34 rfl (by kernel_rfl) rfl rfl rfl ?_
  refine W_seq ?_
  refine W_regionE (c := 1) (c' := 2) (by kernel_rfl) rfl ?_
  refine Runs_p rfl (Valid.assignk (A := Is _) rfl rfl) rfl rfl ?_ -- ref.go:10 assign
  refine Runs_nil ?_
  refine thenQ_n ?_
  refine W_seq ?_
  refine W_regionE (c := 2) (c' := 3) (by kernel_rfl) rfl ?_
  refine Runs_p rfl (Valid.assignk (A := Is _) rfl rfl) rfl rfl ?_ -- ref.go:11 assign
  refine Runs_nil ?_
  refine thenQ_n ?_
  refine W_seq ?_
  refine W_seq ?_
  refine W_regionE (c := 3) (c' := 4) (by kernel_rfl) rfl ?_
  refine Runs_p rfl (Valid.assignk (A := Is _) rfl rfl) rfl rfl ?_ -- ref.go:12 assign
  refine Runs_nil ?_
  refine thenQ_n ?_
  refine W_block ?_
  refine W_loopx (G := Nat) (fun (i : Nat) => i ≤ l.length) [(0, Sl 1 _ _)] (fun (i : Nat) => [(4, Is (.int .i64 (i : Int))), (3, Is (.int .i64 (mx0 l i)))]) [] (fun (i : Nat) => []) 4 (fun (i : Nat) => l.length - i) (0) [] (by first | trivial | omega | (simp; omega)) ⟨⟨(leq_is rfl rfl (by first | rfl)), (leq_is rfl rfl (by first | rfl)), trivial⟩, ⟨(leq_sl (Reads.sl rfl) rfl rfl rfl), trivial⟩, trivial, trivial, rfl, ⟨supg rfl, supg rfl, trivial⟩, ⟨supg rfl, trivial⟩, trivial, trivial, rfl, rfl⟩ ?_
  intro i hI1
  refine W_seq ?_
  refine W_seq ?_
  refine W_regionE (c := 4) (c' := 8) (by kernel_rfl) rfl ?_
  refine Runs_p rfl (Valid.movek (A := Is _) rfl rfl) rfl rfl ?_ -- ref.go:12 move
  refine Runs_p rfl (Valid.movek (A := Sl 1 _ _) rfl rfl) rfl rfl ?_ -- ref.go:12 move
  refine Runs_p rfl (Valid.len rfl Try.underlying22 (Reads.sl rfl)) rfl rfl ?_ -- ref.go:12 call
  refine Runs_p rfl (Valid.lss rfl rfl rfl) rfl rfl ?_ -- ref.go:12 binOp
  refine Runs_nil ?_
  refine thenQ_n ?_
  refine W_cond _ rfl (fun hb1 => ?_) (fun hb1 => ?_)
  · try simp only [decide_eq_true_eq] at hb1
    all_goals (
      refine W_skip ?_
      refine thenQ_n ?_
      refine W_seq ?_
      refine W_block ?_
      refine W_regionE (c := 8) (c' := 15) (by kernel_rfl) rfl ?_
      refine Runs_p rfl (Valid.movek (A := Is _) rfl rfl) rfl rfl ?_ -- ref.go:13 move
      refine Runs_p rfl (Valid.movek (A := Sl 1 _ _) rfl rfl) rfl rfl ?_ -- ref.go:13 move
      refine Runs_p rfl (Valid.movek (A := Is _) rfl rfl) rfl rfl ?_ -- ref.go:13 move
      refine Runs_p rfl (Valid.eltaddr1 0 rfl Try.underlying22 sz3 (Reads.sl rfl) rfl (by first | omega | (simp only [Int.toNat_natCast, toNat_add, toNat_add1, List.length_append, List.length_cons, List.length_nil, List.length_replicate]; omega)) (by first | rfl | simp)) rfl rfl ?_ -- ref.go:13 indexAddr
      refine Runs_p rfl (Valid.loadelt rfl ag3 rfl) rfl rfl ?_ -- ref.go:13 load
      refine Runs_p rfl (Valid.max rfl rfl rfl) rfl rfl ?_ -- ref.go:13 call
      refine Runs_p rfl (Valid.assignk (A := Is _) rfl rfl) rfl rfl ?_ -- ref.go:13 assign
      refine Runs_nil ?_
      refine blockQ_n ?_
      refine thenQ_n ?_
      refine W_regionE (c := 15) (c' := 18) (by kernel_rfl) rfl ?_
      refine Runs_p rfl (Valid.movek (A := Is _) rfl rfl) rfl rfl ?_ -- ref.go:12 move
      refine Runs_p rfl (Valid.add rfl rfl rfl (room64 (by first | omega | (simp only [Int.toNat_natCast, toNat_add, toNat_add1, List.length_append, List.length_cons, List.length_nil, List.length_replicate]; omega)) (by first | omega | (simp only [Int.toNat_natCast, toNat_add, toNat_add1, List.length_append, List.length_cons, List.length_nil, List.length_replicate]; omega)))) rfl rfl ?_ -- ref.go:12 binOp
      refine Runs_p rfl (Valid.assignk (A := Is _) rfl rfl) rfl rfl ?_ -- ref.go:12 assign
      refine Runs_nil ?_
      refine LoopQ.next (i + 1) [] (by omega) (by omega) ⟨⟨(leq_is rfl rfl (by first | rfl | exact congrArg (Value.int .i64) (mx0_s (by omega)))), (leq_is rfl rfl (by first | rfl | exact congrArg (Value.int .i64) (mx0_s (by omega)))), trivial⟩, ⟨(leq_sl (Reads.sl rfl) rfl rfl rfl), trivial⟩, trivial, trivial, rfl, ⟨supg rfl, supg rfl, trivial⟩, ⟨supg rfl, trivial⟩, trivial, trivial, rfl, rfl⟩
      done)
  · try simp only [decide_eq_false_iff_not] at hb1
    all_goals (
      refine W_exit ?_
      refine thenQ_e ?_
      refine loopQ_e ?_
      refine blockQ_x ?_
      refine thenQ_n ?_
      refine W_seq ?_
      refine W_regionE (c := 8) (c' := 10) (by kernel_rfl) rfl ?_
      refine Runs_p rfl (Valid.movek (A := Is _) rfl rfl) rfl rfl ?_ -- ref.go:15 move
      refine Runs_p rfl (Valid.assignk (A := Is _) rfl rfl) rfl rfl ?_ -- ref.go:15 assign
      refine Runs_nil ?_
      refine thenQ_n ?_
      refine W_ret ?_
      refine finQ_r ?_
      refine ResOk.one rfl (RVal.is rfl rfl (by rw [show l.length = i by omega]))
      done)

theorem num_snoc (v n i : Nat) (h : i < n) : (num v n).take (i + 1) = (num v n).take i ++ [v.testBit (n - 1 - i)] := by
  have hn : i < (num v n).length := by rw [num_len]; exact h
  rw [List.take_succ_eq_append_getElem hn]
  rw [List.getElem_of_eq (show num v n = (List.range n).map fun i => v.testBit (n - 1 - i) from rfl) hn, List.getElem_map, List.getElem_range]
theorem bit_u (v j : Nat) (h : j ≤ 64) : Int.fdiv (v : Int) (2 ^ min j 64) % 2 = (((v.testBit j).toNat : Nat) : Int) := by
  rw [show min j 64 = j by omega]
  have h1 : ((2 : Int) ^ j) = ((2 ^ j : Nat) : Int) := by simp
  rw [h1, Int.fdiv_eq_ediv_of_nonneg _ (Int.natCast_nonneg _), ← Int.natCast_ediv, Nat.testBit_eq_decide_div_mod_eq]
  generalize v / 2 ^ j = q
  by_cases h2 : q % 2 = 1
  · rw [decide_eq_true h2]; show (q : Int) % 2 = 1; omega
  · rw [decide_eq_false h2]; show (q : Int) % 2 = 0; omega
theorem num_step {v n k : Nat} (hn : n ≤ 64) (h : 0 ≤ (n : Int) - 1 - (k : Int)) : ((num v n).take k).map bI ++ [Value.int .i64 (Int.fdiv (v : Int) (2 ^ min ((n : Int) - 1 - (k : Int)).toNat 64) % 2)] = ((num v n).take (k + 1)).map bI := by
  rw [num_snoc v n k (by omega), List.map_append, bit_u _ _ (by omega), show ((n : Int) - 1 - (k : Int)).toNat = n - 1 - k by omega]; rfl

set_option maxRecDepth 100000 in
set_option maxHeartbeats 1000000 in
theorem number_s (v n : Nat) (hv : v < 18446744073709551616) (hn : n ≤ 64) :
    FPure Try.prog 28 [Is (.int .u64 (v : Int)), Is (.int .i64 (n : Int))] (Sl 1 n ((num v n).map bI)) := by
  refine FPure.of Try.func28 Try.ntmps28 rfl (by kernel_rfl) rfl rfl rfl ?_
  refine W_seq ?_
  refine W_regionE (c := 1) (c' := 2) (by kernel_rfl) rfl ?_
  refine Runs_p rfl (Valid.assignk (A := Is (.slice none 0 0)) rfl rfl) rfl rfl ?_ -- ref.go:57 assign
  refine Runs_nil ?_
  refine thenQ_n ?_
  refine W_seq ?_
  refine W_regionE (c := 2) (c' := 3) (by kernel_rfl) rfl ?_
  refine Runs_p rfl (Valid.assignk (A := Is (.slice none 0 0)) rfl rfl) rfl rfl ?_ -- ref.go:58 assign
  refine Runs_nil ?_
  refine thenQ_n ?_
  refine W_seq ?_
  refine W_seq ?_
  refine W_regionE (c := 3) (c' := 6) (by kernel_rfl) rfl ?_
  refine Runs_p rfl (Valid.movek (A := Is _) rfl rfl) rfl rfl ?_ -- ref.go:59 move
  refine Runs_p rfl (Valid.sub rfl rfl rfl (room64 (by first | omega | (simp only [Int.toNat_natCast, toNat_add, toNat_add1, List.length_append, List.length_cons, List.length_nil, List.length_replicate]; omega)) (by first | omega | (simp only [Int.toNat_natCast, toNat_add, toNat_add1, List.length_append, List.length_cons, List.length_nil, List.length_replicate]; omega)))) rfl rfl ?_ -- ref.go:59 binOp
  refine Runs_p rfl (Valid.assignk (A := Is _) rfl rfl) rfl rfl ?_ -- ref.go:59 assign
  refine Runs_nil ?_
  refine thenQ_n ?_
  refine W_block ?_
  refine W.ent ?_ (Ent.ownnil 5 3 1 rfl)
  refine W_loopx (G := Nat) (fun (k : Nat) => k ≤ n) [(0, Is _)] (fun (k : Nat) => [(6, Is (.int .i64 ((n : Int) - 1 - (k : Int)))), (5, Ab.Own 48 1 k (((num v n).take k).map bI))]) [] (fun (k : Nat) => [(48, .row 3 1 k (((num v n).take k).map bI))]) 7 (fun (k : Nat) => n - k) (0) [] (by first | trivial | omega | (simp; omega)) ⟨⟨(leq_is rfl rfl (by first | rfl | (refine congrArg (Value.int .i64) ?_; omega))), (leq_own rfl rfl rfl (by first | rfl | (refine congrArg (Value.int .i64) ?_; omega)) (by first | rfl | (refine congrArg (Value.int .i64) ?_; omega))), trivial⟩, ⟨(leq_is rfl rfl rfl), trivial⟩, ⟨hp_row rfl (by first | rfl | (refine congrArg (Value.int .i64) ?_; omega)) (by first | rfl | (refine congrArg (Value.int .i64) ?_; omega)), trivial⟩, trivial, rfl, ⟨supg rfl, supg rfl, trivial⟩, ⟨supg rfl, trivial⟩, ⟨suph rfl rfl, trivial⟩, trivial, rfl, rfl⟩ ?_
  intro k hI1
  refine W_seq ?_
  refine W_seq ?_
  refine W_regionE (c := 7) (c' := 9) (by kernel_rfl) rfl ?_
  refine Runs_p rfl (Valid.movek (A := Is _) rfl rfl) rfl rfl ?_ -- ref.go:59 move
  refine Runs_p rfl (Valid.geq rfl rfl rfl) rfl rfl ?_ -- ref.go:59 binOp
  refine Runs_nil ?_
  refine thenQ_n ?_
  refine W_cond _ rfl (fun hb1 => ?_) (fun hb1 => ?_)
  · try simp only [decide_eq_true_eq] at hb1
    all_goals (
      refine W_skip ?_
      refine thenQ_n ?_
      refine W_seq ?_
      refine W_block ?_
      refine W_regionE (c := 9) (c' := 18) (by kernel_rfl) rfl ?_
      refine Runs_p rfl (Valid.movek (A := Ab.Own 48 1 _ _) rfl rfl) rfl rfl ?_ -- ref.go:60 move
      refine Runs_p rfl (Valid.movek (A := Is _) rfl rfl) rfl rfl ?_ -- ref.go:60 move
      refine Runs_p rfl (Valid.movek (A := Is _) rfl rfl) rfl rfl ?_ -- ref.go:60 move
      refine Runs_p rfl (Valid.shrw rfl rfl rfl (by first | omega | (simp only [Int.toNat_natCast, toNat_add, toNat_add1, List.length_append, List.length_cons, List.length_nil, List.length_replicate]; omega))) rfl rfl ?_ -- ref.go:60 binOp
      refine Runs_p rfl (Valid.rem rfl rfl rfl (by first | omega | exact Int.fdiv_nonneg (by omega) (Int.le_of_lt (Int.pow_pos (by omega)))) (by first | omega | exact Int.fdiv_nonneg (by omega) (Int.le_of_lt (Int.pow_pos (by omega))))) rfl rfl ?_ -- ref.go:60 binOp
      refine Runs_p rfl (Valid.convr rfl rfl Try.underlying32 Try.underlying3 (room64 (by first | omega | (simp only [Int.toNat_natCast, toNat_add, toNat_add1, List.length_append, List.length_cons, List.length_nil, List.length_replicate]; omega)) (by first | omega | (simp only [Int.toNat_natCast, toNat_add, toNat_add1, List.length_append, List.length_cons, List.length_nil, List.length_replicate]; omega)))) rfl rfl ?_ -- ref.go:60 convert
      refine Runs_p rfl (Valid.lit (el := 3) [_] rfl rfl (fun _ => by kernel_rfl) rfl (by decide)) rfl rfl ?_ -- ref.go:60 buildSlice
      refine Runs_w rfl (Valid.app rfl Try.underlying22 ti3 (by decide) rfl rfl (Reads.sl rfl) (by first | exact one_map (fun _ => rfl) | exact one_cons rfl one_nil | exact one_app (one_map (fun _ => rfl)) (one_cons rfl one_nil) | exact one_app (one_map (fun _ => rfl)) (one_map (fun _ => rfl)) | exact one_rep rfl | exact one_app (one_rep rfl) (one_map (fun _ => rfl)) | (intro u hu; simp at hu; rcases hu with rfl | hu <;> first | rfl | (subst hu; rfl))) (by first | (simp only [maxLen]; omega) | (simp only [maxLen, Int.toNat_natCast, toNat_add, toNat_add1, List.length_append, List.length_cons, List.length_nil, List.length_replicate]; omega)) (by first | omega | (simp only [Int.toNat_natCast, toNat_add, toNat_add1, List.length_append, List.length_cons, List.length_nil, List.length_replicate]; omega))) rfl rfl ?_ -- ref.go:60 call
      refine Runs_p rfl (Valid.assignk (A := Ab.Own 128 1 _ _) rfl rfl) rfl rfl ?_ -- ref.go:60 assign
      refine Runs_nil ?_
      refine blockQ_n ?_
      refine thenQ_n ?_
      refine W_regionE (c := 18) (c' := 21) (by kernel_rfl) rfl ?_
      refine Runs_p rfl (Valid.movek (A := Is _) rfl rfl) rfl rfl ?_ -- ref.go:59 move
      refine Runs_p rfl (Valid.sub rfl rfl rfl (room64 (by first | omega | (simp only [Int.toNat_natCast, toNat_add, toNat_add1, List.length_append, List.length_cons, List.length_nil, List.length_replicate]; omega)) (by first | omega | (simp only [Int.toNat_natCast, toNat_add, toNat_add1, List.length_append, List.length_cons, List.length_nil, List.length_replicate]; omega)))) rfl rfl ?_ -- ref.go:59 binOp
      refine Runs_p rfl (Valid.assignk (A := Is _) rfl rfl) rfl rfl ?_ -- ref.go:59 assign
      refine Runs_nil ?_
      refine LoopQ.next (k + 1) [(48, 128)] (by omega) (by omega) ⟨⟨(leq_is rfl rfl (by first | rfl | (refine congrArg (Value.int .i64) ?_; omega) | exact num_step hn (by assumption))), (leq_own rfl rfl rfl (by first | rfl | (refine congrArg (Value.int .i64) ?_; omega) | exact num_step hn (by assumption)) (by first | rfl | (refine congrArg (Value.int .i64) ?_; omega) | exact num_step hn (by assumption))), trivial⟩, ⟨(leq_is rfl rfl rfl), trivial⟩, ⟨hp_row rfl (by first | rfl | (refine congrArg (Value.int .i64) ?_; omega) | exact num_step hn (by assumption)) (by first | rfl | (refine congrArg (Value.int .i64) ?_; omega) | exact num_step hn (by assumption)), trivial⟩, trivial, rfl, ⟨supg rfl, supg rfl, trivial⟩, ⟨supg rfl, trivial⟩, ⟨suph rfl rfl, trivial⟩, trivial, rfl, rfl⟩
      done)
  · try simp only [decide_eq_false_iff_not] at hb1
    all_goals (
      refine W_exit ?_
      refine thenQ_e ?_
      refine loopQ_e ?_
      refine blockQ_x ?_
      refine thenQ_n ?_
      refine W_seq ?_
      refine W_regionE (c := 9) (c' := 11) (by kernel_rfl) rfl ?_
      refine Runs_p rfl (Valid.movek (A := Ab.Own 48 1 _ _) rfl rfl) rfl rfl ?_ -- ref.go:62 move
      refine Runs_p rfl (Valid.assignk (A := Ab.Own 48 1 _ _) rfl rfl) rfl rfl ?_ -- ref.go:62 assign
      refine Runs_nil ?_
      refine thenQ_n ?_
      refine W_ret ?_
      refine finQ_r ?_
      refine ResOk.one rfl (RVal.sl (Reads.own rfl) rfl (by first | omega | (rw [List.take_of_length_le (by rw [num_len]; omega)]; done)) (by first | omega | (rw [List.take_of_length_le (by rw [num_len]; omega)]; done)))
      done)

theorem number_w {l : List Int} (h : (sndV l).2 = 0) (x : Int) : FPure Try.prog 28 [Is (.int .u64 ((wdV l).getD x.toNat (0, 0)).2), Is (.int .i64 ((wdV l).getD x.toNat (0, 0)).1)] (Sl 1 (wbits l x).length ((wbits l x).map bI)) := by
  have hb := (wdV_in h).2 x.toNat
  have := number_s ((wdV l).getD x.toNat (0, 0)).2.toNat ((wdV l).getD x.toNat (0, 0)).1.toNat (by omega) (by omega)
  rw [Int.toNat_of_nonneg hb.2.1, Int.toNat_of_nonneg hb.1.1] at this
  have e : (wbits l x).length = ((wdV l).getD x.toNat (0, 0)).1.toNat := num_len _ _
  rw [e]; exact this
theorem fl_s {l m : List Int} {k : Nat} (h : k < m.length) : ((bsW l m k).flatten).map bI ++ (wbits l (m.getD k 0)).map bI = ((bsW l m (k + 1)).flatten).map bI := by
  rw [bsW_s h, List.flatten_append, List.map_append]; simp
theorem fl_n {l m : List Int} {k : Nat} (h : k < m.length) : ((bsW l m k).flatten).length + (wbits l (m.getD k 0)).length = ((bsW l m (k + 1)).flatten).length := by
  rw [bsW_s h, List.flatten_append, List.length_append]; simp

set_option maxRecDepth 100000 in
set_option maxHeartbeats 1000000 in
theorem rput_s (l : List Int) (hin : In64 l) (hl : l.length ≤ 9223372036854775807) (m : List Int) (hm : m.length ≤ 1000000) :
    FPure Try.prog 19 [Sl 1 l.length (l.map (Value.int .i64)), Sl 1 m.length (m.map (Value.int .i64))] (Tup [Agg [Is (.string (putV l m).1.1), Is (.int .i64 (putV l m).1.2)], Is (.int .i64 (putV l m).2)]) := by
  refine FPure.of Try.func19 Try.ntmps19 rfl (by kernel_rfl) rfl rfl rfl ?_
  refine W_seq ?_
  refine W_regionE (c := 1) (c' := 3) (by kernel_rfl) rfl ?_
  refine Runs_w rfl (Valid.alloc [(Value.string ⟨#[]⟩), (Value.int .i64 0)] rfl zv37 rfl) rfl rfl ?_ -- ref.go:66 alloc
  refine Runs_p rfl (Valid.assignk (A := Is _) rfl rfl) rfl rfl ?_ -- ref.go:66 assign
  refine Runs_nil ?_
  refine thenQ_n ?_
  refine W_seq ?_
  refine W_regionE (c := 3) (c' := 10) (by kernel_rfl) rfl ?_
  refine Runs_p rfl (Valid.movek (A := Sl 1 _ _) rfl rfl) rfl rfl ?_ -- ref.go:67 move
  refine Runs_p rfl (Valid.call rfl (rwords_s _ (by assumption) (by omega)) ⟨argle_sl (Reads.sl rfl), trivial⟩) rfl rfl ?_ -- ref.go:67 call
  refine Runs_p rfl (Valid.movek (A := Tup [Sl 2 _ _, Is _]) rfl rfl) rfl rfl ?_ -- ref.go:67 move
  refine Runs_p rfl (Valid.extract _ rfl rfl rfl) rfl rfl ?_ -- ref.go:67 extract
  refine Runs_p rfl (Valid.extract _ rfl rfl rfl) rfl rfl ?_ -- ref.go:67 extract
  refine Runs_p rfl (Valid.assignk (A := Sl 2 _ _) rfl rfl) rfl rfl ?_ -- ref.go:67 assign
  refine Runs_p rfl (Valid.assignk (A := Is _) rfl rfl) rfl rfl ?_ -- ref.go:67 assign
  refine Runs_nil ?_
  refine thenQ_n ?_
  refine W_seq ?_
  refine W_seq ?_
  refine W_regionE (c := 10) (c' := 12) (by kernel_rfl) rfl ?_
  refine Runs_p rfl (Valid.movek (A := Is _) rfl rfl) rfl rfl ?_ -- ref.go:68 move
  refine Runs_p rfl (Valid.neq rfl rfl rfl) rfl rfl ?_ -- ref.go:68 binOp
  refine Runs_nil ?_
  refine thenQ_n ?_
  refine W_cond _ rfl (fun hb1 => ?_) (fun hb1 => ?_)
  · try simp only [decide_eq_true_eq, ne_eq] at hb1
    all_goals (
      refine W_seq ?_
      refine W_regionE (c := 12) (c' := 16) (by kernel_rfl) rfl ?_
      refine Runs_p rfl (Valid.build [] [(Value.string ⟨#[]⟩), (Value.int .i64 0)] rfl rfl (fun _ => by kernel_rfl)) rfl rfl ?_ -- ref.go:69 build
      refine Runs_p rfl (Valid.movek (A := Is _) rfl rfl) rfl rfl ?_ -- ref.go:69 move
      refine Runs_op rfl (Valid.storeagg (l := [_, _]) rfl sz37 rfl rfl (Nat.le_of_ble_eq_true rfl) rfl ⟨(One.is rfl rfl rfl), (One.is rfl rfl rfl), trivial⟩) rfl ?_ -- ref.go:69 store
      refine Runs_p rfl (Valid.assignk (A := Is _) rfl rfl) rfl rfl ?_ -- ref.go:69 assign
      refine Runs_nil ?_
      refine thenQ_n ?_
      refine W_ret ?_
      refine thenQ_r ?_
      refine finQ_r ?_
      refine ResOk.two rfl (RVal.cellagg ag37 sz37 rfl rfl (Nat.le_of_ble_eq_true rfl) (argle (by first | (rw [pput_1 (by assumption)]; done) | (rw [pput_1 (by assumption)]; rfl) | (have h5 := pput_5 hok (by omega) (not_inW hw1 hb3); rw [h5]; done) | (have h5 := pput_5 hok (by omega) (not_inW hw1 hb3); rw [h5]; rfl) | (have h0 := pput_0 hok (by omega) hk2; rw [h0]; done) | (have h0 := pput_0 hok (by omega) hk2; rw [h0]; rfl)))) (RVal.is rfl rfl (by first | (rw [pput_1 (by assumption)]; done) | (rw [pput_1 (by assumption)]; rfl) | (have h5 := pput_5 hok (by omega) (not_inW hw1 hb3); rw [h5]; done) | (have h5 := pput_5 hok (by omega) (not_inW hw1 hb3); rw [h5]; rfl) | (have h0 := pput_0 hok (by omega) hk2; rw [h0]; done) | (have h0 := pput_0 hok (by omega) hk2; rw [h0]; rfl)))
      done)
  · try simp only [decide_eq_false_iff_not, ne_eq] at hb1
    all_goals (
      refine W_skip ?_
      refine thenQ_n ?_
      refine W_seq ?_
      have hok : (sndV l).2 = 0 := by first | assumption | omega
      obtain ⟨hs1, hs2⟩ := snd_bd hok
      obtain ⟨hw1, hw2⟩ := wdV_in hok
      refine W_regionE (c := 12) (c' := 13) (by kernel_rfl) rfl ?_
      refine Runs_p rfl (Valid.assignk (A := Is (.slice none 0 0)) rfl rfl) rfl rfl ?_ -- ref.go:71 assign
      refine Runs_nil ?_
      refine thenQ_n ?_
      refine W_seq ?_
      refine W_seq ?_
      refine W_regionE (c := 13) (c' := 14) (by kernel_rfl) rfl ?_
      refine Runs_p rfl (Valid.assignk (A := Is _) rfl rfl) rfl rfl ?_ -- ref.go:72 assign
      refine Runs_nil ?_
      refine thenQ_n ?_
      refine W_block ?_
      refine W.ent ?_ (Ent.ownnil 8 3 1 rfl)
      refine W_loopx (G := Nat) (fun (k : Nat) => k ≤ m.length ∧ ∀ j, j < k → inW l (m.getD j 0)) [(1, Sl 1 _ _), (4, Ptr 8 0), (6, Sl 2 _ _)] (fun (k : Nat) => [(9, Is (.int .i64 (k : Int))), (8, Ab.Own 112 1 ((bsW l m k).flatten).length (((bsW l m k).flatten).map bI))]) [(8, .var 37 [Is _, Is _])] (fun (k : Nat) => [(112, .row 3 1 ((bsW l m k).flatten).length (((bsW l m k).flatten).map bI))]) 15 (fun (k : Nat) => m.length - k) (0) [] (⟨by omega, fun j hj => by omega⟩) ⟨⟨(leq_is rfl rfl (by first | rfl)), (leq_own rfl rfl rfl (by first | rfl) (by first | rfl)), trivial⟩, ⟨(leq_sl (Reads.sl rfl) rfl rfl rfl), (leq_ptr rfl rfl rfl), (leq_sl (Reads.sl rfl) rfl rfl rfl), trivial⟩, ⟨hp_row rfl (by first | rfl) (by first | rfl), trivial⟩, ⟨hp_var rfl ⟨(leq_is rfl rfl rfl), (leq_is rfl rfl rfl), trivial⟩, trivial⟩, rfl, ⟨supg rfl, supg rfl, trivial⟩, ⟨supg rfl, supg rfl, supg rfl, trivial⟩, ⟨suph rfl rfl, trivial⟩, ⟨suph rfl rfl, trivial⟩, rfl, rfl⟩ ?_
      intro k hI1
      obtain ⟨hk1, hk2⟩ := hI1
      have hf20 := flat20 hok m k (by omega)
      have hwl20 : (wbits l (m.getD k 0)).length ≤ 20 := by have := ((wdV_in hok).2 (m.getD k 0).toNat).1; unfold wbits; rw [num_len]; omega
      refine W_seq ?_
      refine W_seq ?_
      refine W_regionE (c := 15) (c' := 19) (by kernel_rfl) rfl ?_
      refine Runs_p rfl (Valid.movek (A := Is _) rfl rfl) rfl rfl ?_ -- ref.go:72 move
      refine Runs_p rfl (Valid.movek (A := Sl 1 _ _) rfl rfl) rfl rfl ?_ -- ref.go:72 move
      refine Runs_p rfl (Valid.len rfl Try.underlying22 (Reads.sl rfl)) rfl rfl ?_ -- ref.go:72 call
      refine Runs_p rfl (Valid.lss rfl rfl rfl) rfl rfl ?_ -- ref.go:72 binOp
      refine Runs_nil ?_
      refine thenQ_n ?_
      refine W_cond _ rfl (fun hb2 => ?_) (fun hb2 => ?_)
      · try simp only [decide_eq_true_eq] at hb2
        all_goals (
          refine W_skip ?_
          refine thenQ_n ?_
          refine W_seq ?_
          refine W_block ?_
          refine W_seq ?_
          refine W_seq ?_
          refine W_regionE (c := 19) (c' := 33) (by kernel_rfl) rfl ?_
          refine Runs_p rfl (Valid.movek (A := Sl 1 _ _) rfl rfl) rfl rfl ?_ -- ref.go:73 move
          refine Runs_p rfl (Valid.movek (A := Is _) rfl rfl) rfl rfl ?_ -- ref.go:73 move
          refine Runs_p rfl (Valid.eltaddr1 0 rfl Try.underlying22 sz3 (Reads.sl rfl) rfl (by first | omega | (simp only [Int.toNat_natCast, toNat_add, toNat_add1, List.length_append, List.length_cons, List.length_nil, List.length_replicate]; omega)) (by first | rfl | simp)) rfl rfl ?_ -- ref.go:73 indexAddr
          refine Runs_p rfl (Valid.loadelt rfl ag3 rfl) rfl rfl ?_ -- ref.go:73 load
          refine Runs_p rfl (Valid.lss rfl rfl rfl) rfl rfl ?_ -- ref.go:73 binOp
          refine Runs_p rfl (Valid.movek (A := Is _) rfl rfl) rfl rfl ?_ -- ref.go:73 move
          refine Runs_cnd rfl rfl (Grd.is rfl) [] (fun hg => trivial) (fun hg => Valid.movek (A := Sl 1 _ _) rfl rfl) (by rfl) rfl ?_
          refine Runs_cnd rfl rfl (Grd.is rfl) [] (fun hg => trivial) (fun hg => Valid.movek (A := Is _) rfl rfl) (by rfl) rfl ?_
          refine Runs_cnd rfl rfl (Grd.is rfl) [(31, _), (32, _)] (fun hg => ⟨cnd_at rfl (by first | exact hg | exact hg.1 | exact hg.1.1 | exact hg.1.1.1), cnd_at rfl (by first | exact hg | exact hg.1 | exact hg.1.1 | exact hg.1.1.1), trivial⟩) (fun hg => Valid.eltaddr1 0 rfl Try.underlying22 sz3 (Reads.sl rfl) rfl (by (try simp only [Int.toNat_natCast, decide_eq_false_iff_not] at hg); first | omega | (simp only [Int.toNat_natCast, toNat_add, toNat_add1, List.length_append, List.length_cons, List.length_nil, List.length_replicate]; omega)) (by first | rfl | simp)) (by rfl) rfl ?_
          refine Runs_cnd rfl rfl (Grd.is rfl) [(33, _)] (fun hg => ⟨cnd_at rfl (by first | exact hg | exact hg.1 | exact hg.1.1 | exact hg.1.1.1), trivial⟩) (fun hg => Valid.loadelt rfl ag3 rfl) (by rfl) rfl ?_
          refine Runs_cnd rfl rfl (Grd.is rfl) [] (fun hg => trivial) (fun hg => Valid.movek (A := Sl 2 _ _) rfl rfl) (by rfl) rfl ?_
          refine Runs_cnd rfl rfl (Grd.is rfl) [(35, _)] (fun hg => ⟨cnd_at rfl (by first | exact hg | exact hg.1 | exact hg.1.1 | exact hg.1.1.1), trivial⟩) (fun hg => Valid.len rfl Try.underlying27 (Reads.sl rfl)) (by rfl) rfl ?_
          refine Runs_cnd rfl rfl (Grd.is rfl) [(34, _), (36, _)] (fun hg => ⟨cnd_at rfl (by first | exact hg | exact hg.1 | exact hg.1.1 | exact hg.1.1.1), cnd_at rfl (by first | exact hg | exact hg.1 | exact hg.1.1 | exact hg.1.1.1), trivial⟩) (fun hg => Valid.geq rfl rfl rfl) (by rfl) rfl ?_
          refine Runs_p rfl (Valid.pickor rfl rfl rfl rfl (fun h => by first | exact h | exact ⟨hg, h⟩)) rfl rfl ?_ -- ref.go:73 pick
          refine Runs_nil ?_
          refine thenQ_n ?_
          refine W_cond _ rfl (fun hb3 => ?_) (fun hb3 => ?_)
          · try simp only [Int.toNat_natCast, decide_eq_true_eq, Bool.or_eq_true] at hb3
            all_goals (
              refine W_seq ?_
              refine W_regionE (c := 33) (c' := 36) (by kernel_rfl) rfl ?_
              refine Runs_p rfl (Valid.build [] [(Value.string ⟨#[]⟩), (Value.int .i64 0)] rfl rfl (fun _ => by kernel_rfl)) rfl rfl ?_ -- ref.go:74 build
              refine Runs_op rfl (Valid.storeagg (l := [_, _]) rfl sz37 rfl rfl (Nat.le_of_ble_eq_true rfl) rfl ⟨(One.is rfl rfl rfl), (One.is rfl rfl rfl), trivial⟩) rfl ?_ -- ref.go:74 store
              refine Runs_p rfl (Valid.assignk (A := Is _) rfl rfl) rfl rfl ?_ -- ref.go:74 assign
              refine Runs_nil ?_
              refine thenQ_n ?_
              refine W_ret ?_
              refine thenQ_r ?_
              refine blockQ_r ?_
              refine thenQ_r ?_
              refine loopQ_r ?_
              refine blockQ_r ?_
              refine thenQ_r ?_
              refine finQ_r ?_
              refine ResOk.two rfl (RVal.cellagg ag37 sz37 rfl rfl (Nat.le_of_ble_eq_true rfl) (argle (by first | (rw [pput_1 (by assumption)]; done) | (rw [pput_1 (by assumption)]; rfl) | (have h5 := pput_5 hok (by omega) (not_inW hw1 hb3); rw [h5]; done) | (have h5 := pput_5 hok (by omega) (not_inW hw1 hb3); rw [h5]; rfl) | (have h0 := pput_0 hok (by omega) hk2; rw [h0]; done) | (have h0 := pput_0 hok (by omega) hk2; rw [h0]; rfl)))) (RVal.is rfl rfl (by first | (rw [pput_1 (by assumption)]; done) | (rw [pput_1 (by assumption)]; rfl) | (have h5 := pput_5 hok (by omega) (not_inW hw1 hb3); rw [h5]; done) | (have h5 := pput_5 hok (by omega) (not_inW hw1 hb3); rw [h5]; rfl) | (have h0 := pput_0 hok (by omega) hk2; rw [h0]; done) | (have h0 := pput_0 hok (by omega) hk2; rw [h0]; rfl)))
              done)
          · try simp only [Int.toNat_natCast, decide_eq_false_iff_not, Bool.or_eq_false_iff] at hb3
            all_goals (
              refine W_skip ?_
              refine thenQ_n ?_
              refine W_drawE (c := 33) (c' := 53) (by kernel_rfl) rfl ?_
              refine Runs_p rfl (Valid.movek (A := Ab.Own 112 1 _ _) rfl rfl) rfl rfl ?_ -- ref.go:76 move
              refine Runs_p rfl (Valid.movek (A := Sl 2 _ _) rfl rfl) rfl rfl ?_ -- ref.go:76 move
              refine Runs_p rfl (Valid.movek (A := Sl 1 _ _) rfl rfl) rfl rfl ?_ -- ref.go:76 move
              refine Runs_p rfl (Valid.movek (A := Is _) rfl rfl) rfl rfl ?_ -- ref.go:76 move
              refine Runs_p rfl (Valid.eltaddr1 0 rfl Try.underlying22 sz3 (Reads.sl rfl) rfl (by first | omega | (simp only [Int.toNat_natCast, toNat_add, toNat_add1, List.length_append, List.length_cons, List.length_nil, List.length_replicate]; omega)) (by first | rfl | simp)) rfl rfl ?_ -- ref.go:76 indexAddr
              refine Runs_p rfl (Valid.loadelt rfl ag3 rfl) rfl rfl ?_ -- ref.go:76 load
              refine Runs_p rfl (Valid.eltE (f := (fun p : Int × Int => [Value.int .i64 p.1, Value.int .u64 p.2])) (0, 0) rfl (fun _ => rfl) Try.underlying27 sz34 (Reads.sl rfl) rfl (by first | omega | (simp only [Int.toNat_natCast]; omega)) (by first | rfl | simp)) rfl rfl ?_ -- ref.go:76 indexAddr
              refine Runs_p rfl (Valid.fieldelt 1 rfl rfl (fun _ _ => by kernel_rfl)) rfl rfl ?_ -- ref.go:76 fieldAddr
              refine Runs_p rfl (Valid.loadelt rfl ag32 rfl) rfl rfl ?_ -- ref.go:76 load
              refine Runs_p rfl (Valid.movek (A := Sl 2 _ _) rfl rfl) rfl rfl ?_ -- ref.go:76 move
              refine Runs_p rfl (Valid.movek (A := Sl 1 _ _) rfl rfl) rfl rfl ?_ -- ref.go:76 move
              refine Runs_p rfl (Valid.movek (A := Is _) rfl rfl) rfl rfl ?_ -- ref.go:76 move
              refine Runs_p rfl (Valid.eltaddr1 0 rfl Try.underlying22 sz3 (Reads.sl rfl) rfl (by first | omega | (simp only [Int.toNat_natCast, toNat_add, toNat_add1, List.length_append, List.length_cons, List.length_nil, List.length_replicate]; omega)) (by first | rfl | simp)) rfl rfl ?_ -- ref.go:76 indexAddr
              refine Runs_p rfl (Valid.loadelt rfl ag3 rfl) rfl rfl ?_ -- ref.go:76 load
              refine Runs_p rfl (Valid.eltE (f := (fun p : Int × Int => [Value.int .i64 p.1, Value.int .u64 p.2])) (0, 0) rfl (fun _ => rfl) Try.underlying27 sz34 (Reads.sl rfl) rfl (by first | omega | (simp only [Int.toNat_natCast]; omega)) (by first | rfl | simp)) rfl rfl ?_ -- ref.go:76 indexAddr
              refine Runs_p rfl (Valid.fieldelt 0 rfl rfl (fun _ _ => by kernel_rfl)) rfl rfl ?_ -- ref.go:76 fieldAddr
              refine Runs_p rfl (Valid.loadelt rfl ag3 rfl) rfl rfl ?_ -- ref.go:76 load
              refine Runs_p rfl (Valid.call rfl (number_w hok (m.getD k 0)) ⟨argle rfl, argle rfl, trivial⟩) rfl rfl ?_ -- ref.go:76 call
              refine Runs_w rfl (Valid.app rfl Try.underlying22 ti3 (by decide) rfl rfl (Reads.sl rfl) (by first | exact one_map (fun _ => rfl) | exact one_cons rfl one_nil | exact one_app (one_map (fun _ => rfl)) (one_cons rfl one_nil) | exact one_app (one_map (fun _ => rfl)) (one_map (fun _ => rfl)) | exact one_rep rfl | exact one_app (one_rep rfl) (one_map (fun _ => rfl)) | (intro u hu; simp at hu; rcases hu with rfl | hu <;> first | rfl | (subst hu; rfl))) (by first | (simp only [maxLen]; omega) | (simp only [maxLen, Int.toNat_natCast, toNat_add, toNat_add1, List.length_append, List.length_cons, List.length_nil, List.length_replicate]; omega)) (by first | omega | (simp only [Int.toNat_natCast, toNat_add, toNat_add1, List.length_append, List.length_cons, List.length_nil, List.length_replicate]; omega))) rfl rfl ?_ -- ref.go:76 call
              refine Runs_p rfl (Valid.assignk (A := Ab.Own 408 1 _ _) rfl rfl) rfl rfl ?_ -- ref.go:76 assign
              refine Runs_nil ?_
              refine ⟨_, _, rfl, rfl, by kernel_rfl, ?_⟩
              refine blockQ_n ?_
              refine thenQ_n ?_
              refine W_regionE (c := 53) (c' := 56) (by kernel_rfl) rfl ?_
              refine Runs_p rfl (Valid.movek (A := Is _) rfl rfl) rfl rfl ?_ -- ref.go:72 move
              refine Runs_p rfl (Valid.add rfl rfl rfl (room64 (by first | omega | (simp only [Int.toNat_natCast, toNat_add, toNat_add1, List.length_append, List.length_cons, List.length_nil, List.length_replicate]; omega)) (by first | omega | (simp only [Int.toNat_natCast, toNat_add, toNat_add1, List.length_append, List.length_cons, List.length_nil, List.length_replicate]; omega)))) rfl rfl ?_ -- ref.go:72 binOp
              refine Runs_p rfl (Valid.assignk (A := Is _) rfl rfl) rfl rfl ?_ -- ref.go:72 assign
              refine Runs_nil ?_
              refine LoopQ.next (k + 1) [(112, 408)] (⟨by omega, fun j hj => by by_cases e : j = k; (· subst e; exact ⟨by omega, by omega⟩); (· exact hk2 j (by omega))⟩) (by omega) ⟨⟨(leq_is rfl rfl (by first | rfl | exact fl_s (by omega) | exact fl_n (by omega))), (leq_own rfl rfl rfl (by first | rfl | exact fl_s (by omega) | exact fl_n (by omega)) (by first | rfl | exact fl_s (by omega) | exact fl_n (by omega))), trivial⟩, ⟨(leq_sl (Reads.sl rfl) rfl rfl rfl), (leq_ptr rfl rfl rfl), (leq_sl (Reads.sl rfl) rfl rfl rfl), trivial⟩, ⟨hp_row rfl (by first | rfl | exact fl_s (by omega) | exact fl_n (by omega)) (by first | rfl | exact fl_s (by omega) | exact fl_n (by omega)), trivial⟩, ⟨hp_var rfl ⟨(leq_is rfl rfl rfl), (leq_is rfl rfl rfl), trivial⟩, trivial⟩, rfl, ⟨supg rfl, supg rfl, trivial⟩, ⟨supg rfl, supg rfl, supg rfl, trivial⟩, ⟨suph rfl rfl, trivial⟩, ⟨suph rfl rfl, trivial⟩, rfl, rfl⟩
              done)
          done)
      · try simp only [decide_eq_false_iff_not] at hb2
        all_goals (
          refine W_exit ?_
          refine thenQ_e ?_
          refine loopQ_e ?_
          refine blockQ_x ?_
          refine thenQ_n ?_
          refine W_seq ?_
          refine W_regionE (c := 19) (c' := 23) (by kernel_rfl) rfl ?_
          refine Runs_p rfl (Valid.movek (A := Ab.Own 112 1 _ _) rfl rfl) rfl rfl ?_ -- ref.go:78 move
          refine Runs_p rfl (Valid.call rfl (of_t (b := (bsW l m k).flatten) (by have := flat20 hok m k (by omega); omega) rfl rfl) ⟨argle_sl (Reads.own rfl), trivial⟩) rfl rfl ?_ -- ref.go:78 call
          refine Runs_op rfl (Valid.storeagg (l := [_, _]) rfl sz37 rfl rfl (Nat.le_of_ble_eq_true rfl) rfl ⟨(One.is rfl rfl rfl), (One.is rfl rfl rfl), trivial⟩) rfl ?_ -- ref.go:78 store
          refine Runs_p rfl (Valid.assignk (A := Is _) rfl rfl) rfl rfl ?_ -- ref.go:78 assign
          refine Runs_nil ?_
          refine thenQ_n ?_
          refine W_ret ?_
          refine finQ_r ?_
          refine ResOk.two rfl (RVal.cellagg ag37 sz37 rfl rfl (Nat.le_of_ble_eq_true rfl) (argle (by first | (rw [pput_1 (by assumption)]; done) | (rw [pput_1 (by assumption)]; rfl) | (have h5 := pput_5 hok (by omega) (not_inW hw1 hb3); rw [h5]; done) | (have h5 := pput_5 hok (by omega) (not_inW hw1 hb3); rw [h5]; rfl) | (have h0 := pput_0 hok (by omega) hk2; rw [h0]; done) | (have h0 := pput_0 hok (by omega) hk2; rw [h0]; rfl)))) (RVal.is rfl rfl (by first | (rw [pput_1 (by assumption)]; done) | (rw [pput_1 (by assumption)]; rfl) | (have h5 := pput_5 hok (by omega) (not_inW hw1 hb3); rw [h5]; done) | (have h5 := pput_5 hok (by omega) (not_inW hw1 hb3); rw [h5]; rfl) | (have h0 := pput_0 hok (by omega) hk2; rw [h0]; done) | (have h0 := pput_0 hok (by omega) hk2; rw [h0]; rfl)))
          done)
      done)

theorem of_mt {l : List Int} (h : OkL l) {s : ByteArray} {a : Int} (ha : 0 ≤ a) {i : Nat} (hi : i < l.length) : ((getV s a ((wdV l).getD i (0, 0)).1).2 = 0 ∧ (getV s a ((wdV l).getD i (0, 0)).1).1 = ((wdV l).getD i (0, 0)).2) ↔ Mt l s a i := by
  obtain ⟨h1, h2, h3⟩ := h.good hi
  rw [wdV_at h hi]
  simp only
  by_cases hb : a + (ln l i : Int) ≤ 8 * s.size
  · rw [gv_in ha (by omega) hb]
    constructor
    · intro hx
      have := hx.2
      refine ⟨hb, ?_⟩
      unfold vN
      simp only at this
      omega
    · intro hx
      have := hx.2
      unfold vN at this
      refine ⟨rfl, ?_⟩
      simp only
      omega
  · rw [gv_out ha (by omega) hb]
    constructor
    · intro hx
      have := hx.1
      simp at this
    · intro hx
      exact absurd hx.1 hb
theorem gv_rm {s : ByteArray} {a n : Int} (h : (getV s a n).2 = 0) : a + n ≤ 8 * s.size := by
  unfold getV at h
  split at h
  · simp at h
  · split at h
    · assumption
    · simp at h
theorem rt_y {l : List Int} (h : OkL l) {s : ByteArray} {a : Int} (ha : 0 ≤ a) {i : Nat} (hi : i < l.length) (h1 : (getV s a ((wdV l).getD i (0, 0)).1).2 = 0) (h2 : (getV s a ((wdV l).getD i (0, 0)).1).1 = ((wdV l).getD i (0, 0)).2) : takV l s a = ((i : Int), a + ((wdV l).getD i (0, 0)).1, 0) := by
  rw [take_y h ha hi ((of_mt h ha hi).1 ⟨h1, h2⟩), wdV_at h hi]
theorem rt_n {l : List Int} (h : OkL l) {s : ByteArray} {a : Int} (ha : 0 ≤ a) {k : Nat} (hk : k = l.length) (hm : ∀ i, i < k → ¬ Mt l s a i) : takV l s a = (0, 0, if 8 * (s.size : Int) - mx0 l l.length < a then 2 else 3) := by
  subst hk
  have hg := (h.good (s := 0) (by have := h.len; omega))
  rw [take_n h ha hm, mx0_all (by have := h.len; omega) (by omega)]
  by_cases hb : a + mxL l ≤ 8 * s.size
  · rw [if_pos hb, if_neg (by omega)]
  · rw [if_neg hb, if_pos (by omega)]

set_option maxRecDepth 100000 in
set_option maxHeartbeats 1000000 in
theorem rtake_s (l : List Int) (hin : In64 l) (hl : l.length ≤ 9223372036854775807) (s : ByteArray) (hs : s.size ≤ 100000000000) (a : Int) (ha : -9223372036854775808 ≤ a ∧ a ≤ 9223372036854775807) :
    FPure Try.prog 21 [Sl 1 l.length (l.map (Value.int .i64)), Is (.string s), Is (.int .i64 a)] (Tup [Is (.int .i64 (takV l s a).1), Is (.int .i64 (takV l s a).2.1), Is (.int .i64 (takV l s a).2.2)]) := by
  refine FPure.of Try.func21 Try.ntmps21 rfl (by kernel_rfl) rfl rfl rfl ?_
  refine W_seq ?_
  refine W_regionE (c := 1) (c' := 4) (by kernel_rfl) rfl ?_
  refine Runs_p rfl (Valid.assignk (A := Is _) rfl rfl) rfl rfl ?_ -- ref.go:82 assign
  refine Runs_p rfl (Valid.assignk (A := Is _) rfl rfl) rfl rfl ?_ -- ref.go:82 assign
  refine Runs_p rfl (Valid.assignk (A := Is _) rfl rfl) rfl rfl ?_ -- ref.go:82 assign
  refine Runs_nil ?_
  refine thenQ_n ?_
  refine W_seq ?_
  refine W_regionE (c := 4) (c' := 11) (by kernel_rfl) rfl ?_
  refine Runs_p rfl (Valid.movek (A := Sl 1 _ _) rfl rfl) rfl rfl ?_ -- ref.go:83 move
  refine Runs_p rfl (Valid.call rfl (rwords_s _ (by assumption) (by omega)) ⟨argle_sl (Reads.sl rfl), trivial⟩) rfl rfl ?_ -- ref.go:83 call
  refine Runs_p rfl (Valid.movek (A := Tup [Sl 2 _ _, Is _]) rfl rfl) rfl rfl ?_ -- ref.go:83 move
  refine Runs_p rfl (Valid.extract _ rfl rfl rfl) rfl rfl ?_ -- ref.go:83 extract
  refine Runs_p rfl (Valid.extract _ rfl rfl rfl) rfl rfl ?_ -- ref.go:83 extract
  refine Runs_p rfl (Valid.assignk (A := Sl 2 _ _) rfl rfl) rfl rfl ?_ -- ref.go:83 assign
  refine Runs_p rfl (Valid.assignk (A := Is _) rfl rfl) rfl rfl ?_ -- ref.go:83 assign
  refine Runs_nil ?_
  refine thenQ_n ?_
  refine W_seq ?_
  refine W_seq ?_
  refine W_regionE (c := 11) (c' := 13) (by kernel_rfl) rfl ?_
  refine Runs_p rfl (Valid.movek (A := Is _) rfl rfl) rfl rfl ?_ -- ref.go:84 move
  refine Runs_p rfl (Valid.neq rfl rfl rfl) rfl rfl ?_ -- ref.go:84 binOp
  refine Runs_nil ?_
  refine thenQ_n ?_
  refine W_cond _ rfl (fun hb1 => ?_) (fun hb1 => ?_)
  · try simp only [decide_eq_true_eq, ne_eq] at hb1
    all_goals (
      refine W_seq ?_
      refine W_regionE (c := 13) (c' := 17) (by kernel_rfl) rfl ?_
      refine Runs_p rfl (Valid.movek (A := Is _) rfl rfl) rfl rfl ?_ -- ref.go:85 move
      refine Runs_p rfl (Valid.assignk (A := Is _) rfl rfl) rfl rfl ?_ -- ref.go:85 assign
      refine Runs_p rfl (Valid.assignk (A := Is _) rfl rfl) rfl rfl ?_ -- ref.go:85 assign
      refine Runs_p rfl (Valid.assignk (A := Is _) rfl rfl) rfl rfl ?_ -- ref.go:85 assign
      refine Runs_nil ?_
      refine thenQ_n ?_
      refine W_ret ?_
      refine thenQ_r ?_
      refine finQ_r ?_
      refine ResOk.three rfl (RVal.is rfl rfl (by first | (rw [tak_1 (by assumption)]; done) | (rw [tak_2 (by omega) (by assumption)]; done) | (rw [rt_y hok (by omega) (by omega) hb4.1 hb4.2]; done) | (rw [rt_y hok (by omega) (by omega) hb4.1 hb4.2]; rfl) | (rw [rt_n hok (by omega) (by omega) hk2, if_pos (by omega)]; done) | (rw [rt_n hok (by omega) (by omega) hk2, if_neg (by omega)]; done))) (RVal.is rfl rfl (by first | (rw [tak_1 (by assumption)]; done) | (rw [tak_2 (by omega) (by assumption)]; done) | (rw [rt_y hok (by omega) (by omega) hb4.1 hb4.2]; done) | (rw [rt_y hok (by omega) (by omega) hb4.1 hb4.2]; rfl) | (rw [rt_n hok (by omega) (by omega) hk2, if_pos (by omega)]; done) | (rw [rt_n hok (by omega) (by omega) hk2, if_neg (by omega)]; done))) (RVal.is rfl rfl (by first | (rw [tak_1 (by assumption)]; done) | (rw [tak_2 (by omega) (by assumption)]; done) | (rw [rt_y hok (by omega) (by omega) hb4.1 hb4.2]; done) | (rw [rt_y hok (by omega) (by omega) hb4.1 hb4.2]; rfl) | (rw [rt_n hok (by omega) (by omega) hk2, if_pos (by omega)]; done) | (rw [rt_n hok (by omega) (by omega) hk2, if_neg (by omega)]; done)))
      done)
  · try simp only [decide_eq_false_iff_not, ne_eq] at hb1
    all_goals (
      refine W_skip ?_
      refine thenQ_n ?_
      refine W_seq ?_
      refine W_seq ?_
      have hok : (sndV l).2 = 0 := by first | assumption | omega
      obtain ⟨hs1, hs2⟩ := snd_bd hok
      obtain ⟨hw1, hw2⟩ := wdV_in hok
      have hmm := mx_20 (l := l) hok
      have hme : mx0 l l.length = mxL l := mx0_all (by omega) (by have := (OkL.good (l := l) hok (s := 0) (by omega)); omega)
      refine W_regionE (c := 13) (c' := 15) (by kernel_rfl) rfl ?_
      refine Runs_p rfl (Valid.movek (A := Is _) rfl rfl) rfl rfl ?_ -- ref.go:87 move
      refine Runs_p rfl (Valid.lss rfl rfl rfl) rfl rfl ?_ -- ref.go:87 binOp
      refine Runs_nil ?_
      refine thenQ_n ?_
      refine W_cond _ rfl (fun hb2 => ?_) (fun hb2 => ?_)
      · try simp only [decide_eq_true_eq] at hb2
        all_goals (
          refine W_seq ?_
          refine W_regionE (c := 15) (c' := 18) (by kernel_rfl) rfl ?_
          refine Runs_p rfl (Valid.assignk (A := Is _) rfl rfl) rfl rfl ?_ -- ref.go:88 assign
          refine Runs_p rfl (Valid.assignk (A := Is _) rfl rfl) rfl rfl ?_ -- ref.go:88 assign
          refine Runs_p rfl (Valid.assignk (A := Is _) rfl rfl) rfl rfl ?_ -- ref.go:88 assign
          refine Runs_nil ?_
          refine thenQ_n ?_
          refine W_ret ?_
          refine thenQ_r ?_
          refine finQ_r ?_
          refine ResOk.three rfl (RVal.is rfl rfl (by first | (rw [tak_1 (by assumption)]; done) | (rw [tak_2 (by omega) (by assumption)]; done) | (rw [rt_y hok (by omega) (by omega) hb4.1 hb4.2]; done) | (rw [rt_y hok (by omega) (by omega) hb4.1 hb4.2]; rfl) | (rw [rt_n hok (by omega) (by omega) hk2, if_pos (by omega)]; done) | (rw [rt_n hok (by omega) (by omega) hk2, if_neg (by omega)]; done))) (RVal.is rfl rfl (by first | (rw [tak_1 (by assumption)]; done) | (rw [tak_2 (by omega) (by assumption)]; done) | (rw [rt_y hok (by omega) (by omega) hb4.1 hb4.2]; done) | (rw [rt_y hok (by omega) (by omega) hb4.1 hb4.2]; rfl) | (rw [rt_n hok (by omega) (by omega) hk2, if_pos (by omega)]; done) | (rw [rt_n hok (by omega) (by omega) hk2, if_neg (by omega)]; done))) (RVal.is rfl rfl (by first | (rw [tak_1 (by assumption)]; done) | (rw [tak_2 (by omega) (by assumption)]; done) | (rw [rt_y hok (by omega) (by omega) hb4.1 hb4.2]; done) | (rw [rt_y hok (by omega) (by omega) hb4.1 hb4.2]; rfl) | (rw [rt_n hok (by omega) (by omega) hk2, if_pos (by omega)]; done) | (rw [rt_n hok (by omega) (by omega) hk2, if_neg (by omega)]; done)))
          done)
      · try simp only [decide_eq_false_iff_not] at hb2
        all_goals (
          refine W_skip ?_
          refine thenQ_n ?_
          refine W_seq ?_
          refine W_seq ?_
          refine W_regionE (c := 15) (c' := 16) (by kernel_rfl) rfl ?_
          refine Runs_p rfl (Valid.assignk (A := Is _) rfl rfl) rfl rfl ?_ -- ref.go:90 assign
          refine Runs_nil ?_
          refine thenQ_n ?_
          refine W_block ?_
          refine W_loopx (G := Nat) (fun (k : Nat) => k ≤ l.length ∧ ∀ j, j < k → ¬ Mt l s a j) [(0, Sl 1 _ _), (1, Is _), (2, Is _), (9, Sl 2 _ _)] (fun (k : Nat) => [(11, Is (.int .i64 (k : Int)))]) [] (fun (k : Nat) => []) 16 (fun (k : Nat) => l.length - k) (0) [] (⟨by omega, fun j hj => by omega⟩) ⟨⟨(leq_is rfl rfl (by first | rfl)), trivial⟩, ⟨(leq_sl (Reads.sl rfl) rfl rfl rfl), (leq_is rfl rfl rfl), (leq_is rfl rfl rfl), (leq_sl (Reads.sl rfl) rfl rfl rfl), trivial⟩, trivial, trivial, rfl, ⟨supg rfl, trivial⟩, ⟨supg rfl, supg rfl, supg rfl, supg rfl, trivial⟩, trivial, trivial, rfl, rfl⟩ ?_
          intro k hI1
          obtain ⟨hk1, hk2⟩ := hI1
          have hwk := hw2 k
          refine W_seq ?_
          refine W_seq ?_
          refine W_regionE (c := 16) (c' := 20) (by kernel_rfl) rfl ?_
          refine Runs_p rfl (Valid.movek (A := Is _) rfl rfl) rfl rfl ?_ -- ref.go:90 move
          refine Runs_p rfl (Valid.movek (A := Sl 2 _ _) rfl rfl) rfl rfl ?_ -- ref.go:90 move
          refine Runs_p rfl (Valid.len rfl Try.underlying27 (Reads.sl rfl)) rfl rfl ?_ -- ref.go:90 call
          refine Runs_p rfl (Valid.lss rfl rfl rfl) rfl rfl ?_ -- ref.go:90 binOp
          refine Runs_nil ?_
          refine thenQ_n ?_
          refine W_cond _ rfl (fun hb3 => ?_) (fun hb3 => ?_)
          · try simp only [decide_eq_true_eq] at hb3
            all_goals (
              refine W_skip ?_
              refine thenQ_n ?_
              refine W_seq ?_
              refine W_block ?_
              refine W_seq ?_
              refine W_regionE (c := 20) (c' := 33) (by kernel_rfl) rfl ?_
              refine Runs_p rfl (Valid.movek (A := Is _) rfl rfl) rfl rfl ?_ -- ref.go:91 move
              refine Runs_p rfl (Valid.movek (A := Is _) rfl rfl) rfl rfl ?_ -- ref.go:91 move
              refine Runs_p rfl (Valid.movek (A := Sl 2 _ _) rfl rfl) rfl rfl ?_ -- ref.go:91 move
              refine Runs_p rfl (Valid.movek (A := Is _) rfl rfl) rfl rfl ?_ -- ref.go:91 move
              refine Runs_p rfl (Valid.eltE (f := (fun p : Int × Int => [Value.int .i64 p.1, Value.int .u64 p.2])) (0, 0) rfl (fun _ => rfl) Try.underlying27 sz34 (Reads.sl rfl) rfl (by first | omega | (simp only [Int.toNat_natCast, toNat_add, toNat_add1, List.length_append, List.length_cons, List.length_nil, List.length_replicate]; omega)) (by first | rfl | simp)) rfl rfl ?_ -- ref.go:91 indexAddr
              refine Runs_p rfl (Valid.fieldelt 0 rfl rfl (fun _ _ => by kernel_rfl)) rfl rfl ?_ -- ref.go:91 fieldAddr
              refine Runs_p rfl (Valid.loadelt rfl ag3 rfl) rfl rfl ?_ -- ref.go:91 load
              refine Runs_p rfl (Valid.call rfl (rget_s _ _ _ (by omega) (by omega)) ⟨argle rfl, argle rfl, argle rfl, trivial⟩) rfl rfl ?_ -- ref.go:91 call
              refine Runs_p rfl (Valid.movek (A := Tup [Is _, Is _]) rfl rfl) rfl rfl ?_ -- ref.go:91 move
              refine Runs_p rfl (Valid.extract _ rfl rfl rfl) rfl rfl ?_ -- ref.go:91 extract
              refine Runs_p rfl (Valid.extract _ rfl rfl rfl) rfl rfl ?_ -- ref.go:91 extract
              refine Runs_p rfl (Valid.assignk (A := Is _) rfl rfl) rfl rfl ?_ -- ref.go:91 assign
              refine Runs_p rfl (Valid.assignk (A := Is _) rfl rfl) rfl rfl ?_ -- ref.go:91 assign
              refine Runs_nil ?_
              refine thenQ_n ?_
              refine W_seq ?_
              refine W_regionE (c := 33) (c' := 44) (by kernel_rfl) rfl ?_
              refine Runs_p rfl (Valid.movek (A := Is _) rfl rfl) rfl rfl ?_ -- ref.go:92 move
              refine Runs_p rfl (Valid.eql rfl rfl rfl) rfl rfl ?_ -- ref.go:92 binOp
              refine Runs_p rfl (Valid.movek (A := Is _) rfl rfl) rfl rfl ?_ -- ref.go:92 move
              refine Runs_cnd rfl rfl (Grd.is rfl) [] (fun hg => trivial) (fun hg => Valid.movek (A := Is _) rfl rfl) (by rfl) rfl ?_
              refine Runs_cnd rfl rfl (Grd.is rfl) [] (fun hg => trivial) (fun hg => Valid.movek (A := Sl 2 _ _) rfl rfl) (by rfl) rfl ?_
              refine Runs_cnd rfl rfl (Grd.is rfl) [] (fun hg => trivial) (fun hg => Valid.movek (A := Is _) rfl rfl) (by rfl) rfl ?_
              refine Runs_cnd rfl rfl (Grd.is rfl) [(45, _), (46, _)] (fun hg => ⟨cnd_at rfl (by first | exact hg | exact hg.1 | exact hg.1.1 | exact hg.1.1.1), cnd_at rfl (by first | exact hg | exact hg.1 | exact hg.1.1 | exact hg.1.1.1), trivial⟩) (fun hg => Valid.eltE (f := (fun p : Int × Int => [Value.int .i64 p.1, Value.int .u64 p.2])) (0, 0) rfl (fun _ => rfl) Try.underlying27 sz34 (Reads.sl rfl) rfl (by (try simp only [Int.toNat_natCast, decide_eq_true_eq] at hg); first | omega | (simp only [Int.toNat_natCast, toNat_add, toNat_add1, List.length_append, List.length_cons, List.length_nil, List.length_replicate]; omega)) (by first | rfl | simp)) (by rfl) rfl ?_
              refine Runs_cnd rfl rfl (Grd.is rfl) [(47, _)] (fun hg => ⟨cnd_at rfl (by first | exact hg | exact hg.1 | exact hg.1.1 | exact hg.1.1.1), trivial⟩) (fun hg => Valid.fieldelt 1 rfl rfl (fun _ _ => by kernel_rfl)) (by rfl) rfl ?_
              refine Runs_cnd rfl rfl (Grd.is rfl) [(48, _)] (fun hg => ⟨cnd_at rfl (by first | exact hg | exact hg.1 | exact hg.1.1 | exact hg.1.1.1), trivial⟩) (fun hg => Valid.loadelt rfl ag32 rfl) (by rfl) rfl ?_
              refine Runs_cnd rfl rfl (Grd.is rfl) [(44, _), (49, _)] (fun hg => ⟨cnd_at rfl (by first | exact hg | exact hg.1 | exact hg.1.1 | exact hg.1.1.1), cnd_at rfl (by first | exact hg | exact hg.1 | exact hg.1.1 | exact hg.1.1.1), trivial⟩) (fun hg => Valid.eql rfl rfl rfl) (by rfl) rfl ?_
              refine Runs_p rfl (Valid.pickand rfl rfl rfl (fun h => by first | exact h | exact ⟨hg, h⟩) rfl) rfl rfl ?_ -- ref.go:92 pick
              refine Runs_nil ?_
              refine thenQ_n ?_
              refine W_cond _ rfl (fun hb4 => ?_) (fun hb4 => ?_)
              · try simp only [Int.toNat_natCast, decide_eq_true_eq, Bool.and_eq_true] at hb4
                all_goals (
                  refine W_seq ?_
                  refine W_drawE (c := 44) (c' := 55) (by kernel_rfl) rfl ?_
                  refine Runs_p rfl (Valid.movek (A := Is _) rfl rfl) rfl rfl ?_ -- ref.go:93 move
                  refine Runs_p rfl (Valid.movek (A := Is _) rfl rfl) rfl rfl ?_ -- ref.go:93 move
                  refine Runs_p rfl (Valid.movek (A := Sl 2 _ _) rfl rfl) rfl rfl ?_ -- ref.go:93 move
                  refine Runs_p rfl (Valid.movek (A := Is _) rfl rfl) rfl rfl ?_ -- ref.go:93 move
                  refine Runs_p rfl (Valid.eltE (f := (fun p : Int × Int => [Value.int .i64 p.1, Value.int .u64 p.2])) (0, 0) rfl (fun _ => rfl) Try.underlying27 sz34 (Reads.sl rfl) rfl (by first | omega | (simp only [Int.toNat_natCast, toNat_add, toNat_add1, List.length_append, List.length_cons, List.length_nil, List.length_replicate]; omega)) (by first | rfl | simp)) rfl rfl ?_ -- ref.go:93 indexAddr
                  refine Runs_p rfl (Valid.fieldelt 0 rfl rfl (fun _ _ => by kernel_rfl)) rfl rfl ?_ -- ref.go:93 fieldAddr
                  refine Runs_p rfl (Valid.loadelt rfl ag3 rfl) rfl rfl ?_ -- ref.go:93 load
                  refine Runs_p rfl (Valid.add rfl rfl rfl (room64 (by have h7 := gv_rm hb4.1; simp only [Int.toNat_natCast]; omega) (by have h7 := gv_rm hb4.1; simp only [Int.toNat_natCast]; omega))) rfl rfl ?_ -- ref.go:93 binOp
                  refine Runs_p rfl (Valid.assignk (A := Is _) rfl rfl) rfl rfl ?_ -- ref.go:93 assign
                  refine Runs_p rfl (Valid.assignk (A := Is _) rfl rfl) rfl rfl ?_ -- ref.go:93 assign
                  refine Runs_p rfl (Valid.assignk (A := Is _) rfl rfl) rfl rfl ?_ -- ref.go:93 assign
                  refine Runs_nil ?_
                  refine ⟨_, _, rfl, rfl, by kernel_rfl, ?_⟩
                  refine thenQ_n ?_
                  refine W_ret ?_
                  refine blockQ_r ?_
                  refine thenQ_r ?_
                  refine loopQ_r ?_
                  refine blockQ_r ?_
                  refine thenQ_r ?_
                  refine finQ_r ?_
                  refine ResOk.three rfl (RVal.is rfl rfl (by first | (rw [tak_1 (by assumption)]; done) | (rw [tak_2 (by omega) (by assumption)]; done) | (rw [rt_y hok (by omega) (by omega) hb4.1 hb4.2]; done) | (rw [rt_y hok (by omega) (by omega) hb4.1 hb4.2]; rfl) | (rw [rt_n hok (by omega) (by omega) hk2, if_pos (by omega)]; done) | (rw [rt_n hok (by omega) (by omega) hk2, if_neg (by omega)]; done))) (RVal.is rfl rfl (by first | (rw [tak_1 (by assumption)]; done) | (rw [tak_2 (by omega) (by assumption)]; done) | (rw [rt_y hok (by omega) (by omega) hb4.1 hb4.2]; done) | (rw [rt_y hok (by omega) (by omega) hb4.1 hb4.2]; rfl) | (rw [rt_n hok (by omega) (by omega) hk2, if_pos (by omega)]; done) | (rw [rt_n hok (by omega) (by omega) hk2, if_neg (by omega)]; done))) (RVal.is rfl rfl (by first | (rw [tak_1 (by assumption)]; done) | (rw [tak_2 (by omega) (by assumption)]; done) | (rw [rt_y hok (by omega) (by omega) hb4.1 hb4.2]; done) | (rw [rt_y hok (by omega) (by omega) hb4.1 hb4.2]; rfl) | (rw [rt_n hok (by omega) (by omega) hk2, if_pos (by omega)]; done) | (rw [rt_n hok (by omega) (by omega) hk2, if_neg (by omega)]; done)))
                  done)
              · try simp only [Int.toNat_natCast, decide_eq_false_iff_not, Bool.and_eq_false_iff] at hb4
                all_goals (
                  refine W_skip ?_
                  refine blockQ_n ?_
                  refine thenQ_n ?_
                  refine W_regionE (c := 44) (c' := 47) (by kernel_rfl) rfl ?_
                  refine Runs_p rfl (Valid.movek (A := Is _) rfl rfl) rfl rfl ?_ -- ref.go:90 move
                  refine Runs_p rfl (Valid.add rfl rfl rfl (room64 (by first | omega | (simp only [Int.toNat_natCast, toNat_add, toNat_add1, List.length_append, List.length_cons, List.length_nil, List.length_replicate]; omega)) (by first | omega | (simp only [Int.toNat_natCast, toNat_add, toNat_add1, List.length_append, List.length_cons, List.length_nil, List.length_replicate]; omega)))) rfl rfl ?_ -- ref.go:90 binOp
                  refine Runs_p rfl (Valid.assignk (A := Is _) rfl rfl) rfl rfl ?_ -- ref.go:90 assign
                  refine Runs_nil ?_
                  refine LoopQ.next (k + 1) [] (⟨by omega, fun j hj => by by_cases e : j = k; (· subst e; intro hmt; have hmt2 := (of_mt (l := l) hok (by omega) (by omega)).2 hmt; omega); (· exact hk2 j (by omega))⟩) (by omega) ⟨⟨(leq_is rfl rfl (by first | rfl)), trivial⟩, ⟨(leq_sl (Reads.sl rfl) rfl rfl rfl), (leq_is rfl rfl rfl), (leq_is rfl rfl rfl), (leq_sl (Reads.sl rfl) rfl rfl rfl), trivial⟩, trivial, trivial, rfl, ⟨supg rfl, trivial⟩, ⟨supg rfl, supg rfl, supg rfl, supg rfl, trivial⟩, trivial, trivial, rfl, rfl⟩
                  done)
              done)
          · try simp only [decide_eq_false_iff_not] at hb3
            all_goals (
              refine W_exit ?_
              refine thenQ_e ?_
              refine loopQ_e ?_
              refine blockQ_x ?_
              refine thenQ_n ?_
              refine W_seq ?_
              refine W_seq ?_
              refine W_regionE (c := 20) (c' := 28) (by kernel_rfl) rfl ?_
              refine Runs_p rfl (Valid.movek (A := Is _) rfl rfl) rfl rfl ?_ -- ref.go:96 move
              refine Runs_p rfl (Valid.movek (A := Is _) rfl rfl) rfl rfl ?_ -- ref.go:96 move
              refine Runs_p rfl (Valid.slen rfl Try.underlying9 rfl) rfl rfl ?_ -- ref.go:96 call
              refine Runs_p rfl (Valid.mul rfl rfl rfl (room64 (by first | omega | (simp only [Int.toNat_natCast, toNat_add, toNat_add1, List.length_append, List.length_cons, List.length_nil, List.length_replicate]; omega)) (by first | omega | (simp only [Int.toNat_natCast, toNat_add, toNat_add1, List.length_append, List.length_cons, List.length_nil, List.length_replicate]; omega)))) rfl rfl ?_ -- ref.go:96 binOp
              refine Runs_p rfl (Valid.movek (A := Sl 1 _ _) rfl rfl) rfl rfl ?_ -- ref.go:96 move
              refine Runs_p rfl (Valid.call rfl (great_s _ (by assumption) (by omega)) ⟨argle_sl (Reads.sl rfl), trivial⟩) rfl rfl ?_ -- ref.go:96 call
              refine Runs_p rfl (Valid.sub rfl rfl rfl (room64 (by first | omega | (simp only [Int.toNat_natCast, toNat_add, toNat_add1, List.length_append, List.length_cons, List.length_nil, List.length_replicate]; omega)) (by first | omega | (simp only [Int.toNat_natCast, toNat_add, toNat_add1, List.length_append, List.length_cons, List.length_nil, List.length_replicate]; omega)))) rfl rfl ?_ -- ref.go:96 binOp
              refine Runs_p rfl (Valid.gtr rfl rfl rfl) rfl rfl ?_ -- ref.go:96 binOp
              refine Runs_nil ?_
              refine thenQ_n ?_
              refine W_cond _ rfl (fun hb5 => ?_) (fun hb5 => ?_)
              · try simp only [decide_eq_true_eq] at hb5
                all_goals (
                  refine W_seq ?_
                  refine W_regionE (c := 28) (c' := 31) (by kernel_rfl) rfl ?_
                  refine Runs_p rfl (Valid.assignk (A := Is _) rfl rfl) rfl rfl ?_ -- ref.go:97 assign
                  refine Runs_p rfl (Valid.assignk (A := Is _) rfl rfl) rfl rfl ?_ -- ref.go:97 assign
                  refine Runs_p rfl (Valid.assignk (A := Is _) rfl rfl) rfl rfl ?_ -- ref.go:97 assign
                  refine Runs_nil ?_
                  refine thenQ_n ?_
                  refine W_ret ?_
                  refine thenQ_r ?_
                  refine finQ_r ?_
                  refine ResOk.three rfl (RVal.is rfl rfl (by first | (rw [tak_1 (by assumption)]; done) | (rw [tak_2 (by omega) (by assumption)]; done) | (rw [rt_y hok (by omega) (by omega) hb4.1 hb4.2]; done) | (rw [rt_y hok (by omega) (by omega) hb4.1 hb4.2]; rfl) | (rw [rt_n hok (by omega) (by omega) hk2, if_pos (by omega)]; done) | (rw [rt_n hok (by omega) (by omega) hk2, if_neg (by omega)]; done))) (RVal.is rfl rfl (by first | (rw [tak_1 (by assumption)]; done) | (rw [tak_2 (by omega) (by assumption)]; done) | (rw [rt_y hok (by omega) (by omega) hb4.1 hb4.2]; done) | (rw [rt_y hok (by omega) (by omega) hb4.1 hb4.2]; rfl) | (rw [rt_n hok (by omega) (by omega) hk2, if_pos (by omega)]; done) | (rw [rt_n hok (by omega) (by omega) hk2, if_neg (by omega)]; done))) (RVal.is rfl rfl (by first | (rw [tak_1 (by assumption)]; done) | (rw [tak_2 (by omega) (by assumption)]; done) | (rw [rt_y hok (by omega) (by omega) hb4.1 hb4.2]; done) | (rw [rt_y hok (by omega) (by omega) hb4.1 hb4.2]; rfl) | (rw [rt_n hok (by omega) (by omega) hk2, if_pos (by omega)]; done) | (rw [rt_n hok (by omega) (by omega) hk2, if_neg (by omega)]; done)))
                  done)
              · try simp only [decide_eq_false_iff_not] at hb5
                all_goals (
                  refine W_skip ?_
                  refine thenQ_n ?_
                  refine W_seq ?_
                  refine W_regionE (c := 28) (c' := 31) (by kernel_rfl) rfl ?_
                  refine Runs_p rfl (Valid.assignk (A := Is _) rfl rfl) rfl rfl ?_ -- ref.go:99 assign
                  refine Runs_p rfl (Valid.assignk (A := Is _) rfl rfl) rfl rfl ?_ -- ref.go:99 assign
                  refine Runs_p rfl (Valid.assignk (A := Is _) rfl rfl) rfl rfl ?_ -- ref.go:99 assign
                  refine Runs_nil ?_
                  refine thenQ_n ?_
                  refine W_ret ?_
                  refine finQ_r ?_
                  refine ResOk.three rfl (RVal.is rfl rfl (by first | (rw [tak_1 (by assumption)]; done) | (rw [tak_2 (by omega) (by assumption)]; done) | (rw [rt_y hok (by omega) (by omega) hb4.1 hb4.2]; done) | (rw [rt_y hok (by omega) (by omega) hb4.1 hb4.2]; rfl) | (rw [rt_n hok (by omega) (by omega) hk2, if_pos (by omega)]; done) | (rw [rt_n hok (by omega) (by omega) hk2, if_neg (by omega)]; done))) (RVal.is rfl rfl (by first | (rw [tak_1 (by assumption)]; done) | (rw [tak_2 (by omega) (by assumption)]; done) | (rw [rt_y hok (by omega) (by omega) hb4.1 hb4.2]; done) | (rw [rt_y hok (by omega) (by omega) hb4.1 hb4.2]; rfl) | (rw [rt_n hok (by omega) (by omega) hk2, if_pos (by omega)]; done) | (rw [rt_n hok (by omega) (by omega) hk2, if_neg (by omega)]; done))) (RVal.is rfl rfl (by first | (rw [tak_1 (by assumption)]; done) | (rw [tak_2 (by omega) (by assumption)]; done) | (rw [rt_y hok (by omega) (by omega) hb4.1 hb4.2]; done) | (rw [rt_y hok (by omega) (by omega) hb4.1 hb4.2]; rfl) | (rw [rt_n hok (by omega) (by omega) hk2, if_pos (by omega)]; done) | (rw [rt_n hok (by omega) (by omega) hk2, if_neg (by omega)]; done)))
                  done)
              done)
          done)
      done)
end Ok
end Go.Proofs.Ytnomocicogbdpaa
