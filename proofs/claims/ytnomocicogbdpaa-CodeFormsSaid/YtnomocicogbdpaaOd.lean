/-
  WALKS of stage 8: Check; the symbol that has so many ahead.
-/
import Derived.Test.YtnomocicogbdpaaRows
import Derived.Test.YtnomocicogbdpaaOa
import Derived.Test.YtnomocicogbdpaaOb
import Derived.Test.YtnomocicogbdpaaOc
namespace Go.Proofs.Ytnomocicogbdpaa
open Go.RowKit
namespace Od
open Ab Oa Ob Oc
theorem ag3 (w : World) : (isAgg 3).run Try.prog w = .ok false w := by kernel_rfl
theorem ag32 (w : World) : (isAgg 32).run Try.prog w = .ok false w := by kernel_rfl
theorem sz3 (w : World) : (sizeOf 3).run Try.prog w = .ok 1 w := by kernel_rfl
theorem sz32 (w : World) : (sizeOf 32).run Try.prog w = .ok 1 w := by kernel_rfl
theorem sz57 (w : World) : (sizeOf 57).run Try.prog w = .ok 21 w := by kernel_rfl
theorem zv3 (w : World) : (zeroValue 3).run Try.prog w = .ok (Value.int .i64 0) w := by kernel_rfl
theorem zv57 (w : World) : (zeroValue 57).run Try.prog w = .ok (.agg #[(Value.int .u64 0), (Value.int .u64 0), (Value.int .u64 0), (Value.int .u64 0), (Value.int .u64 0), (Value.int .u64 0), (Value.int .u64 0), (Value.int .u64 0), (Value.int .u64 0), (Value.int .u64 0), (Value.int .u64 0), (Value.int .u64 0), (Value.int .u64 0), (Value.int .u64 0), (Value.int .u64 0), (Value.int .u64 0), (Value.int .u64 0), (Value.int .u64 0), (Value.int .u64 0), (Value.int .u64 0), (Value.int .u64 0)]) w := by kernel_rfl
theorem sndV_len (l : List Int) : (sndV l).1.length = 21 := by
  unfold sndV
  split
  · rfl
  · split
    · rfl
    · exact cntV_len l

set_option maxRecDepth 100000 in
set_option maxHeartbeats 1000000 in
theorem check_s (l : List Int) (hin : In64 l) (hl : l.length ≤ 9223372036854775807) :
    FPure Try.prog 15 [Sl 1 l.length (l.map (Value.int .i64))] (Is (.int .i64 (sndV l).2)) := by
  refine FPure.of Try.func15 Try.ntmps15 rfl (by kernel_rfl) rfl rfl rfl ?_
  refine W_seq ?_
  refine W_regionE (c := 1) (c' := 2) (by kernel_rfl) rfl ?_
  refine Runs_p rfl (Valid.assignk (A := Is _) rfl rfl) rfl rfl ?_ -- code.go:46 assign
  refine Runs_nil ?_
  refine thenQ_n ?_
  refine W_seq ?_
  refine W_regionE (c := 2) (c' := 10) (by kernel_rfl) rfl ?_
  refine Runs_p rfl (Valid.movek (A := Sl 1 _ _) rfl rfl) rfl rfl ?_ -- code.go:47 move
  refine Runs_p rfl (Valid.call rfl (sound_s _ (by assumption) (by omega)) ⟨argle_sl (Reads.sl rfl), trivial⟩) rfl rfl ?_ -- code.go:47 call
  refine Runs_p rfl (Valid.movek (A := Tup [Is _, Is _]) rfl rfl) rfl rfl ?_ -- code.go:47 move
  refine Runs_p rfl (Valid.extract _ rfl rfl rfl) rfl rfl ?_ -- code.go:47 extract
  refine Runs_p rfl (Valid.extract _ rfl rfl rfl) rfl rfl ?_ -- code.go:47 extract
  refine Runs_w rfl (Valid.allocarr (f := Value.int .u64) (zg := 0) (n := 21) rfl zv57 (by kernel_rfl)) rfl rfl ?_ -- code.go:47 alloc
  refine Runs_op rfl (Valid.storeall rfl sz57 rfl rfl (by first | rfl | exact sndV_len l) rfl (by first | rfl | exact sndV_len l) (fun _ => rfl)) rfl ?_ -- code.go:47 store
  refine Runs_p rfl (Valid.assignk (A := Is _) rfl rfl) rfl rfl ?_ -- code.go:47 assign
  refine Runs_nil ?_
  refine thenQ_n ?_
  refine W_seq ?_
  refine W_regionE (c := 10) (c' := 12) (by kernel_rfl) rfl ?_
  refine Runs_p rfl (Valid.movek (A := Is _) rfl rfl) rfl rfl ?_ -- code.go:48 move
  refine Runs_p rfl (Valid.assignk (A := Is _) rfl rfl) rfl rfl ?_ -- code.go:48 assign
  refine Runs_nil ?_
  refine thenQ_n ?_
  refine W_ret ?_
  refine finQ_r ?_
  refine ResOk.one rfl (RVal.is rfl rfl (rfl))

def nthV (l : List Int) (n : Int) (a : Nat) : Nat := if a < (olL l n).length then (olL l n).getD a 0 else 0
def resS (l : List Int) (n : Int) (a k : Nat) : Int := if a < k then (((olL l n).getD a 0 : Nat) : Int) else 0
theorem res_0 {l : List Int} {n : Int} {a k : Nat} (h : k ≤ a) : resS l n a k = 0 := by rw [resS, if_neg (by omega)]
theorem res_1 {l : List Int} {n : Int} {a k : Nat} (h : k = a) : resS l n a (k + 1) = (((olL l n).getD k 0 : Nat) : Int) := by subst h; rw [resS, if_pos (by omega)]
def goN (a k : Nat) : Bool := !decide (k = a)
theorem goN_all {a n : Nat} (h : ∀ j, j < n → goN a j = true) : n ≤ a := Classical.byContradiction fun hn => by
  have := h a (by omega)
  simp [goN] at this
theorem goN_f {a k : Nat} (h : goN a k = false) : k = a := by simpa [goN] using h

set_option maxRecDepth 100000 in
set_option maxHeartbeats 1000000 in
theorem nth_s (l : List Int) (n : Int) (a : Nat) (ha : a < 18446744073709551616) (hl : l.length ≤ 1000000000000) :
    FPure Try.prog 32 [Sl 1 l.length (l.map (Value.int .i64)), Is (.int .i64 n), Is (.int .u64 (a : Int))] (Is (.int .i64 ((nthV l n a : Nat) : Int))) := by
  refine FPure.of Try.func32 Try.ntmps32 rfl (by kernel_rfl) rfl rfl rfl ?_
  refine W_seq ?_
  refine W_regionE (c := 1) (c' := 3) (by kernel_rfl) rfl ?_
  refine Runs_w rfl (Valid.box rfl (One.is rfl rfl rfl)) rfl rfl ?_ -- code.go:123 box
  refine Runs_w rfl (Valid.alloc [(Value.int .i64 0)] rfl zv3 rfl) rfl rfl ?_ -- code.go:123 alloc
  refine Runs_nil ?_
  refine thenQ_n ?_
  refine W_seq ?_
  refine W_seq ?_
  refine W_regionE (c := 3) (c' := 6) (by kernel_rfl) rfl ?_
  refine Runs_p rfl (Valid.movek (A := Sl 1 _ _) rfl rfl) rfl rfl ?_ -- code.go:124 move
  refine Runs_p rfl (Valid.movek (A := Is _) rfl rfl) rfl rfl ?_ -- code.go:124 move
  refine Runs_p rfl (Valid.call rfl (of_s _ _) ⟨argle_sl (Reads.sl rfl), argle rfl, trivial⟩) rfl rfl ?_ -- code.go:124 call
  refine Runs_nil ?_
  refine thenQ_n ?_
  refine W_block ?_
  refine W_range (n := (olL l n).length) (vals := fun q => [Is (.int .i64 (((olL l n).getD q 0 : Nat) : Int))]) (go := goN a) (jc := .ret) (h0 := [(1, .var 32 [Is _]), (2, .var 3 [Is _])]) (hin := fun k => [(1, .var 32 [Is (.int .u64 ((a - k : Nat) : Int))]), (2, .var 3 [Is (.int .i64 (resS l n a k))])]) (hin' := fun k => [(8, .var 32 [Is (.int .u64 ((a - k : Nat) : Int))]), (16, .var 3 [Is (.int .i64 (resS l n a k))])]) (fx := [(5, Ptr 1 0), (6, Ptr 2 0)]) [(1, 8), (2, 16)] [] rfl (capsOk_fv rfl (capsOk_fz capsOk_nil)) (of_it l n (by omega)) (by kernel_rfl) (fun _ => rfl) (fun _ => valsOk_is [_]) (by kernel_rfl) ⟨(leq_ptr rfl rfl rfl), (leq_ptr rfl rfl rfl), trivial⟩ (fun _ => by kernel_rfl) ⟨⟨_, rfl, .var ⟨(leq_is rfl rfl rfl), trivial⟩⟩, ⟨_, rfl, .var ⟨(leq_is rfl rfl rfl), trivial⟩⟩, trivial⟩ (by kernel_rfl) (by kernel_rfl) (by kernel_rfl) ⟨hp_var rfl ⟨(leq_is rfl rfl (by first | rfl)), trivial⟩, hp_var rfl ⟨(leq_is rfl rfl (by first | rfl)), trivial⟩, trivial⟩ (by kernel_rfl) (by kernel_rfl) (fun _ => by kernel_rfl) (fun _ => by kernel_rfl) (fun _ => (hpup_cons (j := 8) rfl (cup_var (allup_cons (up_pure rfl) allup_nil)) (hpup_cons (j := 16) rfl (cup_var (allup_cons (up_pure rfl) allup_nil)) hpup_nil))) (by kernel_rfl) (fun _ => by kernel_rfl) ?_ ?_ ?_
  · intro k hk1 hgo1
    have hka := goN_all hgo1
    refine W_regionE (c := 2) (c' := 3) (by kernel_rfl) rfl ?_
    refine Runs_p rfl (Valid.assignk (A := Is _) rfl rfl) rfl rfl ?_ -- code.go:124 assign
    refine Runs_nil ?_
    refine ⟨rfl, ?_⟩
    refine W_block ?_
    refine W_seq ?_
    refine W_seq ?_
    refine W_regionE (c := 3) (c' := 5) (by kernel_rfl) rfl ?_
    refine Runs_p rfl (Valid.load _ rfl ag32 rfl rfl rfl) rfl rfl ?_ -- code.go:125 load
    refine Runs_p rfl (Valid.eql rfl rfl rfl) rfl rfl ?_ -- code.go:125 binOp
    refine Runs_nil ?_
    refine thenQ_n ?_
    refine W_cond _ rfl (fun hb1 => ?_) (fun hb1 => ?_)
    · try simp only [decide_eq_true_eq] at hb1
      all_goals (
        refine W_seq ?_
        refine W_regionE (c := 5) (c' := 7) (by kernel_rfl) rfl ?_
        refine Runs_p rfl (Valid.movek (A := Is _) rfl rfl) rfl rfl ?_ -- code.go:126 move
        refine Runs_op rfl (Valid.store rfl sz3 rfl rfl (Nat.le_of_ble_eq_true rfl) (One.is rfl rfl rfl)) rfl ?_ -- code.go:126 store
        refine Runs_nil ?_
        refine thenQ_n ?_
        refine W_ret ?_
        refine thenQ_r ?_
        refine blockQ_r ?_
        exact roundQ_r [] (by unfold goN; simp; omega) ⟨hp_var rfl ⟨(leq_is rfl rfl (by first | rfl | exact congrArg (Value.int .i64) (res_1 (by omega)).symm | exact congrArg (Value.int .i64) ((res_0 (by omega)).trans (res_0 (by omega)).symm) | exact congrArg (Value.int .u64) (by omega) | exact congrArg (Value.int .u64) (by rw [IntKind.wrap_u64, Int.emod_eq_of_lt (by omega) (by omega)]; omega))), trivial⟩, hp_var rfl ⟨(leq_is rfl rfl (by first | rfl | exact congrArg (Value.int .i64) (res_1 (by omega)).symm | exact congrArg (Value.int .i64) ((res_0 (by omega)).trans (res_0 (by omega)).symm) | exact congrArg (Value.int .u64) (by omega) | exact congrArg (Value.int .u64) (by rw [IntKind.wrap_u64, Int.emod_eq_of_lt (by omega) (by omega)]; omega))), trivial⟩, trivial⟩ rfl rfl
        done)
    · try simp only [decide_eq_false_iff_not] at hb1
      all_goals (
        refine W_skip ?_
        refine thenQ_n ?_
        refine W_regionE (c := 5) (c' := 8) (by kernel_rfl) rfl ?_
        refine Runs_p rfl (Valid.load _ rfl ag32 rfl rfl rfl) rfl rfl ?_ -- code.go:128 load
        refine Runs_p rfl (Valid.subw rfl rfl rfl) rfl rfl ?_ -- code.go:128 binOp
        refine Runs_op rfl (Valid.store rfl sz32 rfl rfl (Nat.le_of_ble_eq_true rfl) (One.is rfl rfl rfl)) rfl ?_ -- code.go:128 store
        refine Runs_nil ?_
        refine blockQ_n ?_
        exact roundQ_n [] (by unfold goN; simp; omega) ⟨hp_var rfl ⟨(leq_is rfl rfl (by first | rfl | exact congrArg (Value.int .i64) (res_1 (by omega)).symm | exact congrArg (Value.int .i64) ((res_0 (by omega)).trans (res_0 (by omega)).symm) | exact congrArg (Value.int .u64) (by omega) | exact congrArg (Value.int .u64) (by rw [IntKind.wrap_u64, Int.emod_eq_of_lt (by omega) (by omega)]; omega))), trivial⟩, hp_var rfl ⟨(leq_is rfl rfl (by first | rfl | exact congrArg (Value.int .i64) (res_1 (by omega)).symm | exact congrArg (Value.int .i64) ((res_0 (by omega)).trans (res_0 (by omega)).symm) | exact congrArg (Value.int .u64) (by omega) | exact congrArg (Value.int .u64) (by rw [IntKind.wrap_u64, Int.emod_eq_of_lt (by omega) (by omega)]; omega))), trivial⟩, trivial⟩ rfl rfl
        done)
  · intro hall1
    refine blockQ_n ?_
    refine thenQ_n ?_
    refine W_seq ?_
    refine W_regionE (c := 7) (c' := 8) (by kernel_rfl) rfl ?_
    refine Runs_op rfl (Valid.store rfl sz3 rfl rfl (Nat.le_of_ble_eq_true rfl) (One.is rfl rfl rfl)) rfl ?_ -- code.go:130 store
    refine Runs_nil ?_
    refine thenQ_n ?_
    refine W_ret ?_
    refine finQ_r ?_
    refine ResOk.one rfl (RVal.cell ag3 rfl rfl rfl (by first | exact argle (congrArg (fun z : Int => Is (Value.int .i64 z)) (show (0 : Int) = ((nthV l n a : Nat) : Int) by rw [nthV, if_neg (by have := goN_all hall1; omega)]; rfl)) | exact argle (congrArg (fun z : Int => Is (Value.int .i64 z)) (show resS l n a (k + 1) = ((nthV l n a : Nat) : Int) by rw [res_1 (goN_f hgk1), nthV, if_pos (by rw [← goN_f hgk1]; exact hk1), goN_f hgk1]))))
  · intro k hk1 hgo1 hgk1
    refine W_ret ?_
    refine blockQ_r ?_
    refine thenQ_r ?_
    refine finQ_r ?_
    refine ResOk.one rfl (RVal.cell ag3 rfl rfl rfl (by first | exact argle (congrArg (fun z : Int => Is (Value.int .i64 z)) (show (0 : Int) = ((nthV l n a : Nat) : Int) by rw [nthV, if_neg (by have := goN_all hall1; omega)]; rfl)) | exact argle (congrArg (fun z : Int => Is (Value.int .i64 z)) (show resS l n a (k + 1) = ((nthV l n a : Nat) : Int) by rw [res_1 (goN_f hgk1), nthV, if_pos (by rw [← goN_f hgk1]; exact hk1), goN_f hgk1]))))
end Od
end Go.Proofs.Ytnomocicogbdpaa
