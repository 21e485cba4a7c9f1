/-
  WALKS of stage 8: Check; the symbol that has so many ahead.
-/
import Derived.Test.YtdcenocljnlipaaRows
import Derived.Test.YtdcenocljnlipaaOa
import Derived.Test.YtdcenocljnlipaaOb
import Derived.Test.YtdcenocljnlipaaOc
namespace Go.Proofs.Ytdcenocljnlipaa
open Go.RowKit
namespace Od
open Ab Oa Ob Oc
theorem sz53 (w : World) : (sizeOf 53).run Try.prog w = .ok 21 w := by kernel_rfl
theorem zv53 (w : World) : (zeroValue 53).run Try.prog w = .ok (.agg #[(Value.int .u64 0), (Value.int .u64 0), (Value.int .u64 0), (Value.int .u64 0), (Value.int .u64 0), (Value.int .u64 0), (Value.int .u64 0), (Value.int .u64 0), (Value.int .u64 0), (Value.int .u64 0), (Value.int .u64 0), (Value.int .u64 0), (Value.int .u64 0), (Value.int .u64 0), (Value.int .u64 0), (Value.int .u64 0), (Value.int .u64 0), (Value.int .u64 0), (Value.int .u64 0), (Value.int .u64 0), (Value.int .u64 0)]) w := by kernel_rfl
theorem sndV_len (l : List Int) : (sndV l).1.length = 21 := by
  unfold sndV
  split
  · rfl
  · split
    · rfl
    · exact cntV_len l

set_option maxRecDepth 100000 in
set_option maxHeartbeats 1000000 in
theorem check_s (l : List Int) (hin : In64 l) (hl : l.length ≤ 9223372036854775807) :
    FPure Try.prog 20 [Sl 1 l.length (l.map (Value.int .i64))] (Is (.int .i64 (sndV l).2)) := by
  refine FPure.of Try.func20 Try.ntmps20 rfl (by kernel_rfl) rfl rfl rfl ?_
  refine W_seq ?_
  refine W_regionE (c := 1) (c' := 2) (by kernel_rfl) rfl ?_
  refine Runs_p rfl (Valid.assignk (A := Is _) rfl rfl) rfl rfl ?_ -- code.go:46 assign
  refine Runs_nil ?_
  refine thenQ_n ?_
  refine W_seq ?_
  refine W_regionE (c := 2) (c' := 10) (by kernel_rfl) rfl ?_
  refine Runs_p rfl (Valid.movek (A := Sl 1 _ _) rfl rfl) rfl rfl ?_ -- code.go:47 move
  refine Runs_p rfl (Valid.call rfl (sound_s _ (by assumption) (by omega)) ⟨argle_sl (Reads.sl rfl), trivial⟩) rfl rfl ?_ -- code.go:47 call
  refine Runs_p rfl (Valid.movek (A := Tup [Is _, Is _]) rfl rfl) rfl rfl ?_ -- code.go:47 move
  refine Runs_p rfl (Valid.extract _ rfl rfl rfl) rfl rfl ?_ -- code.go:47 extract
  refine Runs_p rfl (Valid.extract _ rfl rfl rfl) rfl rfl ?_ -- code.go:47 extract
  refine Runs_w rfl (Valid.allocarr (f := Value.int .u64) (zg := 0) (n := 21) rfl zv53 (by kernel_rfl)) rfl rfl ?_ -- code.go:47 alloc
  refine Runs_op rfl (Valid.storeall rfl sz53 rfl rfl (by first | rfl | exact sndV_len l) rfl (by first | rfl | exact sndV_len l) (fun _ => rfl)) rfl ?_ -- code.go:47 store
  refine Runs_p rfl (Valid.assignk (A := Is _) rfl rfl) rfl rfl ?_ -- code.go:47 assign
  refine Runs_nil ?_
  refine thenQ_n ?_
  refine W_seq ?_
  refine W_regionE (c := 10) (c' := 12) (by kernel_rfl) rfl ?_
  refine Runs_p rfl (Valid.movek (A := Is _) rfl rfl) rfl rfl ?_ -- code.go:48 move
  refine Runs_p rfl (Valid.assignk (A := Is _) rfl rfl) rfl rfl ?_ -- code.go:48 assign
  refine Runs_nil ?_
  refine thenQ_n ?_
  refine W_ret ?_
  refine finQ_r ?_
  refine ResOk.one rfl (RVal.is rfl rfl (rfl))

def nthV (l : List Int) (n : Int) (a : Nat) : Nat := if a < (olL l n).length then (olL l n).getD a 0 else 0
def resS (l : List Int) (n : Int) (a k : Nat) : Int := if a < k then (((olL l n).getD a 0 : Nat) : Int) else 0
theorem res_0 {l : List Int} {n : Int} {a k : Nat} (h : k ≤ a) : resS l n a k = 0 := by rw [resS, if_neg (by omega)]
theorem res_1 {l : List Int} {n : Int} {a k : Nat} (h : k = a) : resS l n a (k + 1) = (((olL l n).getD k 0 : Nat) : Int) := by subst h; rw [resS, if_pos (by omega)]
def goN (a k : Nat) : Bool := !decide (k = a)
theorem goN_all {a n : Nat} (h : ∀ j, j < n → goN a j = true) : n ≤ a := Classical.byContradiction fun hn => by
  have := h a (by omega)
  simp [goN] at this
theorem goN_f {a k : Nat} (h : goN a k = false) : k = a := by simpa [goN] using h
end Od
end Go.Proofs.Ytdcenocljnlipaa
