/-
  WALKS of stage 9: what may be; the bits of a change; the reader.
-/
import Derived.Test.YtbfigolloaeknaaRows
import Derived.Test.YtbfigolloaeknaaMgc
import Derived.Test.YtbfigolloaeknaaDd
import Derived.Test.YtbfigolloaeknaaMha
import Derived.Test.YtbfigolloaeknaaCa
namespace Go.Proofs.Ytbfigolloaeknaa
open Go.RowKit
namespace Da
open Ab Bm Bt Dd Bb Ca
theorem ag3 (w : World) : (isAgg 3).run Try.prog w = .ok false w := by kernel_rfl
theorem ag9 (w : World) : (isAgg 9).run Try.prog w = .ok false w := by kernel_rfl
theorem sz3 (w : World) : (sizeOf 3).run Try.prog w = .ok 1 w := by kernel_rfl
def good (x : Int) : Prop := 1 ≤ x ∧ x ≤ 20
instance (x : Int) : Decidable (good x) := by unfold good; infer_instance
theorem gvS (s : ByteArray) (a n : Int) (hn : 0 ≤ n ∧ n ≤ 5) : 0 ≤ (getV s a n).1 ∧ (getV s a n).1 < 32 := by
  unfold getV
  split
  · exact ⟨by decide, by decide⟩
  · split
    · have h2 := val_lt (bitsAt s.data.toList a.toNat n.toNat)
      rw [bitsAt_len] at h2
      have h3 : 2 ^ n.toNat ≤ 2 ^ 5 := Nat.pow_le_pow_right (by omega) (by omega)
      simp only
      omega
    · exact ⟨by decide, by decide⟩
theorem gv1 (s : ByteArray) (a : Int) : (getV s a 1).1 = 0 ∨ (getV s a 1).1 = 1 := by
  unfold getV
  split
  · exact .inl rfl
  · split
    · have h2 := val_lt (bitsAt s.data.toList a.toNat (1 : Int).toNat)
      rw [bitsAt_len] at h2
      have : (2 : Nat) ^ (1 : Int).toNat = 2 := rfl
      simp only
      omega
    · exact .inl rfl
theorem gvE (s : ByteArray) (a n : Int) (h : (getV s a n).2 = 0) : 0 ≤ a ∧ a + n ≤ 8 * s.size := by
  unfold getV at h
  split at h
  · simp at h
  · rename_i h1
    split at h
    · rename_i h2
      simp at h1
      omega
    · simp at h

set_option maxRecDepth 100000 in
set_option maxHeartbeats 1000000 in
theorem may_s (n : Int) :
    FPure Try.prog 20 [Is (.int .i64 n)] (Is (.bool (decide (good n)))) := by
  refine FPure.of Try.func20 Try.ntmps20 rfl (by kernel_rfl) rfl rfl rfl ?_
  refine W_seq ?_
  refine W_regionE (c := 1) (c' := 2) (by kernel_rfl) rfl ?_
  refine Runs_p rfl (Valid.assignk (A := Is _) rfl rfl) rfl rfl ?_ -- delta.go:15 assign
  refine Runs_nil ?_
  refine thenQ_n ?_
  refine W_seq ?_
  refine W_regionE (c := 2) (c' := 9) (by kernel_rfl) rfl ?_
  refine Runs_p rfl (Valid.movek (A := Is _) rfl rfl) rfl rfl ?_ -- delta.go:15 move
  refine Runs_p rfl (Valid.leq rfl rfl rfl) rfl rfl ?_ -- delta.go:15 binOp
  refine Runs_p rfl (Valid.movek (A := Is _) rfl rfl) rfl rfl ?_ -- delta.go:15 move
  refine Runs_cnd rfl rfl (Grd.is rfl) [] (fun hg => trivial) (fun hg => Valid.movek (A := Is _) rfl rfl) (by rfl) rfl ?_
  refine Runs_cnd rfl rfl (Grd.is rfl) [(6, _)] (fun hg => ⟨cnd_at rfl (by first | exact hg | exact hg.1 | exact hg.1.1 | exact hg.1.1.1), trivial⟩) (fun hg => Valid.leq rfl rfl rfl) (by rfl) rfl ?_
  refine Runs_p rfl (Valid.pickand rfl rfl rfl (fun h => by first | exact h | exact ⟨hg, h⟩) rfl) rfl rfl ?_ -- delta.go:15 pick
  refine Runs_p rfl (Valid.assignk (A := Is _) rfl rfl) rfl rfl ?_ -- delta.go:15 assign
  refine Runs_nil ?_
  refine thenQ_n ?_
  refine W_ret ?_
  refine finQ_r ?_
  refine ResOk.one rfl (RVal.is rfl rfl (by unfold good; first | (simp; done) | rfl | (by_cases h : 1 ≤ n <;> simp [h])))

set_option maxRecDepth 100000 in
set_option maxHeartbeats 1000000 in
theorem number_s (s : ByteArray) (hs : s.size ≤ 100000000000) (a l : Int) (ha : a ≤ 1000000000000) (n : Int) (hn : 0 ≤ n ∧ n ≤ 5) (v : Int) (h : (getV s a n).2 = 0) (hv : (getV s a n).1 = v) :
    FMem Try.prog 28 [Ptr 1 0, Is (.int .i64 n)] [(1, .var 58 [Is (.string s), Is (.int .i64 a), Is (.int .i64 l)])] (Is (.int .i64 v)) [(1, .var 58 [Is (.string s), Is (.int .i64 (a + n)), Is (.int .i64 l)])] := by
  refine FMem.of Try.func28 Try.ntmps28 rfl (by kernel_rfl) rfl rfl rfl ?_
  refine W_seq ?_
  refine W_regionE (c := 1) (c' := 2) (by kernel_rfl) rfl ?_
  refine Runs_p rfl (Valid.assignk (A := Is _) rfl rfl) rfl rfl ?_ -- delta.go:69 assign
  refine Runs_nil ?_
  refine thenQ_n ?_
  refine W_seq ?_
  have hgb := gvS s a n hn
  have hge := gvE s a n h
  refine W_drawE (c := 2) (c' := 17) (by kernel_rfl) rfl ?_
  refine Runs_p rfl (Valid.movek (A := Ptr 1 0) rfl rfl) rfl rfl ?_ -- delta.go:70 move
  refine Runs_p rfl (Valid.nilcheck rfl rfl) rfl rfl ?_ -- delta.go:70 nilCheck
  refine Runs_p rfl (Valid.fieldaddr (off' := 0) rfl rfl (fun _ _ => by kernel_rfl)) rfl rfl ?_ -- delta.go:70 fieldAddr
  refine Runs_p rfl (Valid.load _ rfl ag9 rfl rfl rfl) rfl rfl ?_ -- delta.go:70 load
  refine Runs_p rfl (Valid.movek (A := Ptr 1 0) rfl rfl) rfl rfl ?_ -- delta.go:70 move
  refine Runs_p rfl (Valid.nilcheck rfl rfl) rfl rfl ?_ -- delta.go:70 nilCheck
  refine Runs_p rfl (Valid.fieldaddr (off' := 1) rfl rfl (fun _ _ => by kernel_rfl)) rfl rfl ?_ -- delta.go:70 fieldAddr
  refine Runs_p rfl (Valid.load _ rfl ag3 rfl rfl rfl) rfl rfl ?_ -- delta.go:70 load
  refine Runs_p rfl (Valid.movek (A := Is _) rfl rfl) rfl rfl ?_ -- delta.go:70 move
  refine Runs_p rfl (Valid.call rfl (get_f _ _ _ (by omega) (by omega)) ⟨argle rfl, argle rfl, argle rfl, trivial⟩) rfl rfl ?_ -- delta.go:70 call
  refine Runs_p rfl (Valid.movek (A := Tup [Is _, Is _]) rfl rfl) rfl rfl ?_ -- delta.go:70 move
  refine Runs_p rfl (Valid.extract _ rfl rfl rfl) rfl rfl ?_ -- delta.go:70 extract
  refine Runs_p rfl (Valid.extract _ rfl rfl rfl) rfl rfl ?_ -- delta.go:70 extract
  refine Runs_p rfl (Valid.assignk (A := Is _) rfl rfl) rfl rfl ?_ -- delta.go:70 assign
  refine Runs_p rfl (Valid.assignk (A := Is _) rfl rfl) rfl rfl ?_ -- delta.go:70 assign
  refine Runs_nil ?_
  refine ⟨_, _, rfl, rfl, by kernel_rfl, ?_⟩
  refine thenQ_n ?_
  refine W_seq ?_
  refine W_regionE (c := 17) (c' := 19) (by kernel_rfl) rfl ?_
  refine Runs_p rfl (Valid.movek (A := Is _) rfl rfl) rfl rfl ?_ -- delta.go:71 move
  refine Runs_p rfl (Valid.call rfl (need_y _ (by assumption)) ⟨argle rfl, trivial⟩) rfl rfl ?_ -- delta.go:71 call
  refine Runs_nil ?_
  refine thenQ_n ?_
  refine W_seq ?_
  refine W_regionE (c := 19) (c' := 28) (by kernel_rfl) rfl ?_
  refine Runs_p rfl (Valid.movek (A := Ptr 1 0) rfl rfl) rfl rfl ?_ -- delta.go:72 move
  refine Runs_p rfl (Valid.nilcheck rfl rfl) rfl rfl ?_ -- delta.go:72 nilCheck
  refine Runs_p rfl (Valid.fieldaddr (off' := 1) rfl rfl (fun _ _ => by kernel_rfl)) rfl rfl ?_ -- delta.go:72 fieldAddr
  refine Runs_p rfl (Valid.load _ rfl ag3 rfl rfl rfl) rfl rfl ?_ -- delta.go:72 load
  refine Runs_p rfl (Valid.movek (A := Is _) rfl rfl) rfl rfl ?_ -- delta.go:72 move
  refine Runs_p rfl (Valid.add rfl rfl rfl (room64 (by first | omega | (simp only [Int.toNat_natCast, toNat_add, toNat_add1, List.length_append, List.length_cons, List.length_nil, List.length_replicate]; omega)) (by first | omega | (simp only [Int.toNat_natCast, toNat_add, toNat_add1, List.length_append, List.length_cons, List.length_nil, List.length_replicate]; omega)))) rfl rfl ?_ -- delta.go:72 binOp
  refine Runs_p rfl (Valid.nilcheck rfl rfl) rfl rfl ?_ -- delta.go:72 nilCheck
  refine Runs_p rfl (Valid.fieldaddr (off' := 1) rfl rfl (fun _ _ => by kernel_rfl)) rfl rfl ?_ -- delta.go:72 fieldAddr
  refine Runs_op rfl (Valid.store rfl sz3 rfl rfl (Nat.le_of_ble_eq_true rfl) (One.is rfl rfl rfl)) rfl ?_ -- delta.go:72 store
  refine Runs_nil ?_
  refine thenQ_n ?_
  refine W_seq ?_
  refine W_regionE (c := 28) (c' := 31) (by kernel_rfl) rfl ?_
  refine Runs_p rfl (Valid.movek (A := Is _) rfl rfl) rfl rfl ?_ -- delta.go:73 move
  refine Runs_p rfl (Valid.convr rfl rfl Try.underlying47 Try.underlying3 (room64 (by first | omega | (simp only [Int.toNat_natCast, toNat_add, toNat_add1, List.length_append, List.length_cons, List.length_nil, List.length_replicate]; omega)) (by first | omega | (simp only [Int.toNat_natCast, toNat_add, toNat_add1, List.length_append, List.length_cons, List.length_nil, List.length_replicate]; omega)))) rfl rfl ?_ -- delta.go:73 convert
  refine Runs_p rfl (Valid.assignk (A := Is _) rfl rfl) rfl rfl ?_ -- delta.go:73 assign
  refine Runs_nil ?_
  refine thenQ_n ?_
  refine W_ret ?_
  refine finMQ_r ?_
  exact FinM.of [] (ResOk.one rfl (RVal.is rfl rfl (by rw [hv]))) rfl ⟨hp_var rfl ⟨(leq_is rfl rfl (by first | rfl | (simp; done) | omega | (simp [toNat_add, toNat_add1, Nat.add_assoc]; done) | (simp [toNat_add, toNat_add1]; omega))), (leq_is rfl rfl (by first | rfl | (simp; done) | omega | (simp [toNat_add, toNat_add1, Nat.add_assoc]; done) | (simp [toNat_add, toNat_add1]; omega))), (leq_is rfl rfl (by first | rfl | (simp; done) | omega | (simp [toNat_add, toNat_add1, Nat.add_assoc]; done) | (simp [toNat_add, toNat_add1]; omega))), trivial⟩, trivial⟩ rfl rfl

set_option maxRecDepth 100000 in
set_option maxHeartbeats 1000000 in
theorem number_u (s : ByteArray) (hs : s.size ≤ 100000000000) (a l : Int) (ha : a ≤ 1000000000000) (n : Int) (_hn : 0 ≤ n ∧ n ≤ 5) (e : Int) (h : (getV s a n).2 ≠ 0) (hv : (getV s a n).2 = e) :
    FUp Try.prog 28 [Ptr 1 0, Is (.int .i64 n)] [(1, .var 58 [Is (.string s), Is (.int .i64 a), Is (.int .i64 l)])] (Dd.up e) := by
  refine FUp.of Try.func28 Try.ntmps28 rfl (by kernel_rfl) rfl rfl rfl ?_
  refine W_seq ?_
  refine W_regionE (c := 1) (c' := 2) (by kernel_rfl) rfl ?_
  refine Runs_p rfl (Valid.assignk (A := Is _) rfl rfl) rfl rfl ?_ -- delta.go:69 assign
  refine Runs_nil ?_
  refine thenQ_n ?_
  refine W_seq ?_
  refine W_drawE (c := 2) (c' := 17) (by kernel_rfl) rfl ?_
  refine Runs_p rfl (Valid.movek (A := Ptr 1 0) rfl rfl) rfl rfl ?_ -- delta.go:70 move
  refine Runs_p rfl (Valid.nilcheck rfl rfl) rfl rfl ?_ -- delta.go:70 nilCheck
  refine Runs_p rfl (Valid.fieldaddr (off' := 0) rfl rfl (fun _ _ => by kernel_rfl)) rfl rfl ?_ -- delta.go:70 fieldAddr
  refine Runs_p rfl (Valid.load _ rfl ag9 rfl rfl rfl) rfl rfl ?_ -- delta.go:70 load
  refine Runs_p rfl (Valid.movek (A := Ptr 1 0) rfl rfl) rfl rfl ?_ -- delta.go:70 move
  refine Runs_p rfl (Valid.nilcheck rfl rfl) rfl rfl ?_ -- delta.go:70 nilCheck
  refine Runs_p rfl (Valid.fieldaddr (off' := 1) rfl rfl (fun _ _ => by kernel_rfl)) rfl rfl ?_ -- delta.go:70 fieldAddr
  refine Runs_p rfl (Valid.load _ rfl ag3 rfl rfl rfl) rfl rfl ?_ -- delta.go:70 load
  refine Runs_p rfl (Valid.movek (A := Is _) rfl rfl) rfl rfl ?_ -- delta.go:70 move
  refine Runs_p rfl (Valid.call rfl (get_f _ _ _ (by omega) (by omega)) ⟨argle rfl, argle rfl, argle rfl, trivial⟩) rfl rfl ?_ -- delta.go:70 call
  refine Runs_p rfl (Valid.movek (A := Tup [Is _, Is _]) rfl rfl) rfl rfl ?_ -- delta.go:70 move
  refine Runs_p rfl (Valid.extract _ rfl rfl rfl) rfl rfl ?_ -- delta.go:70 extract
  refine Runs_p rfl (Valid.extract _ rfl rfl rfl) rfl rfl ?_ -- delta.go:70 extract
  refine Runs_p rfl (Valid.assignk (A := Is _) rfl rfl) rfl rfl ?_ -- delta.go:70 assign
  refine Runs_p rfl (Valid.assignk (A := Is _) rfl rfl) rfl rfl ?_ -- delta.go:70 assign
  refine Runs_nil ?_
  refine ⟨_, _, rfl, rfl, by kernel_rfl, ?_⟩
  refine thenQ_n ?_
  refine W_seq ?_
  · skip
    refine W_up 1 (by kernel_rfl) rfl rfl (c' := 19) rfl ?_
    refine Runs_p rfl (Valid.movek (A := Is _) rfl rfl) rfl rfl ?_ -- delta.go:71 move
    refine Runs_nil ?_
    refine ⟨_, _, VUp.callm [] rfl (.inl ⟨rfl, rfl⟩) (need_n _ h) ⟨(leq_is rfl rfl rfl), trivial⟩ trivial (by kernel_rfl) (by kernel_rfl) (by kernel_rfl), by kernel_rfl, ?_⟩
    refine thenQ_p ?_
    show _ = _
    rw [hv]

set_option maxRecDepth 100000 in
set_option maxHeartbeats 1000000 in
theorem number_ub (s : ByteArray) (hs : s.size ≤ 100000000000) (a l : Int) (ha : a ≤ 9223372036854775807) (n : Int) (_hn : 0 ≤ n ∧ n ≤ 5) (e : Int) (h : (getV s a n).2 ≠ 0) (hv : (getV s a n).2 = e) :
    FUp Try.prog 28 [Ptr 1 0, Is (.int .i64 n)] [(1, .var 58 [Is (.string s), Is (.int .i64 a), Is (.int .i64 l)])] (Dd.up e) := by
  refine FUp.of Try.func28 Try.ntmps28 rfl (by kernel_rfl) rfl rfl rfl ?_
  refine W_seq ?_
  refine W_regionE (c := 1) (c' := 2) (by kernel_rfl) rfl ?_
  refine Runs_p rfl (Valid.assignk (A := Is _) rfl rfl) rfl rfl ?_ -- delta.go:69 assign
  refine Runs_nil ?_
  refine thenQ_n ?_
  refine W_seq ?_
  refine W_drawE (c := 2) (c' := 17) (by kernel_rfl) rfl ?_
  refine Runs_p rfl (Valid.movek (A := Ptr 1 0) rfl rfl) rfl rfl ?_ -- delta.go:70 move
  refine Runs_p rfl (Valid.nilcheck rfl rfl) rfl rfl ?_ -- delta.go:70 nilCheck
  refine Runs_p rfl (Valid.fieldaddr (off' := 0) rfl rfl (fun _ _ => by kernel_rfl)) rfl rfl ?_ -- delta.go:70 fieldAddr
  refine Runs_p rfl (Valid.load _ rfl ag9 rfl rfl rfl) rfl rfl ?_ -- delta.go:70 load
  refine Runs_p rfl (Valid.movek (A := Ptr 1 0) rfl rfl) rfl rfl ?_ -- delta.go:70 move
  refine Runs_p rfl (Valid.nilcheck rfl rfl) rfl rfl ?_ -- delta.go:70 nilCheck
  refine Runs_p rfl (Valid.fieldaddr (off' := 1) rfl rfl (fun _ _ => by kernel_rfl)) rfl rfl ?_ -- delta.go:70 fieldAddr
  refine Runs_p rfl (Valid.load _ rfl ag3 rfl rfl rfl) rfl rfl ?_ -- delta.go:70 load
  refine Runs_p rfl (Valid.movek (A := Is _) rfl rfl) rfl rfl ?_ -- delta.go:70 move
  refine Runs_p rfl (Valid.call rfl (get_f _ _ _ (by omega) (by omega)) ⟨argle rfl, argle rfl, argle rfl, trivial⟩) rfl rfl ?_ -- delta.go:70 call
  refine Runs_p rfl (Valid.movek (A := Tup [Is _, Is _]) rfl rfl) rfl rfl ?_ -- delta.go:70 move
  refine Runs_p rfl (Valid.extract _ rfl rfl rfl) rfl rfl ?_ -- delta.go:70 extract
  refine Runs_p rfl (Valid.extract _ rfl rfl rfl) rfl rfl ?_ -- delta.go:70 extract
  refine Runs_p rfl (Valid.assignk (A := Is _) rfl rfl) rfl rfl ?_ -- delta.go:70 assign
  refine Runs_p rfl (Valid.assignk (A := Is _) rfl rfl) rfl rfl ?_ -- delta.go:70 assign
  refine Runs_nil ?_
  refine ⟨_, _, rfl, rfl, by kernel_rfl, ?_⟩
  refine thenQ_n ?_
  refine W_seq ?_
  · skip
    refine W_up 1 (by kernel_rfl) rfl rfl (c' := 19) rfl ?_
    refine Runs_p rfl (Valid.movek (A := Is _) rfl rfl) rfl rfl ?_ -- delta.go:71 move
    refine Runs_nil ?_
    refine ⟨_, _, VUp.callm [] rfl (.inl ⟨rfl, rfl⟩) (need_n _ h) ⟨(leq_is rfl rfl rfl), trivial⟩ trivial (by kernel_rfl) (by kernel_rfl) (by kernel_rfl), by kernel_rfl, ?_⟩
    refine thenQ_p ?_
    show _ = _
    rw [hv]

set_option maxRecDepth 100000 in
set_option maxHeartbeats 1000000 in
theorem become_s (s : ByteArray) (a l m : Int) (h : good m) :
    FMem Try.prog 27 [Ptr 1 0, Is (.int .i64 m)] [(1, .var 58 [Is (.string s), Is (.int .i64 a), Is (.int .i64 l)])] (Is (.tuple #[])) [(1, .var 58 [Is (.string s), Is (.int .i64 a), Is (.int .i64 m)])] := by
  refine FMem.of Try.func27 Try.ntmps27 rfl (by kernel_rfl) rfl rfl rfl ?_
  refine W_seq ?_
  refine W_seq ?_
  refine W_regionE (c := 1) (c' := 4) (by kernel_rfl) rfl ?_
  refine Runs_p rfl (Valid.movek (A := Is _) rfl rfl) rfl rfl ?_ -- delta.go:77 move
  refine Runs_p rfl (Valid.call rfl (may_s _) ⟨argle rfl, trivial⟩) rfl rfl ?_ -- delta.go:77 call
  refine Runs_p rfl (Valid.not rfl rfl) rfl rfl ?_ -- delta.go:77 unOp
  refine Runs_nil ?_
  refine thenQ_n ?_
  refine W_cond _ rfl (fun hb1 => ?_) (fun hb1 => ?_)
  · try simp only [decide_eq_false_iff_not, Bool.not_eq_true'] at hb1
    all_goals (
      exfalso
      first | omega | (simp [h] at hb1; done) | exact hb1 h | exact h hb1
      
      done)
  · try simp only [decide_eq_true_eq, Bool.not_eq_false'] at hb1
    all_goals (
      refine W_skip ?_
      refine thenQ_n ?_
      refine W_regionE (c := 4) (c' := 9) (by kernel_rfl) rfl ?_
      refine Runs_p rfl (Valid.movek (A := Ptr 1 0) rfl rfl) rfl rfl ?_ -- delta.go:80 move
      refine Runs_p rfl (Valid.movek (A := Is _) rfl rfl) rfl rfl ?_ -- delta.go:80 move
      refine Runs_p rfl (Valid.nilcheck rfl rfl) rfl rfl ?_ -- delta.go:80 nilCheck
      refine Runs_p rfl (Valid.fieldaddr (off' := 2) rfl rfl (fun _ _ => by kernel_rfl)) rfl rfl ?_ -- delta.go:80 fieldAddr
      refine Runs_op rfl (Valid.store rfl sz3 rfl rfl (Nat.le_of_ble_eq_true rfl) (One.is rfl rfl rfl)) rfl ?_ -- delta.go:80 store
      refine Runs_nil ?_
      refine finMQ_n ?_
      exact FinM.of [] (ResOk.none rfl (fun _ _ => rfl)) rfl ⟨hp_var rfl ⟨(leq_is rfl rfl (by first | rfl | (simp; done) | omega | (simp [toNat_add, toNat_add1, Nat.add_assoc]; done) | (simp [toNat_add, toNat_add1]; omega))), (leq_is rfl rfl (by first | rfl | (simp; done) | omega | (simp [toNat_add, toNat_add1, Nat.add_assoc]; done) | (simp [toNat_add, toNat_add1]; omega))), (leq_is rfl rfl (by first | rfl | (simp; done) | omega | (simp [toNat_add, toNat_add1, Nat.add_assoc]; done) | (simp [toNat_add, toNat_add1]; omega))), trivial⟩, trivial⟩ rfl rfl
      done)

set_option maxRecDepth 100000 in
set_option maxHeartbeats 1000000 in
theorem become_u (s : ByteArray) (a l m : Int) (h : ¬ good m) :
    FUp Try.prog 27 [Ptr 1 0, Is (.int .i64 m)] [(1, .var 58 [Is (.string s), Is (.int .i64 a), Is (.int .i64 l)])] (Dd.up 3) := by
  refine FUp.of Try.func27 Try.ntmps27 rfl (by kernel_rfl) rfl rfl rfl ?_
  refine W_seq ?_
  refine W_seq ?_
  refine W_regionE (c := 1) (c' := 4) (by kernel_rfl) rfl ?_
  refine Runs_p rfl (Valid.movek (A := Is _) rfl rfl) rfl rfl ?_ -- delta.go:77 move
  refine Runs_p rfl (Valid.call rfl (may_s _) ⟨argle rfl, trivial⟩) rfl rfl ?_ -- delta.go:77 call
  refine Runs_p rfl (Valid.not rfl rfl) rfl rfl ?_ -- delta.go:77 unOp
  refine Runs_nil ?_
  refine thenQ_n ?_
  refine W_cond _ rfl (fun hb1 => ?_) (fun hb1 => ?_)
  · try simp only [decide_eq_false_iff_not, Bool.not_eq_true'] at hb1
    all_goals (
      · skip
        refine W_up 0 (by kernel_rfl) rfl rfl (c' := 5) rfl ?_
        refine Runs_nil ?_
        refine ⟨_, _, VUp.callm [] rfl (.inl ⟨rfl, rfl⟩) (need_n 3 (by decide)) ⟨(leq_is rfl rfl rfl), trivial⟩ trivial (by kernel_rfl) (by kernel_rfl) (by kernel_rfl), by kernel_rfl, ?_⟩
        refine thenQ_p ?_
        show _ = _
        rfl
      done)
  · try simp only [decide_eq_true_eq, Bool.not_eq_false'] at hb1
    all_goals (
      exfalso
      first | omega | (simp [h] at hb1; done) | exact hb1 h | exact h hb1
      
      done)
end Da
end Go.Proofs.Ytbfigolloaeknaa
