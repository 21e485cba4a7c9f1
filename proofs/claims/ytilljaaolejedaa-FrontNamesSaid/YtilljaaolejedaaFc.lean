/-
  WALKS of stage 5: the program, whole.
-/
import Derived.Test.YtilljaaolejedaaRows
import Derived.Test.YtilljaaolejedaaAbq
import Derived.Test.YtilljaaolejedaaCm
import Derived.Test.YtilljaaolejedaaFa
import Derived.Test.YtilljaaolejedaaFb
namespace Go.Proofs.Ytilljaaolejedaa
open Go.RowKit
namespace Fc
open Ab Cm Fa Fb
theorem ag22 (w : World) : (isAgg 22).run Try.prog w = .ok false w := by kernel_rfl
theorem ag3 (w : World) : (isAgg 3).run Try.prog w = .ok false w := by kernel_rfl
theorem ag40 (w : World) : (isAgg 40).run Try.prog w = .ok false w := by kernel_rfl
theorem ag47 (w : World) : (isAgg 47).run Try.prog w = .ok false w := by kernel_rfl
theorem sz3 (w : World) : (sizeOf 3).run Try.prog w = .ok 1 w := by kernel_rfl
theorem sz40 (w : World) : (sizeOf 40).run Try.prog w = .ok 1 w := by kernel_rfl
theorem ti5 : TI Try.prog 5 1 1 := .mk' (z := (Value.int .u8 0)) (by kernel_rfl) rfl
theorem frontV_ok {a s : ByteArray} (hR : RightP a) (hok : okF a.data.toList s) : frontV a s = (plL a.data.toList s s.size, 0) := by rw [frontV, if_neg (by simpa using hR), if_pos hok]
theorem frontV_no {a s : ByteArray} (hno : RightP a → ¬ okF a.data.toList s) : (frontV a s).1 = [] ∧ (frontV a s).2 ≠ 0 := by
  unfold frontV
  by_cases hR : RightP a
  · rw [if_neg (by simpa using hR), if_neg (hno hR)]; exact ⟨rfl, by simp⟩
  · rw [if_pos hR]; exact ⟨rfl, by simp⟩
theorem afterV_ok {a s : ByteArray} (hR : RightP a) (hok : okF a.data.toList s) : afterV a s = (⟨(frL a.data.toList s s.size).toArray⟩, 0) := by rw [afterV, if_neg (by simpa using hR), if_pos hok]
theorem afterV_no {a s : ByteArray} (hno : RightP a → ¬ okF a.data.toList s) : (afterV a s).1 = ByteArray.empty ∧ (afterV a s).2 = (frontV a s).2 := by
  unfold afterV frontV
  by_cases hR : RightP a
  · rw [if_neg (by simpa using hR), if_neg (hno hR), if_neg (by simpa using hR), if_neg (hno hR)]; exact ⟨rfl, rfl⟩
  · rw [if_pos hR, if_pos hR]; exact ⟨rfl, rfl⟩

set_option maxRecDepth 100000 in
set_option maxHeartbeats 1000000 in
theorem front_ok (a s : ByteArray) (ha : a.size ≤ 1000000000) (hs : s.size ≤ 1000000000) (hR : RightP a) (hok : okF a.data.toList s) :
    FPure Try.prog 15 [Is (.string a), Is (.string s)] (Tup [Sl 1 (frontV a s).1.length ((frontV a s).1.map (Value.int .i64)), Is (.int .i64 (frontV a s).2)]) := by
  refine FPure.of Try.func15 Try.ntmps15 rfl (by kernel_rfl) rfl rfl rfl ?_
  refine W_seq ?_
  refine W_regionE (c := 1) (c' := 3) (by kernel_rfl) rfl ?_
  refine Runs_p rfl (Valid.assignk (A := Is (.slice none 0 0)) rfl rfl) rfl rfl ?_ -- front.go:82 assign
  refine Runs_p rfl (Valid.assignk (A := Is _) rfl rfl) rfl rfl ?_ -- front.go:82 assign
  refine Runs_nil ?_
  refine thenQ_n ?_
  refine W_seq ?_
  refine W_regionE (c := 3) (c' := 11) (by kernel_rfl) rfl ?_
  refine Runs_p rfl (Valid.movek (A := Is _) rfl rfl) rfl rfl ?_ -- front.go:83 move
  refine Runs_p rfl (Valid.movek (A := Is _) rfl rfl) rfl rfl ?_ -- front.go:83 move
  refine Runs_w rfl (Valid.callm [] rfl (.inl ⟨rfl, rfl⟩) (gone_ok _ _ (by omega) (by omega) hR hok) ⟨(leq_is rfl rfl rfl), (leq_is rfl rfl rfl), trivial⟩ trivial (up_tup (allup_cons (up_ptr' (id' := 41) rfl) (allup_cons (up_pure rfl) allup_nil))) (hpup_cons (j := 41) rfl (cup_var (allup_cons (up_buf (id' := 42) rfl) (allup_cons (up_own' (id' := 43) rfl) (allup_cons (up_pure rfl) allup_nil)))) (hpup_cons (j := 42) rfl cup_buf (hpup_cons (j := 43) rfl cup_row hpup_nil))) (by kernel_rfl) (by kernel_rfl) (by kernel_rfl) (by kernel_rfl) (by kernel_rfl) (by kernel_rfl) (by kernel_rfl) (by kernel_rfl) (by kernel_rfl)) rfl rfl ?_ -- front.go:83 call
  refine Runs_p rfl (Valid.movek (A := Tup [Ptr 41 0, Is _]) rfl rfl) rfl rfl ?_ -- front.go:83 move
  refine Runs_p rfl (Valid.extract _ rfl rfl rfl) rfl rfl ?_ -- front.go:83 extract
  refine Runs_p rfl (Valid.extract _ rfl rfl rfl) rfl rfl ?_ -- front.go:83 extract
  refine Runs_p rfl (Valid.assignk (A := Ptr 41 0) rfl rfl) rfl rfl ?_ -- front.go:83 assign
  refine Runs_p rfl (Valid.assignk (A := Is _) rfl rfl) rfl rfl ?_ -- front.go:83 assign
  refine Runs_nil ?_
  refine thenQ_n ?_
  refine W_seq ?_
  refine W_seq ?_
  refine W_regionE (c := 11) (c' := 13) (by kernel_rfl) rfl ?_
  refine Runs_p rfl (Valid.movek (A := Is _) rfl rfl) rfl rfl ?_ -- front.go:84 move
  refine Runs_p rfl (Valid.neq rfl rfl rfl) rfl rfl ?_ -- front.go:84 binOp
  refine Runs_nil ?_
  refine thenQ_n ?_
  refine W_cond _ rfl (fun hb1 => ?_) (fun hb1 => ?_)
  · try simp only [decide_eq_true_eq, not_true_eq_false, ne_eq] at hb1
    all_goals (
      exfalso
      simp at hb1
      
      done)
  · try simp only [decide_eq_false_iff_not, not_true_eq_false, not_false_eq_true, ne_eq] at hb1
    all_goals (
      refine W_skip ?_
      refine thenQ_n ?_
      refine W_seq ?_
      refine W_regionE (c := 13) (c' := 19) (by kernel_rfl) rfl ?_
      refine Runs_p rfl (Valid.movek (A := Ptr 41 0) rfl rfl) rfl rfl ?_ -- front.go:87 move
      refine Runs_p rfl (Valid.nilcheck rfl rfl) rfl rfl ?_ -- front.go:87 nilCheck
      refine Runs_p rfl (Valid.fieldaddr (off' := 1) rfl rfl (fun _ _ => by kernel_rfl)) rfl rfl ?_ -- front.go:87 fieldAddr
      refine Runs_p rfl (Valid.load _ rfl ag22 rfl rfl rfl) rfl rfl ?_ -- front.go:87 load
      refine Runs_p rfl (Valid.assignk (A := Own 43 1 _ _) rfl rfl) rfl rfl ?_ -- front.go:87 assign
      refine Runs_p rfl (Valid.assignk (A := Is _) rfl rfl) rfl rfl ?_ -- front.go:87 assign
      refine Runs_nil ?_
      refine thenQ_n ?_
      refine W_ret ?_
      refine finQ_r ?_
      refine ResOk.two rfl (RVal.sl (Reads.own rfl) rfl (by rw [frontV_ok hR hok, plL_len]) (by rw [frontV_ok hR hok])) (RVal.is rfl rfl (by rw [frontV_ok hR hok]))
      done)

set_option maxRecDepth 100000 in
set_option maxHeartbeats 1000000 in
theorem front_no (a s : ByteArray) (ha : a.size ≤ 1000000000) (hs : s.size ≤ 1000000000) (hno : RightP a → ¬ okF a.data.toList s) :
    FPure Try.prog 15 [Is (.string a), Is (.string s)] (Tup [Sl 1 (frontV a s).1.length ((frontV a s).1.map (Value.int .i64)), Is (.int .i64 (frontV a s).2)]) := by
  refine FPure.of Try.func15 Try.ntmps15 rfl (by kernel_rfl) rfl rfl rfl ?_
  refine W_seq ?_
  refine W_regionE (c := 1) (c' := 3) (by kernel_rfl) rfl ?_
  refine Runs_p rfl (Valid.assignk (A := Is (.slice none 0 0)) rfl rfl) rfl rfl ?_ -- front.go:82 assign
  refine Runs_p rfl (Valid.assignk (A := Is _) rfl rfl) rfl rfl ?_ -- front.go:82 assign
  refine Runs_nil ?_
  refine thenQ_n ?_
  refine W_seq ?_
  refine W_regionE (c := 3) (c' := 11) (by kernel_rfl) rfl ?_
  refine Runs_p rfl (Valid.movek (A := Is _) rfl rfl) rfl rfl ?_ -- front.go:83 move
  refine Runs_p rfl (Valid.movek (A := Is _) rfl rfl) rfl rfl ?_ -- front.go:83 move
  refine Runs_p rfl (Valid.call rfl (gone_no _ _ (by omega) (by omega) hno) ⟨argle rfl, argle rfl, trivial⟩) rfl rfl ?_ -- front.go:83 call
  refine Runs_p rfl (Valid.movek (A := Tup [Is _, Is _]) rfl rfl) rfl rfl ?_ -- front.go:83 move
  refine Runs_p rfl (Valid.extract _ rfl rfl rfl) rfl rfl ?_ -- front.go:83 extract
  refine Runs_p rfl (Valid.extract _ rfl rfl rfl) rfl rfl ?_ -- front.go:83 extract
  refine Runs_p rfl (Valid.assignk (A := Is _) rfl rfl) rfl rfl ?_ -- front.go:83 assign
  refine Runs_p rfl (Valid.assignk (A := Is _) rfl rfl) rfl rfl ?_ -- front.go:83 assign
  refine Runs_nil ?_
  refine thenQ_n ?_
  refine W_seq ?_
  refine W_seq ?_
  refine W_regionE (c := 11) (c' := 13) (by kernel_rfl) rfl ?_
  refine Runs_p rfl (Valid.movek (A := Is _) rfl rfl) rfl rfl ?_ -- front.go:84 move
  refine Runs_p rfl (Valid.neq rfl rfl rfl) rfl rfl ?_ -- front.go:84 binOp
  refine Runs_nil ?_
  refine thenQ_n ?_
  refine W_cond _ rfl (fun hb1 => ?_) (fun hb1 => ?_)
  · try simp only [decide_eq_true_eq, ne_eq] at hb1
    all_goals (
      refine W_seq ?_
      refine W_regionE (c := 13) (c' := 16) (by kernel_rfl) rfl ?_
      refine Runs_p rfl (Valid.movek (A := Is _) rfl rfl) rfl rfl ?_ -- front.go:85 move
      refine Runs_p rfl (Valid.assignk (A := Is (.slice none 0 0)) rfl rfl) rfl rfl ?_ -- front.go:85 assign
      refine Runs_p rfl (Valid.assignk (A := Is _) rfl rfl) rfl rfl ?_ -- front.go:85 assign
      refine Runs_nil ?_
      refine thenQ_n ?_
      refine W_ret ?_
      refine thenQ_r ?_
      refine finQ_r ?_
      refine ResOk.two rfl (RVal.sl (Reads.nil rfl) rfl (by rw [(frontV_no hno).1]; rfl) (by rw [(frontV_no hno).1]; rfl)) (RVal.is rfl rfl (by rfl))
      done)
  · try simp only [decide_eq_false_iff_not, ne_eq] at hb1
    all_goals (
      exact absurd (frontV_no hno).2 hb1
      
      done)

set_option maxRecDepth 100000 in
set_option maxHeartbeats 1000000 in
theorem after_ok (a s : ByteArray) (ha : a.size ≤ 1000000000) (hs : s.size ≤ 1000000000) (hR : RightP a) (hok : okF a.data.toList s) :
    FPure Try.prog 17 [Is (.string a), Is (.string s)] (Tup [Is (.string (afterV a s).1), Is (.int .i64 (afterV a s).2)]) := by
  refine FPure.of Try.func17 Try.ntmps17 rfl (by kernel_rfl) rfl rfl rfl ?_
  refine W_seq ?_
  refine W_regionE (c := 1) (c' := 3) (by kernel_rfl) rfl ?_
  refine Runs_p rfl (Valid.assignk (A := Is _) rfl rfl) rfl rfl ?_ -- front.go:91 assign
  refine Runs_p rfl (Valid.assignk (A := Is _) rfl rfl) rfl rfl ?_ -- front.go:91 assign
  refine Runs_nil ?_
  refine thenQ_n ?_
  refine W_seq ?_
  refine W_regionE (c := 3) (c' := 11) (by kernel_rfl) rfl ?_
  refine Runs_p rfl (Valid.movek (A := Is _) rfl rfl) rfl rfl ?_ -- front.go:92 move
  refine Runs_p rfl (Valid.movek (A := Is _) rfl rfl) rfl rfl ?_ -- front.go:92 move
  refine Runs_w rfl (Valid.callm [] rfl (.inl ⟨rfl, rfl⟩) (gone_ok _ _ (by omega) (by omega) hR hok) ⟨(leq_is rfl rfl rfl), (leq_is rfl rfl rfl), trivial⟩ trivial (up_tup (allup_cons (up_ptr' (id' := 41) rfl) (allup_cons (up_pure rfl) allup_nil))) (hpup_cons (j := 41) rfl (cup_var (allup_cons (up_buf (id' := 42) rfl) (allup_cons (up_own' (id' := 43) rfl) (allup_cons (up_pure rfl) allup_nil)))) (hpup_cons (j := 42) rfl cup_buf (hpup_cons (j := 43) rfl cup_row hpup_nil))) (by kernel_rfl) (by kernel_rfl) (by kernel_rfl) (by kernel_rfl) (by kernel_rfl) (by kernel_rfl) (by kernel_rfl) (by kernel_rfl) (by kernel_rfl)) rfl rfl ?_ -- front.go:92 call
  refine Runs_p rfl (Valid.movek (A := Tup [Ptr 41 0, Is _]) rfl rfl) rfl rfl ?_ -- front.go:92 move
  refine Runs_p rfl (Valid.extract _ rfl rfl rfl) rfl rfl ?_ -- front.go:92 extract
  refine Runs_p rfl (Valid.extract _ rfl rfl rfl) rfl rfl ?_ -- front.go:92 extract
  refine Runs_p rfl (Valid.assignk (A := Ptr 41 0) rfl rfl) rfl rfl ?_ -- front.go:92 assign
  refine Runs_p rfl (Valid.assignk (A := Is _) rfl rfl) rfl rfl ?_ -- front.go:92 assign
  refine Runs_nil ?_
  refine thenQ_n ?_
  refine W_seq ?_
  refine W_seq ?_
  refine W_regionE (c := 11) (c' := 13) (by kernel_rfl) rfl ?_
  refine Runs_p rfl (Valid.movek (A := Is _) rfl rfl) rfl rfl ?_ -- front.go:93 move
  refine Runs_p rfl (Valid.neq rfl rfl rfl) rfl rfl ?_ -- front.go:93 binOp
  refine Runs_nil ?_
  refine thenQ_n ?_
  refine W_cond _ rfl (fun hb1 => ?_) (fun hb1 => ?_)
  · try simp only [decide_eq_true_eq, not_true_eq_false, ne_eq] at hb1
    all_goals (
      exfalso
      simp at hb1
      
      done)
  · try simp only [decide_eq_false_iff_not, not_true_eq_false, not_false_eq_true, ne_eq] at hb1
    all_goals (
      refine W_skip ?_
      refine thenQ_n ?_
      refine W_seq ?_
      refine W_regionE (c := 13) (c' := 20) (by kernel_rfl) rfl ?_
      refine Runs_p rfl (Valid.movek (A := Ptr 41 0) rfl rfl) rfl rfl ?_ -- front.go:96 move
      refine Runs_p rfl (Valid.nilcheck rfl rfl) rfl rfl ?_ -- front.go:96 nilCheck
      refine Runs_p rfl (Valid.fieldaddr (off' := 0) rfl rfl (fun _ _ => by kernel_rfl)) rfl rfl ?_ -- front.go:96 fieldAddr
      refine Runs_p rfl (Valid.load _ rfl ag47 rfl rfl rfl) rfl rfl ?_ -- front.go:96 load
      refine Runs_p rfl (Valid.stringB rfl Try.underlying47 Try.underlying5 Try.underlying9 rfl rfl) rfl rfl ?_ -- front.go:96 convert
      refine Runs_p rfl (Valid.assignk (A := Is _) rfl rfl) rfl rfl ?_ -- front.go:96 assign
      refine Runs_p rfl (Valid.assignk (A := Is _) rfl rfl) rfl rfl ?_ -- front.go:96 assign
      refine Runs_nil ?_
      refine thenQ_n ?_
      refine W_ret ?_
      refine finQ_r ?_
      refine ResOk.two rfl (RVal.is rfl rfl (by rw [afterV_ok hR hok])) (RVal.is rfl rfl (by rw [afterV_ok hR hok]))
      done)

set_option maxRecDepth 100000 in
set_option maxHeartbeats 1000000 in
theorem after_no (a s : ByteArray) (ha : a.size ≤ 1000000000) (hs : s.size ≤ 1000000000) (hno : RightP a → ¬ okF a.data.toList s) :
    FPure Try.prog 17 [Is (.string a), Is (.string s)] (Tup [Is (.string (afterV a s).1), Is (.int .i64 (afterV a s).2)]) := by
  refine FPure.of Try.func17 Try.ntmps17 rfl (by kernel_rfl) rfl rfl rfl ?_
  refine W_seq ?_
  refine W_regionE (c := 1) (c' := 3) (by kernel_rfl) rfl ?_
  refine Runs_p rfl (Valid.assignk (A := Is _) rfl rfl) rfl rfl ?_ -- front.go:91 assign
  refine Runs_p rfl (Valid.assignk (A := Is _) rfl rfl) rfl rfl ?_ -- front.go:91 assign
  refine Runs_nil ?_
  refine thenQ_n ?_
  refine W_seq ?_
  refine W_regionE (c := 3) (c' := 11) (by kernel_rfl) rfl ?_
  refine Runs_p rfl (Valid.movek (A := Is _) rfl rfl) rfl rfl ?_ -- front.go:92 move
  refine Runs_p rfl (Valid.movek (A := Is _) rfl rfl) rfl rfl ?_ -- front.go:92 move
  refine Runs_p rfl (Valid.call rfl (gone_no _ _ (by omega) (by omega) hno) ⟨argle rfl, argle rfl, trivial⟩) rfl rfl ?_ -- front.go:92 call
  refine Runs_p rfl (Valid.movek (A := Tup [Is _, Is _]) rfl rfl) rfl rfl ?_ -- front.go:92 move
  refine Runs_p rfl (Valid.extract _ rfl rfl rfl) rfl rfl ?_ -- front.go:92 extract
  refine Runs_p rfl (Valid.extract _ rfl rfl rfl) rfl rfl ?_ -- front.go:92 extract
  refine Runs_p rfl (Valid.assignk (A := Is _) rfl rfl) rfl rfl ?_ -- front.go:92 assign
  refine Runs_p rfl (Valid.assignk (A := Is _) rfl rfl) rfl rfl ?_ -- front.go:92 assign
  refine Runs_nil ?_
  refine thenQ_n ?_
  refine W_seq ?_
  refine W_seq ?_
  refine W_regionE (c := 11) (c' := 13) (by kernel_rfl) rfl ?_
  refine Runs_p rfl (Valid.movek (A := Is _) rfl rfl) rfl rfl ?_ -- front.go:93 move
  refine Runs_p rfl (Valid.neq rfl rfl rfl) rfl rfl ?_ -- front.go:93 binOp
  refine Runs_nil ?_
  refine thenQ_n ?_
  refine W_cond _ rfl (fun hb1 => ?_) (fun hb1 => ?_)
  · try simp only [decide_eq_true_eq, ne_eq] at hb1
    all_goals (
      refine W_seq ?_
      refine W_regionE (c := 13) (c' := 16) (by kernel_rfl) rfl ?_
      refine Runs_p rfl (Valid.movek (A := Is _) rfl rfl) rfl rfl ?_ -- front.go:94 move
      refine Runs_p rfl (Valid.assignk (A := Is _) rfl rfl) rfl rfl ?_ -- front.go:94 assign
      refine Runs_p rfl (Valid.assignk (A := Is _) rfl rfl) rfl rfl ?_ -- front.go:94 assign
      refine Runs_nil ?_
      refine thenQ_n ?_
      refine W_ret ?_
      refine thenQ_r ?_
      refine finQ_r ?_
      refine ResOk.two rfl (RVal.is rfl rfl (by rw [(afterV_no hno).1]; rfl)) (RVal.is rfl rfl (by rw [(afterV_no hno).2]))
      done)
  · try simp only [decide_eq_false_iff_not, ne_eq] at hb1
    all_goals (
      exact absurd (frontV_no hno).2 hb1
      
      done)

theorem front_s (a s : ByteArray) (ha : a.size ≤ 1000000000) (hs : s.size ≤ 1000000000) : FPure Try.prog 15 [Is (.string a), Is (.string s)] (Tup [Sl 1 (frontV a s).1.length ((frontV a s).1.map (Value.int .i64)), Is (.int .i64 (frontV a s).2)]) := by
  by_cases h : RightP a ∧ okF a.data.toList s
  · exact front_ok a s ha hs h.1 h.2
  · exact front_no a s ha hs (fun h1 h2 => h ⟨h1, h2⟩)
theorem after_s (a s : ByteArray) (ha : a.size ≤ 1000000000) (hs : s.size ≤ 1000000000) : FPure Try.prog 17 [Is (.string a), Is (.string s)] (Tup [Is (.string (afterV a s).1), Is (.int .i64 (afterV a s).2)]) := by
  by_cases h : RightP a ∧ okF a.data.toList s
  · exact after_ok a s ha hs h.1 h.2
  · exact after_no a s ha hs (fun h1 h2 => h ⟨h1, h2⟩)
/-! back again -/
def bkL (l : List UInt8) (p : List Int) : Nat → List UInt8
  | 0 => l
  | k + 1 => mtf (bkL l p k) (p.getD k 0).toNat
  termination_by k => k
def txL (l : List UInt8) (p : List Int) : Nat → List UInt8
  | 0 => []
  | k + 1 => txL l p k ++ [(bkL l p k).getD (p.getD k 0).toNat 0]
  termination_by k => k
def okB (l : List UInt8) (p : List Int) : Prop := ∀ k, k < p.length → 0 ≤ p.getD k 0 ∧ p.getD k 0 < l.length
instance (l : List UInt8) (p : List Int) : Decidable (okB l p) := inferInstanceAs (Decidable (∀ k, k < p.length → _))
theorem bkL_0 (l : List UInt8) (p : List Int) : bkL l p 0 = l := by rw [bkL]
theorem bkL_1 (l : List UInt8) (p : List Int) (k : Nat) : mtf (bkL l p k) (p.getD (k : Int).toNat 0).toNat = bkL l p (k + 1) := by rw [bkL]; rfl
theorem txL_0 (l : List UInt8) (p : List Int) : txL l p 0 = [] := by rw [txL]
theorem txL_1m (l : List UInt8) (p : List Int) (k : Nat) : (txL l p k).map B ++ [B ((bkL l p k).getD (p.getD (k : Int).toNat 0).toNat 0)] = (txL l p (k + 1)).map B := by rw [txL, List.map_append]; rfl
theorem txL_len (l : List UInt8) (p : List Int) : ∀ k, (txL l p k).length = k
  | 0 => by rw [txL_0]; rfl
  | k + 1 => by rw [txL, List.length_append, txL_len l p k]; rfl
theorem bkL_len (l : List UInt8) (p : List Int) : ∀ k, (∀ j, j < k → 0 ≤ p.getD j 0 ∧ p.getD j 0 < l.length) → (bkL l p k).length = l.length
  | 0, _ => by rw [bkL_0]
  | k + 1, h => by
    have ih := bkL_len l p k (fun j hj => h j (by omega))
    have h1 := h k (by omega)
    rw [bkL, mtf_len _ _ (by omega), ih]

set_option maxRecDepth 100000 in
set_option maxHeartbeats 1000000 in
theorem rback_ok (l : List UInt8) (p : List Int) (hl : l.length ≤ 1000000000) (hp : p.length ≤ 1000000000) (hok : okB l p) :
    FMem Try.prog 26 [Ptr 1 0, Sl 1 p.length (p.map (Value.int .i64))] [(1, .var 49 [Buf 2 l.length, Is (.slice none 0 0), Own 3 1 0 []]), (2, .buf 5 (l.map B)), (3, .row 5 1 0 [])] (Is (.bool true)) [(1, .var 49 [Buf 2 l.length, Is (.slice none 0 0), Own 11 1 p.length ((txL l p p.length).map B)]), (2, .buf 5 ((bkL l p p.length).map B)), (11, .row 5 1 p.length ((txL l p p.length).map B))] := by
  refine FMem.of Try.func26 Try.ntmps26 rfl (by kernel_rfl) rfl rfl rfl ?_
  refine W_seq ?_
  refine W_regionE (c := 1) (c' := 2) (by kernel_rfl) rfl ?_
  refine Runs_p rfl (Valid.assignk (A := Is _) rfl rfl) rfl rfl ?_ -- front.go:47 assign
  refine Runs_nil ?_
  refine thenQ_n ?_
  refine W_seq ?_
  refine W_seq ?_
  refine W_regionE (c := 2) (c' := 5) (by kernel_rfl) rfl ?_
  refine Runs_p rfl (Valid.movek (A := Sl 1 _ _) rfl rfl) rfl rfl ?_ -- front.go:48 move
  refine Runs_p rfl (Valid.len rfl Try.underlying22 (Reads.sl rfl)) rfl rfl ?_ -- front.go:48 call
  refine Runs_p rfl (Valid.movek (A := Is _) rfl rfl) rfl rfl ?_ -- front.go:48 move
  refine Runs_nil ?_
  refine thenQ_n ?_
  refine W_block ?_
  refine W_loopx (G := Nat) (fun (k : Nat) => k ≤ p.length ∧ ∀ j, j < k → 0 ≤ p.getD j 0 ∧ p.getD j 0 < l.length) [(0, Ptr 1 0), (7, Sl 1 _ _), (8, Is _)] (fun (k : Nat) => [(9, Is (.int .i64 (k : Int)))]) [] (fun (k : Nat) => [(1, .var 49 [Buf 2 l.length, Is (.slice none 0 0), Own 40 1 k ((txL l p k).map B)]), (2, .buf 5 ((bkL l p k).map (B))), (40, .row 5 1 k ((txL l p k).map B))]) 6 (fun (k : Nat) => p.length - k) (0) [(40, 3)] (⟨by omega, fun j hj => by omega⟩) ⟨⟨(leq_is rfl rfl (by first | rfl | (rw [txL_0]; rfl) | (rw [bkL_0]))), trivial⟩, ⟨(leq_ptr rfl rfl rfl), (leq_sl (Reads.sl rfl) rfl rfl rfl), (leq_is rfl rfl rfl), trivial⟩, ⟨hp_var rfl ⟨(leq_buf rfl rfl rfl (by first | rfl | (rw [txL_0]; rfl) | (rw [bkL_0]))), (leq_is rfl rfl (by first | rfl | (rw [txL_0]; rfl) | (rw [bkL_0]))), (leq_own rfl rfl rfl (by first | rfl | (rw [txL_0]; rfl) | (rw [bkL_0])) (by first | rfl | (rw [txL_0]; rfl) | (rw [bkL_0]))), trivial⟩, hp_buf rfl (by first | rfl | (rw [txL_0]; rfl) | (rw [bkL_0])), hp_row rfl (by first | rfl | (rw [txL_0]; rfl) | (rw [bkL_0])) (by first | rfl | (rw [txL_0]; rfl) | (rw [bkL_0])), trivial⟩, trivial, rfl, ⟨supg rfl, trivial⟩, ⟨supg rfl, supg rfl, supg rfl, trivial⟩, ⟨suph rfl rfl, suph rfl rfl, suph rfl rfl, trivial⟩, trivial, rfl, rfl⟩ ?_
  intro k hI1
  obtain ⟨hk1, hk2⟩ := hI1
  have hfl := bkL_len l p k hk2
  have hkk : p.getD (k : Int).toNat 0 = p.getD k 0 := rfl
  refine W_seq ?_
  refine W_regionE (c := 6) (c' := 7) (by kernel_rfl) rfl ?_
  refine Runs_p rfl (Valid.lss rfl rfl rfl) rfl rfl ?_ -- front.go:48 binOp
  refine Runs_nil ?_
  refine thenQ_n ?_
  refine W_seq ?_
  refine W_cond _ rfl (fun hb1 => ?_) (fun hb1 => ?_)
  · try simp only [decide_eq_true_eq] at hb1
    all_goals (
      refine W_skip ?_
      refine thenQ_n ?_
      refine W_seq ?_
      refine W_block ?_
      refine W_seq ?_
      refine W_regionE (c := 7) (c' := 10) (by kernel_rfl) rfl ?_
      refine Runs_p rfl (Valid.eltaddr1 0 rfl Try.underlying22 sz3 (Reads.sl rfl) rfl (by first | omega | (simp only [Int.toNat_natCast, toNat_add, toNat_add1, List.length_append, List.length_cons, List.length_nil, List.length_replicate]; omega)) (by first | rfl | simp)) rfl rfl ?_ -- front.go:48 indexAddr
      refine Runs_p rfl (Valid.loadelt rfl ag3 rfl) rfl rfl ?_ -- front.go:48 load
      refine Runs_p rfl (Valid.assignk (A := Is _) rfl rfl) rfl rfl ?_ -- front.go:48 assign
      refine Runs_nil ?_
      refine thenQ_n ?_
      refine W_seq ?_
      refine W_seq ?_
      refine W_regionE (c := 10) (c' := 21) (by kernel_rfl) rfl ?_
      refine Runs_p rfl (Valid.movek (A := Is _) rfl rfl) rfl rfl ?_ -- front.go:49 move
      refine Runs_p rfl (Valid.lss rfl rfl rfl) rfl rfl ?_ -- front.go:49 binOp
      refine Runs_p rfl (Valid.movek (A := Is _) rfl rfl) rfl rfl ?_ -- front.go:49 move
      refine Runs_cnd rfl rfl (Grd.is rfl) [] (fun hg => trivial) (fun hg => Valid.movek (A := Is _) rfl rfl) (by rfl) rfl ?_
      refine Runs_cnds (t := 0) rfl rfl (Grd.is rfl) [] (fun hg => trivial) (fun hg => Valid.movek (A := Ptr 1 0) rfl rfl) (by simp [Op.operands]) rfl rfl ?_
      refine Runs_cnds (t := 17) rfl rfl (Grd.is rfl) [(17, _)] (fun hg => ⟨cnd_at rfl (by first | exact hg | exact hg.1 | exact hg.1.1 | exact hg.1.1.1), trivial⟩) (fun hg => Valid.nilcheck rfl rfl) (by simp [Op.operands]) rfl rfl ?_
      refine Runs_cnds (t := 18) rfl rfl (Grd.is rfl) [(18, _)] (fun hg => ⟨cnd_at rfl (by first | exact hg | exact hg.1 | exact hg.1.1 | exact hg.1.1.1), trivial⟩) (fun hg => Valid.fieldaddr (off' := 0) rfl rfl (fun _ _ => by kernel_rfl)) (by simp [Op.operands]) rfl rfl ?_
      refine Runs_cnd rfl rfl (Grd.is rfl) [(19, _)] (fun hg => ⟨cnd_at rfl (by first | exact hg | exact hg.1 | exact hg.1.1 | exact hg.1.1.1), trivial⟩) (fun hg => Valid.loadN rfl ag47 rfl rfl rfl) (by rfl) rfl ?_
      refine Runs_cnd rfl rfl (Grd.is rfl) [(20, _)] (fun hg => ⟨cnd_at rfl (by first | exact hg | exact hg.1 | exact hg.1.1 | exact hg.1.1.1), trivial⟩) (fun hg => Valid.lenN rfl Try.underlying47 rfl) (by rfl) rfl ?_
      refine Runs_cnd rfl rfl (Grd.is rfl) [(16, _), (21, _)] (fun hg => ⟨cnd_at rfl (by first | exact hg | exact hg.1 | exact hg.1.1 | exact hg.1.1.1), cnd_at rfl (by first | exact hg | exact hg.1 | exact hg.1.1 | exact hg.1.1.1), trivial⟩) (fun hg => Valid.geq rfl rfl rfl) (by rfl) rfl ?_
      refine Runs_p rfl (Valid.pickor rfl rfl rfl rfl (fun h => by first | exact h | exact ⟨hg, h⟩)) rfl rfl ?_ -- front.go:49 pick
      refine Runs_nil ?_
      refine thenQ_n ?_
      refine W_cond _ rfl (fun hb2 => ?_) (fun hb2 => ?_)
      · try simp only [Int.toNat_natCast, decide_eq_true_eq, Bool.or_eq_true] at hb2
        all_goals (
          exfalso
          have h1 := hok k (by omega)
          omega
          
          done)
      · try simp only [Int.toNat_natCast, decide_eq_false_iff_not, Bool.or_eq_false_iff] at hb2
        all_goals (
          refine W_skip ?_
          refine thenQ_n ?_
          refine W_drawE (c := 21) (c' := 37) (by kernel_rfl) rfl ?_
          refine Runs_p rfl (Valid.movek (A := Ptr 1 0) rfl rfl) rfl rfl ?_ -- front.go:52 move
          refine Runs_p rfl (Valid.movek (A := Ptr 1 0) rfl rfl) rfl rfl ?_ -- front.go:52 move
          refine Runs_p rfl (Valid.nilcheck rfl rfl) rfl rfl ?_ -- front.go:52 nilCheck
          refine Runs_p rfl (Valid.fieldaddr (off' := 2) rfl rfl (fun _ _ => by kernel_rfl)) rfl rfl ?_ -- front.go:52 fieldAddr
          refine Runs_p rfl (Valid.load _ rfl ag40 rfl rfl rfl) rfl rfl ?_ -- front.go:52 load
          refine Runs_p rfl (Valid.movek (A := Ptr 1 0) rfl rfl) rfl rfl ?_ -- front.go:52 move
          refine Runs_p rfl (Valid.nilcheck rfl rfl) rfl rfl ?_ -- front.go:52 nilCheck
          refine Runs_p rfl (Valid.fieldaddr (off' := 0) rfl rfl (fun _ _ => by kernel_rfl)) rfl rfl ?_ -- front.go:52 fieldAddr
          refine Runs_p rfl (Valid.load _ rfl ag47 rfl rfl rfl) rfl rfl ?_ -- front.go:52 load
          refine Runs_p rfl (Valid.movek (A := Is _) rfl rfl) rfl rfl ?_ -- front.go:52 move
          refine Runs_w rfl (Valid.callm [(1, 2)] rfl (.inl ⟨rfl, rfl⟩) (bring_s _ _ (by omega) (by omega) (by omega)) ⟨(leq_buf rfl rfl rfl (by first | rfl | omega)), (leq_is rfl rfl rfl), trivial⟩ ⟨⟨_, rfl, .buf rfl⟩, trivial⟩ (up_pure rfl) (hpup_cons (j := 2) rfl cup_buf hpup_nil) (by kernel_rfl) (by kernel_rfl) (by kernel_rfl) (by kernel_rfl) (by kernel_rfl) (by kernel_rfl) (by kernel_rfl) (by kernel_rfl) (by kernel_rfl)) rfl rfl ?_ -- front.go:52 call
          refine Runs_p rfl (Valid.lit (el := 5) [_] rfl rfl (fun _ => by kernel_rfl) rfl (by decide)) rfl rfl ?_ -- front.go:52 buildSlice
          refine Runs_w rfl (Valid.app rfl Try.underlying40 ti5 (by decide) rfl rfl (Reads.sl rfl) (by first | exact one_map (fun _ => rfl) | exact one_cons rfl one_nil | exact one_app (one_map (fun _ => rfl)) (one_cons rfl one_nil) | exact one_app (one_map (fun _ => rfl)) (one_map (fun _ => rfl)) | exact one_rep rfl | exact one_app (one_rep rfl) (one_map (fun _ => rfl)) | (intro u hu; simp at hu; rcases hu with rfl | hu <;> first | rfl | (subst hu; rfl))) (by first | (simp only [maxLen]; omega) | (simp only [maxLen, Int.toNat_natCast, toNat_add, toNat_add1, List.length_append, List.length_cons, List.length_nil, List.length_replicate]; omega)) (by first | omega | (simp only [Int.toNat_natCast, toNat_add, toNat_add1, List.length_append, List.length_cons, List.length_nil, List.length_replicate]; omega))) rfl rfl ?_ -- front.go:52 call
          refine Runs_p rfl (Valid.nilcheck rfl rfl) rfl rfl ?_ -- front.go:52 nilCheck
          refine Runs_p rfl (Valid.fieldaddr (off' := 2) rfl rfl (fun _ _ => by kernel_rfl)) rfl rfl ?_ -- front.go:52 fieldAddr
          refine Runs_op rfl (Valid.store rfl sz40 rfl rfl (Nat.le_of_ble_eq_true rfl) (One.sl (Reads.own rfl))) rfl ?_ -- front.go:52 store
          refine Runs_nil ?_
          refine ⟨_, _, rfl, rfl, by kernel_rfl, ?_⟩
          refine blockQ_n ?_
          refine thenQ_n ?_
          refine W_regionE (c := 37) (c' := 39) (by kernel_rfl) rfl ?_
          refine Runs_p rfl (Valid.add rfl rfl rfl (room64 (by first | omega | (simp only [Int.toNat_natCast, toNat_add, toNat_add1, List.length_append, List.length_cons, List.length_nil, List.length_replicate]; omega)) (by first | omega | (simp only [Int.toNat_natCast, toNat_add, toNat_add1, List.length_append, List.length_cons, List.length_nil, List.length_replicate]; omega)))) rfl rfl ?_ -- front.go:48 binOp
          refine Runs_p rfl (Valid.movek (A := Is _) rfl rfl) rfl rfl ?_ -- front.go:48 move
          refine Runs_nil ?_
          refine LoopQ.next (k + 1) [(40, 264)] (⟨by omega, fun j hj => (by
                by_cases e : j = k
                · subst e; omega
                · exact hk2 j (by omega))⟩) (by first | omega | (dsimp only; omega)) ⟨⟨(leq_is rfl rfl (by first | rfl | exact txL_1m _ _ _ | exact congrArg (List.map B) (bkL_1 _ _ _))), trivial⟩, ⟨(leq_ptr rfl rfl rfl), (leq_sl (Reads.sl rfl) rfl rfl rfl), (leq_is rfl rfl rfl), trivial⟩, ⟨hp_var rfl ⟨(leq_buf rfl rfl rfl (by first | rfl | exact txL_1m _ _ _ | exact congrArg (List.map B) (bkL_1 _ _ _))), (leq_is rfl rfl (by first | rfl | exact txL_1m _ _ _ | exact congrArg (List.map B) (bkL_1 _ _ _))), (leq_own rfl rfl rfl (by first | rfl | exact txL_1m _ _ _ | exact congrArg (List.map B) (bkL_1 _ _ _)) (by first | rfl | exact txL_1m _ _ _ | exact congrArg (List.map B) (bkL_1 _ _ _))), trivial⟩, hp_buf rfl (by first | rfl | exact txL_1m _ _ _ | exact congrArg (List.map B) (bkL_1 _ _ _)), hp_row rfl (by first | rfl | exact txL_1m _ _ _ | exact congrArg (List.map B) (bkL_1 _ _ _)) (by first | rfl | exact txL_1m _ _ _ | exact congrArg (List.map B) (bkL_1 _ _ _)), trivial⟩, trivial, rfl, ⟨supg rfl, trivial⟩, ⟨supg rfl, supg rfl, supg rfl, trivial⟩, ⟨suph rfl rfl, suph rfl rfl, suph rfl rfl, trivial⟩, trivial, rfl, rfl⟩
          done)
      done)
  · try simp only [decide_eq_false_iff_not] at hb1
    all_goals (
      refine W_exit ?_
      refine thenQ_e ?_
      refine loopQ_e ?_
      refine blockQ_x ?_
      refine thenQ_n ?_
      refine W_seq ?_
      refine W_regionE (c := 7) (c' := 8) (by kernel_rfl) rfl ?_
      refine Runs_p rfl (Valid.assignk (A := Is _) rfl rfl) rfl rfl ?_ -- front.go:54 assign
      refine Runs_nil ?_
      refine thenQ_n ?_
      refine W_ret ?_
      refine finMQ_r ?_
      exact FinM.of [(11, 40)] (ResOk.one rfl (RVal.is rfl rfl (rfl))) rfl ⟨hp_var rfl ⟨(leq_buf rfl rfl rfl (by first | rfl | (rw [show k = p.length by omega]; done) | omega)), (leq_is rfl rfl (by first | rfl | (rw [show k = p.length by omega]; done) | omega)), (leq_own rfl rfl rfl (by first | rfl | (rw [show k = p.length by omega]; done) | omega) (by first | rfl | (rw [show k = p.length by omega]; done) | omega)), trivial⟩, hp_buf rfl (by first | rfl | (rw [show k = p.length by omega]; done) | omega), hp_row rfl (by first | rfl | (rw [show k = p.length by omega]; done) | omega) (by first | rfl | (rw [show k = p.length by omega]; done) | omega), trivial⟩ rfl rfl
      done)

set_option maxRecDepth 100000 in
set_option maxHeartbeats 1000000 in
theorem rback_no (l : List UInt8) (p : List Int) (hl : l.length ≤ 1000000000) (hp : p.length ≤ 1000000000) (hok : ¬ okB l p) :
    FMem Try.prog 26 [Ptr 1 0, Sl 1 p.length (p.map (Value.int .i64))] [(1, .var 49 [Buf 2 l.length, Is (.slice none 0 0), Own 3 1 0 []]), (2, .buf 5 (l.map B)), (3, .row 5 1 0 [])] (Is (.bool false)) [] := by
  refine FMem.of Try.func26 Try.ntmps26 rfl (by kernel_rfl) rfl rfl rfl ?_
  refine W_seq ?_
  refine W_regionE (c := 1) (c' := 2) (by kernel_rfl) rfl ?_
  refine Runs_p rfl (Valid.assignk (A := Is _) rfl rfl) rfl rfl ?_ -- front.go:47 assign
  refine Runs_nil ?_
  refine thenQ_n ?_
  refine W_seq ?_
  refine W_seq ?_
  refine W_regionE (c := 2) (c' := 5) (by kernel_rfl) rfl ?_
  refine Runs_p rfl (Valid.movek (A := Sl 1 _ _) rfl rfl) rfl rfl ?_ -- front.go:48 move
  refine Runs_p rfl (Valid.len rfl Try.underlying22 (Reads.sl rfl)) rfl rfl ?_ -- front.go:48 call
  refine Runs_p rfl (Valid.movek (A := Is _) rfl rfl) rfl rfl ?_ -- front.go:48 move
  refine Runs_nil ?_
  refine thenQ_n ?_
  refine W_block ?_
  refine W_loopx (G := Nat) (fun (k : Nat) => k ≤ p.length ∧ ∀ j, j < k → 0 ≤ p.getD j 0 ∧ p.getD j 0 < l.length) [(0, Ptr 1 0), (7, Sl 1 _ _), (8, Is _)] (fun (k : Nat) => [(9, Is (.int .i64 (k : Int)))]) [] (fun (k : Nat) => [(1, .var 49 [Buf 2 l.length, Is (.slice none 0 0), Own 40 1 k ((txL l p k).map B)]), (2, .buf 5 ((bkL l p k).map (B))), (40, .row 5 1 k ((txL l p k).map B))]) 6 (fun (k : Nat) => p.length - k) (0) [(40, 3)] (⟨by omega, fun j hj => by omega⟩) ⟨⟨(leq_is rfl rfl (by first | rfl | (rw [txL_0]; rfl) | (rw [bkL_0]))), trivial⟩, ⟨(leq_ptr rfl rfl rfl), (leq_sl (Reads.sl rfl) rfl rfl rfl), (leq_is rfl rfl rfl), trivial⟩, ⟨hp_var rfl ⟨(leq_buf rfl rfl rfl (by first | rfl | (rw [txL_0]; rfl) | (rw [bkL_0]))), (leq_is rfl rfl (by first | rfl | (rw [txL_0]; rfl) | (rw [bkL_0]))), (leq_own rfl rfl rfl (by first | rfl | (rw [txL_0]; rfl) | (rw [bkL_0])) (by first | rfl | (rw [txL_0]; rfl) | (rw [bkL_0]))), trivial⟩, hp_buf rfl (by first | rfl | (rw [txL_0]; rfl) | (rw [bkL_0])), hp_row rfl (by first | rfl | (rw [txL_0]; rfl) | (rw [bkL_0])) (by first | rfl | (rw [txL_0]; rfl) | (rw [bkL_0])), trivial⟩, trivial, rfl, ⟨supg rfl, trivial⟩, ⟨supg rfl, supg rfl, supg rfl, trivial⟩, ⟨suph rfl rfl, suph rfl rfl, suph rfl rfl, trivial⟩, trivial, rfl, rfl⟩ ?_
  intro k hI1
  obtain ⟨hk1, hk2⟩ := hI1
  have hfl := bkL_len l p k hk2
  have hkk : p.getD (k : Int).toNat 0 = p.getD k 0 := rfl
  refine W_seq ?_
  refine W_regionE (c := 6) (c' := 7) (by kernel_rfl) rfl ?_
  refine Runs_p rfl (Valid.lss rfl rfl rfl) rfl rfl ?_ -- front.go:48 binOp
  refine Runs_nil ?_
  refine thenQ_n ?_
  refine W_seq ?_
  refine W_cond _ rfl (fun hb1 => ?_) (fun hb1 => ?_)
  · try simp only [decide_eq_true_eq] at hb1
    all_goals (
      refine W_skip ?_
      refine thenQ_n ?_
      refine W_seq ?_
      refine W_block ?_
      refine W_seq ?_
      refine W_regionE (c := 7) (c' := 10) (by kernel_rfl) rfl ?_
      refine Runs_p rfl (Valid.eltaddr1 0 rfl Try.underlying22 sz3 (Reads.sl rfl) rfl (by first | omega | (simp only [Int.toNat_natCast, toNat_add, toNat_add1, List.length_append, List.length_cons, List.length_nil, List.length_replicate]; omega)) (by first | rfl | simp)) rfl rfl ?_ -- front.go:48 indexAddr
      refine Runs_p rfl (Valid.loadelt rfl ag3 rfl) rfl rfl ?_ -- front.go:48 load
      refine Runs_p rfl (Valid.assignk (A := Is _) rfl rfl) rfl rfl ?_ -- front.go:48 assign
      refine Runs_nil ?_
      refine thenQ_n ?_
      refine W_seq ?_
      refine W_seq ?_
      refine W_regionE (c := 10) (c' := 21) (by kernel_rfl) rfl ?_
      refine Runs_p rfl (Valid.movek (A := Is _) rfl rfl) rfl rfl ?_ -- front.go:49 move
      refine Runs_p rfl (Valid.lss rfl rfl rfl) rfl rfl ?_ -- front.go:49 binOp
      refine Runs_p rfl (Valid.movek (A := Is _) rfl rfl) rfl rfl ?_ -- front.go:49 move
      refine Runs_cnd rfl rfl (Grd.is rfl) [] (fun hg => trivial) (fun hg => Valid.movek (A := Is _) rfl rfl) (by rfl) rfl ?_
      refine Runs_cnds (t := 0) rfl rfl (Grd.is rfl) [] (fun hg => trivial) (fun hg => Valid.movek (A := Ptr 1 0) rfl rfl) (by simp [Op.operands]) rfl rfl ?_
      refine Runs_cnds (t := 17) rfl rfl (Grd.is rfl) [(17, _)] (fun hg => ⟨cnd_at rfl (by first | exact hg | exact hg.1 | exact hg.1.1 | exact hg.1.1.1), trivial⟩) (fun hg => Valid.nilcheck rfl rfl) (by simp [Op.operands]) rfl rfl ?_
      refine Runs_cnds (t := 18) rfl rfl (Grd.is rfl) [(18, _)] (fun hg => ⟨cnd_at rfl (by first | exact hg | exact hg.1 | exact hg.1.1 | exact hg.1.1.1), trivial⟩) (fun hg => Valid.fieldaddr (off' := 0) rfl rfl (fun _ _ => by kernel_rfl)) (by simp [Op.operands]) rfl rfl ?_
      refine Runs_cnd rfl rfl (Grd.is rfl) [(19, _)] (fun hg => ⟨cnd_at rfl (by first | exact hg | exact hg.1 | exact hg.1.1 | exact hg.1.1.1), trivial⟩) (fun hg => Valid.loadN rfl ag47 rfl rfl rfl) (by rfl) rfl ?_
      refine Runs_cnd rfl rfl (Grd.is rfl) [(20, _)] (fun hg => ⟨cnd_at rfl (by first | exact hg | exact hg.1 | exact hg.1.1 | exact hg.1.1.1), trivial⟩) (fun hg => Valid.lenN rfl Try.underlying47 rfl) (by rfl) rfl ?_
      refine Runs_cnd rfl rfl (Grd.is rfl) [(16, _), (21, _)] (fun hg => ⟨cnd_at rfl (by first | exact hg | exact hg.1 | exact hg.1.1 | exact hg.1.1.1), cnd_at rfl (by first | exact hg | exact hg.1 | exact hg.1.1 | exact hg.1.1.1), trivial⟩) (fun hg => Valid.geq rfl rfl rfl) (by rfl) rfl ?_
      refine Runs_p rfl (Valid.pickor rfl rfl rfl rfl (fun h => by first | exact h | exact ⟨hg, h⟩)) rfl rfl ?_ -- front.go:49 pick
      refine Runs_nil ?_
      refine thenQ_n ?_
      refine W_cond _ rfl (fun hb2 => ?_) (fun hb2 => ?_)
      · try simp only [Int.toNat_natCast, decide_eq_true_eq, Bool.or_eq_true] at hb2
        all_goals (
          refine W_seq ?_
          refine W_regionE (c := 21) (c' := 22) (by kernel_rfl) rfl ?_
          refine Runs_p rfl (Valid.assignk (A := Is _) rfl rfl) rfl rfl ?_ -- front.go:50 assign
          refine Runs_nil ?_
          refine thenQ_n ?_
          refine W_ret ?_
          refine thenQ_r ?_
          refine blockQ_r ?_
          refine thenQ_r ?_
          refine loopQ_r ?_
          refine blockQ_r ?_
          refine thenQ_r ?_
          refine finMQ_r ?_
          exact FinM.of [] (ResOk.one rfl (RVal.is rfl rfl (rfl))) rfl trivial rfl rfl
          done)
      · try simp only [Int.toNat_natCast, decide_eq_false_iff_not, Bool.or_eq_false_iff] at hb2
        all_goals (
          refine W_skip ?_
          refine thenQ_n ?_
          refine W_drawE (c := 21) (c' := 37) (by kernel_rfl) rfl ?_
          refine Runs_p rfl (Valid.movek (A := Ptr 1 0) rfl rfl) rfl rfl ?_ -- front.go:52 move
          refine Runs_p rfl (Valid.movek (A := Ptr 1 0) rfl rfl) rfl rfl ?_ -- front.go:52 move
          refine Runs_p rfl (Valid.nilcheck rfl rfl) rfl rfl ?_ -- front.go:52 nilCheck
          refine Runs_p rfl (Valid.fieldaddr (off' := 2) rfl rfl (fun _ _ => by kernel_rfl)) rfl rfl ?_ -- front.go:52 fieldAddr
          refine Runs_p rfl (Valid.load _ rfl ag40 rfl rfl rfl) rfl rfl ?_ -- front.go:52 load
          refine Runs_p rfl (Valid.movek (A := Ptr 1 0) rfl rfl) rfl rfl ?_ -- front.go:52 move
          refine Runs_p rfl (Valid.nilcheck rfl rfl) rfl rfl ?_ -- front.go:52 nilCheck
          refine Runs_p rfl (Valid.fieldaddr (off' := 0) rfl rfl (fun _ _ => by kernel_rfl)) rfl rfl ?_ -- front.go:52 fieldAddr
          refine Runs_p rfl (Valid.load _ rfl ag47 rfl rfl rfl) rfl rfl ?_ -- front.go:52 load
          refine Runs_p rfl (Valid.movek (A := Is _) rfl rfl) rfl rfl ?_ -- front.go:52 move
          refine Runs_w rfl (Valid.callm [(1, 2)] rfl (.inl ⟨rfl, rfl⟩) (bring_s _ _ (by omega) (by omega) (by omega)) ⟨(leq_buf rfl rfl rfl (by first | rfl | omega)), (leq_is rfl rfl rfl), trivial⟩ ⟨⟨_, rfl, .buf rfl⟩, trivial⟩ (up_pure rfl) (hpup_cons (j := 2) rfl cup_buf hpup_nil) (by kernel_rfl) (by kernel_rfl) (by kernel_rfl) (by kernel_rfl) (by kernel_rfl) (by kernel_rfl) (by kernel_rfl) (by kernel_rfl) (by kernel_rfl)) rfl rfl ?_ -- front.go:52 call
          refine Runs_p rfl (Valid.lit (el := 5) [_] rfl rfl (fun _ => by kernel_rfl) rfl (by decide)) rfl rfl ?_ -- front.go:52 buildSlice
          refine Runs_w rfl (Valid.app rfl Try.underlying40 ti5 (by decide) rfl rfl (Reads.sl rfl) (by first | exact one_map (fun _ => rfl) | exact one_cons rfl one_nil | exact one_app (one_map (fun _ => rfl)) (one_cons rfl one_nil) | exact one_app (one_map (fun _ => rfl)) (one_map (fun _ => rfl)) | exact one_rep rfl | exact one_app (one_rep rfl) (one_map (fun _ => rfl)) | (intro u hu; simp at hu; rcases hu with rfl | hu <;> first | rfl | (subst hu; rfl))) (by first | (simp only [maxLen]; omega) | (simp only [maxLen, Int.toNat_natCast, toNat_add, toNat_add1, List.length_append, List.length_cons, List.length_nil, List.length_replicate]; omega)) (by first | omega | (simp only [Int.toNat_natCast, toNat_add, toNat_add1, List.length_append, List.length_cons, List.length_nil, List.length_replicate]; omega))) rfl rfl ?_ -- front.go:52 call
          refine Runs_p rfl (Valid.nilcheck rfl rfl) rfl rfl ?_ -- front.go:52 nilCheck
          refine Runs_p rfl (Valid.fieldaddr (off' := 2) rfl rfl (fun _ _ => by kernel_rfl)) rfl rfl ?_ -- front.go:52 fieldAddr
          refine Runs_op rfl (Valid.store rfl sz40 rfl rfl (Nat.le_of_ble_eq_true rfl) (One.sl (Reads.own rfl))) rfl ?_ -- front.go:52 store
          refine Runs_nil ?_
          refine ⟨_, _, rfl, rfl, by kernel_rfl, ?_⟩
          refine blockQ_n ?_
          refine thenQ_n ?_
          refine W_regionE (c := 37) (c' := 39) (by kernel_rfl) rfl ?_
          refine Runs_p rfl (Valid.add rfl rfl rfl (room64 (by first | omega | (simp only [Int.toNat_natCast, toNat_add, toNat_add1, List.length_append, List.length_cons, List.length_nil, List.length_replicate]; omega)) (by first | omega | (simp only [Int.toNat_natCast, toNat_add, toNat_add1, List.length_append, List.length_cons, List.length_nil, List.length_replicate]; omega)))) rfl rfl ?_ -- front.go:48 binOp
          refine Runs_p rfl (Valid.movek (A := Is _) rfl rfl) rfl rfl ?_ -- front.go:48 move
          refine Runs_nil ?_
          refine LoopQ.next (k + 1) [(40, 264)] (⟨by omega, fun j hj => (by
                by_cases e : j = k
                · subst e; omega
                · exact hk2 j (by omega))⟩) (by first | omega | (dsimp only; omega)) ⟨⟨(leq_is rfl rfl (by first | rfl | exact txL_1m _ _ _ | exact congrArg (List.map B) (bkL_1 _ _ _))), trivial⟩, ⟨(leq_ptr rfl rfl rfl), (leq_sl (Reads.sl rfl) rfl rfl rfl), (leq_is rfl rfl rfl), trivial⟩, ⟨hp_var rfl ⟨(leq_buf rfl rfl rfl (by first | rfl | exact txL_1m _ _ _ | exact congrArg (List.map B) (bkL_1 _ _ _))), (leq_is rfl rfl (by first | rfl | exact txL_1m _ _ _ | exact congrArg (List.map B) (bkL_1 _ _ _))), (leq_own rfl rfl rfl (by first | rfl | exact txL_1m _ _ _ | exact congrArg (List.map B) (bkL_1 _ _ _)) (by first | rfl | exact txL_1m _ _ _ | exact congrArg (List.map B) (bkL_1 _ _ _))), trivial⟩, hp_buf rfl (by first | rfl | exact txL_1m _ _ _ | exact congrArg (List.map B) (bkL_1 _ _ _)), hp_row rfl (by first | rfl | exact txL_1m _ _ _ | exact congrArg (List.map B) (bkL_1 _ _ _)) (by first | rfl | exact txL_1m _ _ _ | exact congrArg (List.map B) (bkL_1 _ _ _)), trivial⟩, trivial, rfl, ⟨supg rfl, trivial⟩, ⟨supg rfl, supg rfl, supg rfl, trivial⟩, ⟨suph rfl rfl, suph rfl rfl, suph rfl rfl, trivial⟩, trivial, rfl, rfl⟩
          done)
      done)
  · try simp only [decide_eq_false_iff_not] at hb1
    all_goals (
      exact absurd (fun j hj => hk2 j (by omega)) hok
      
      done)

def backV (a : ByteArray) (p : List Int) : ByteArray × Int := if ¬ RightP a then (ByteArray.empty, 1) else if okB a.data.toList p then (⟨(txL a.data.toList p p.length).toArray⟩, 0) else (ByteArray.empty, 5)

set_option maxRecDepth 100000 in
set_option maxHeartbeats 1000000 in
theorem back_ok (a : ByteArray) (p : List Int) (ha : a.size ≤ 1000000000) (hp : p.length ≤ 1000000000) (hok : RightP a → okB a.data.toList p) :
    FPure Try.prog 20 [Is (.string a), Sl 1 p.length (p.map (Value.int .i64))] (Tup [Is (.string (backV a p).1), Is (.int .i64 (backV a p).2)]) := by
  refine FPure.of Try.func20 Try.ntmps20 rfl (by kernel_rfl) rfl rfl rfl ?_
  refine W_seq ?_
  refine W_regionE (c := 1) (c' := 3) (by kernel_rfl) rfl ?_
  refine Runs_p rfl (Valid.assignk (A := Is _) rfl rfl) rfl rfl ?_ -- front.go:100 assign
  refine Runs_p rfl (Valid.assignk (A := Is _) rfl rfl) rfl rfl ?_ -- front.go:100 assign
  refine Runs_nil ?_
  refine thenQ_n ?_
  refine W_seq ?_
  refine W_seq ?_
  refine W_regionE (c := 3) (c' := 6) (by kernel_rfl) rfl ?_
  refine Runs_p rfl (Valid.movek (A := Is _) rfl rfl) rfl rfl ?_ -- front.go:101 move
  refine Runs_p rfl (Valid.call rfl (right_s _ (by omega)) ⟨argle rfl, trivial⟩) rfl rfl ?_ -- front.go:101 call
  refine Runs_p rfl (Valid.not rfl rfl) rfl rfl ?_ -- front.go:101 unOp
  refine Runs_nil ?_
  refine thenQ_n ?_
  refine W_cond _ rfl (fun hb1 => ?_) (fun hb1 => ?_)
  · try simp only [decide_eq_false_iff_not, Bool.not_eq_true'] at hb1
    all_goals (
      refine W_seq ?_
      refine W_regionE (c := 6) (c' := 8) (by kernel_rfl) rfl ?_
      refine Runs_p rfl (Valid.assignk (A := Is _) rfl rfl) rfl rfl ?_ -- front.go:102 assign
      refine Runs_p rfl (Valid.assignk (A := Is _) rfl rfl) rfl rfl ?_ -- front.go:102 assign
      refine Runs_nil ?_
      refine thenQ_n ?_
      refine W_ret ?_
      refine thenQ_r ?_
      refine finQ_r ?_
      refine ResOk.two rfl (RVal.is rfl rfl (by first | (rw [backV, if_pos (by assumption)]; rfl) | (rw [backV, if_neg (by simpa using hb1), if_pos (hok hb1)]))) (RVal.is rfl rfl (by first | (rw [backV, if_pos (by assumption)]; done) | (rw [backV, if_neg (by simpa using hb1), if_pos (hok hb1)])))
      done)
  · try simp only [decide_eq_true_eq, Bool.not_eq_false'] at hb1
    all_goals (
      refine W_skip ?_
      refine thenQ_n ?_
      refine W_seq ?_
      refine W_regionE (c := 6) (c' := 9) (by kernel_rfl) rfl ?_
      refine Runs_p rfl (Valid.movek (A := Is _) rfl rfl) rfl rfl ?_ -- front.go:104 move
      refine Runs_w rfl (Valid.callm [] rfl (.inl ⟨rfl, rfl⟩) (begin_s _ (by omega)) ⟨(leq_is rfl rfl rfl), trivial⟩ trivial (up_ptr' (id' := 57) rfl) (hpup_cons (j := 57) rfl (cup_var (allup_cons (up_buf (id' := 58) rfl) (allup_cons (up_pure rfl) (allup_cons (up_pure rfl) allup_nil)))) (hpup_cons (j := 58) rfl cup_buf hpup_nil)) (by kernel_rfl) (by kernel_rfl) (by kernel_rfl) (by kernel_rfl) (by kernel_rfl) (by kernel_rfl) (by kernel_rfl) (by kernel_rfl) (by kernel_rfl)) rfl rfl ?_ -- front.go:104 call
      refine Runs_p rfl (Valid.assignk (A := Ptr 57 0) rfl rfl) rfl rfl ?_ -- front.go:104 assign
      refine Runs_nil ?_
      refine W.ent ?_ (Ent.ownnilat 57 2 5 1 rfl rfl)
      refine thenQ_n ?_
      refine W_seq ?_
      refine W_seq ?_
      refine W_regionE (c := 10) (c' := 14) (by kernel_rfl) rfl ?_
      refine Runs_p rfl (Valid.movek (A := Ptr 57 0) rfl rfl) rfl rfl ?_ -- front.go:105 move
      refine Runs_p rfl (Valid.movek (A := Sl 1 _ _) rfl rfl) rfl rfl ?_ -- front.go:105 move
      refine Runs_w rfl (Valid.callm [(1, 57), (2, 58), (3, 72)] rfl (.inl ⟨rfl, rfl⟩) (rback_ok _ _ (by first | omega | (simp; omega)) (by omega) (hok hb1)) ⟨(leq_ptr rfl rfl rfl), (leq_sl (Reads.sl rfl) rfl rfl rfl), trivial⟩ ⟨⟨_, rfl, .var ⟨(leq_buf rfl rfl rfl (by first | rfl | omega)), (leq_is rfl rfl rfl), (leq_own rfl rfl rfl rfl rfl), trivial⟩⟩, ⟨_, rfl, .buf rfl⟩, ⟨_, rfl, .row rfl rfl⟩, trivial⟩ (up_pure rfl) (hpup_cons (j := 57) rfl (cup_var (allup_cons (up_buf (id' := 58) rfl) (allup_cons (up_pure rfl) (allup_cons (up_own' (id' := 99) rfl) allup_nil)))) (hpup_cons (j := 58) rfl cup_buf (hpup_cons (j := 99) rfl cup_row hpup_nil))) (by kernel_rfl) (by kernel_rfl) (by kernel_rfl) (by kernel_rfl) (by kernel_rfl) (by kernel_rfl) (by kernel_rfl) (by kernel_rfl) (by kernel_rfl)) rfl rfl ?_ -- front.go:105 call
      refine Runs_p rfl (Valid.not rfl rfl) rfl rfl ?_ -- front.go:105 unOp
      refine Runs_nil ?_
      refine thenQ_n ?_
      refine W_cond _ rfl (fun hb2 => ?_) (fun hb2 => ?_)
      · try simp only [Bool.not_eq_true', Bool.true_eq_false] at hb2
        all_goals (
          exfalso
          simp at hb2
          
          done)
      · try simp only [Bool.not_eq_false'] at hb2
        all_goals (
          refine W_skip ?_
          refine thenQ_n ?_
          refine W_seq ?_
          refine W_regionE (c := 14) (c' := 21) (by kernel_rfl) rfl ?_
          refine Runs_p rfl (Valid.movek (A := Ptr 57 0) rfl rfl) rfl rfl ?_ -- front.go:108 move
          refine Runs_p rfl (Valid.nilcheck rfl rfl) rfl rfl ?_ -- front.go:108 nilCheck
          refine Runs_p rfl (Valid.fieldaddr (off' := 2) rfl rfl (fun _ _ => by kernel_rfl)) rfl rfl ?_ -- front.go:108 fieldAddr
          refine Runs_p rfl (Valid.load _ rfl ag40 rfl rfl rfl) rfl rfl ?_ -- front.go:108 load
          refine Runs_p rfl (Valid.tostring rfl Try.underlying40 Try.underlying5 Try.underlying9 (Reads.own rfl)) rfl rfl ?_ -- front.go:108 convert
          refine Runs_p rfl (Valid.assignk (A := Is _) rfl rfl) rfl rfl ?_ -- front.go:108 assign
          refine Runs_p rfl (Valid.assignk (A := Is _) rfl rfl) rfl rfl ?_ -- front.go:108 assign
          refine Runs_nil ?_
          refine thenQ_n ?_
          refine W_ret ?_
          refine finQ_r ?_
          refine ResOk.two rfl (RVal.is rfl rfl (by first | (rw [backV, if_pos (by assumption)]; rfl) | (rw [backV, if_neg (by simpa using hb1), if_pos (hok hb1)]))) (RVal.is rfl rfl (by first | (rw [backV, if_pos (by assumption)]; done) | (rw [backV, if_neg (by simpa using hb1), if_pos (hok hb1)])))
          done)
      done)

set_option maxRecDepth 100000 in
set_option maxHeartbeats 1000000 in
theorem back_no (a : ByteArray) (p : List Int) (ha : a.size ≤ 1000000000) (hp : p.length ≤ 1000000000) (hok : RightP a → ¬ okB a.data.toList p) :
    FPure Try.prog 20 [Is (.string a), Sl 1 p.length (p.map (Value.int .i64))] (Tup [Is (.string (backV a p).1), Is (.int .i64 (backV a p).2)]) := by
  refine FPure.of Try.func20 Try.ntmps20 rfl (by kernel_rfl) rfl rfl rfl ?_
  refine W_seq ?_
  refine W_regionE (c := 1) (c' := 3) (by kernel_rfl) rfl ?_
  refine Runs_p rfl (Valid.assignk (A := Is _) rfl rfl) rfl rfl ?_ -- front.go:100 assign
  refine Runs_p rfl (Valid.assignk (A := Is _) rfl rfl) rfl rfl ?_ -- front.go:100 assign
  refine Runs_nil ?_
  refine thenQ_n ?_
  refine W_seq ?_
  refine W_seq ?_
  refine W_regionE (c := 3) (c' := 6) (by kernel_rfl) rfl ?_
  refine Runs_p rfl (Valid.movek (A := Is _) rfl rfl) rfl rfl ?_ -- front.go:101 move
  refine Runs_p rfl (Valid.call rfl (right_s _ (by omega)) ⟨argle rfl, trivial⟩) rfl rfl ?_ -- front.go:101 call
  refine Runs_p rfl (Valid.not rfl rfl) rfl rfl ?_ -- front.go:101 unOp
  refine Runs_nil ?_
  refine thenQ_n ?_
  refine W_cond _ rfl (fun hb1 => ?_) (fun hb1 => ?_)
  · try simp only [decide_eq_false_iff_not, Bool.not_eq_true'] at hb1
    all_goals (
      refine W_seq ?_
      refine W_regionE (c := 6) (c' := 8) (by kernel_rfl) rfl ?_
      refine Runs_p rfl (Valid.assignk (A := Is _) rfl rfl) rfl rfl ?_ -- front.go:102 assign
      refine Runs_p rfl (Valid.assignk (A := Is _) rfl rfl) rfl rfl ?_ -- front.go:102 assign
      refine Runs_nil ?_
      refine thenQ_n ?_
      refine W_ret ?_
      refine thenQ_r ?_
      refine finQ_r ?_
      refine ResOk.two rfl (RVal.is rfl rfl (by first | (rw [backV, if_pos (by assumption)]; rfl) | (rw [backV, if_neg (by simpa using hb1), if_neg (hok hb1)]; rfl))) (RVal.is rfl rfl (by first | (rw [backV, if_pos (by assumption)]; done) | (rw [backV, if_neg (by simpa using hb1), if_neg (hok hb1)])))
      done)
  · try simp only [decide_eq_true_eq, Bool.not_eq_false'] at hb1
    all_goals (
      refine W_skip ?_
      refine thenQ_n ?_
      refine W_seq ?_
      refine W_regionE (c := 6) (c' := 9) (by kernel_rfl) rfl ?_
      refine Runs_p rfl (Valid.movek (A := Is _) rfl rfl) rfl rfl ?_ -- front.go:104 move
      refine Runs_w rfl (Valid.callm [] rfl (.inl ⟨rfl, rfl⟩) (begin_s _ (by omega)) ⟨(leq_is rfl rfl rfl), trivial⟩ trivial (up_ptr' (id' := 57) rfl) (hpup_cons (j := 57) rfl (cup_var (allup_cons (up_buf (id' := 58) rfl) (allup_cons (up_pure rfl) (allup_cons (up_pure rfl) allup_nil)))) (hpup_cons (j := 58) rfl cup_buf hpup_nil)) (by kernel_rfl) (by kernel_rfl) (by kernel_rfl) (by kernel_rfl) (by kernel_rfl) (by kernel_rfl) (by kernel_rfl) (by kernel_rfl) (by kernel_rfl)) rfl rfl ?_ -- front.go:104 call
      refine Runs_p rfl (Valid.assignk (A := Ptr 57 0) rfl rfl) rfl rfl ?_ -- front.go:104 assign
      refine Runs_nil ?_
      refine W.ent ?_ (Ent.ownnilat 57 2 5 1 rfl rfl)
      refine thenQ_n ?_
      refine W_seq ?_
      refine W_seq ?_
      refine W_regionE (c := 10) (c' := 14) (by kernel_rfl) rfl ?_
      refine Runs_p rfl (Valid.movek (A := Ptr 57 0) rfl rfl) rfl rfl ?_ -- front.go:105 move
      refine Runs_p rfl (Valid.movek (A := Sl 1 _ _) rfl rfl) rfl rfl ?_ -- front.go:105 move
      refine Runs_w rfl (Valid.callm [(1, 57), (2, 58), (3, 72)] rfl (.inl ⟨rfl, rfl⟩) (rback_no _ _ (by first | omega | (simp; omega)) (by omega) (hok hb1)) ⟨(leq_ptr rfl rfl rfl), (leq_sl (Reads.sl rfl) rfl rfl rfl), trivial⟩ ⟨⟨_, rfl, .var ⟨(leq_buf rfl rfl rfl (by first | rfl | omega)), (leq_is rfl rfl rfl), (leq_own rfl rfl rfl rfl rfl), trivial⟩⟩, ⟨_, rfl, .buf rfl⟩, ⟨_, rfl, .row rfl rfl⟩, trivial⟩ (up_pure rfl) hpup_nil (by kernel_rfl) (by kernel_rfl) (by kernel_rfl) (by kernel_rfl) (by kernel_rfl) (by kernel_rfl) (by kernel_rfl) (by kernel_rfl) (by kernel_rfl)) rfl rfl ?_ -- front.go:105 call
      refine Runs_p rfl (Valid.not rfl rfl) rfl rfl ?_ -- front.go:105 unOp
      refine Runs_nil ?_
      refine thenQ_n ?_
      refine W_cond _ rfl (fun hb2 => ?_) (fun hb2 => ?_)
      · try simp only [Bool.not_eq_true'] at hb2
        all_goals (
          refine W_seq ?_
          refine W_regionE (c := 14) (c' := 16) (by kernel_rfl) rfl ?_
          refine Runs_p rfl (Valid.assignk (A := Is _) rfl rfl) rfl rfl ?_ -- front.go:106 assign
          refine Runs_p rfl (Valid.assignk (A := Is _) rfl rfl) rfl rfl ?_ -- front.go:106 assign
          refine Runs_nil ?_
          refine thenQ_n ?_
          refine W_ret ?_
          refine thenQ_r ?_
          refine finQ_r ?_
          refine ResOk.two rfl (RVal.is rfl rfl (by first | (rw [backV, if_pos (by assumption)]; rfl) | (rw [backV, if_neg (by simpa using hb1), if_neg (hok hb1)]; rfl))) (RVal.is rfl rfl (by first | (rw [backV, if_pos (by assumption)]; done) | (rw [backV, if_neg (by simpa using hb1), if_neg (hok hb1)])))
          done)
      · try simp only [Bool.not_eq_false', Bool.false_eq_true] at hb2
        all_goals (
          exfalso
          simp at hb2
          
          done)
      done)

theorem back_s (a : ByteArray) (p : List Int) (ha : a.size ≤ 1000000000) (hp : p.length ≤ 1000000000) : FPure Try.prog 20 [Is (.string a), Sl 1 p.length (p.map (Value.int .i64))] (Tup [Is (.string (backV a p).1), Is (.int .i64 (backV a p).2)]) := by
  by_cases h : okB a.data.toList p
  · exact back_ok a p ha hp (fun _ => h)
  · exact back_no a p ha hp (fun _ => h)
end Fc
end Go.Proofs.Ytilljaaolejedaa
