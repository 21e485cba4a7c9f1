/-
  WALKS of stage 12: Take.
-/
import Derived.Test.YtkjmdnehlodihaaRows
import Derived.Test.YtkjmdnehlodihaaAbs
import Derived.Test.YtkjmdnehlodihaaBb
import Derived.Test.YtkjmdnehlodihaaCm
import Derived.Test.YtkjmdnehlodihaaFz
import Derived.Test.YtkjmdnehlodihaaGm
import Derived.Test.YtkjmdnehlodihaaEa
import Derived.Test.YtkjmdnehlodihaaEb
import Derived.Test.YtkjmdnehlodihaaEc
namespace Go.Proofs.Ytkjmdnehlodihaa
open Go.RowKit
namespace Ed
open Ab Bm Bt Bb Cm Fz Gm Ea Eb Ec
theorem ti3 : TI Try.prog 3 1 8 := .mk' (z := (Value.int .i64 0)) (by kernel_rfl) rfl
def tN (s : ByteArray) (t a : Int) : Nat → Int
  | 0 => a
  | k + 1 => (tkF s t.toNat 0 (tN s t a k)).2.1
  termination_by k => k
def tL (s : ByteArray) (t a : Int) : Nat → List Int
  | 0 => iniL t.toNat
  | k + 1 => tkL (tL s t a k) (tkF s t.toNat 0 (tN s t a k))
  termination_by k => k
def tC (s : ByteArray) (t a : Int) : Nat → List Int
  | 0 => []
  | k + 1 => tC s t a k ++ [tkV (tL s t a k) (tkF s t.toNat 0 (tN s t a k))]
  termination_by k => k
/-- the first error -/
def fE (s : ByteArray) (t a : Int) : Nat → Int
  | 0 => 0
  | k + 1 => if fE s t a k = 0 then (tkF s t.toNat 0 (tN s t a k)).2.2 else fE s t a k
  termination_by k => k
theorem tN_0 (s : ByteArray) (t a : Int) : tN s t a 0 = a := by rw [tN]
theorem tL_0 (s : ByteArray) (t a : Int) : tL s t a 0 = iniL t.toNat := by rw [tL]
theorem tC_0 (s : ByteArray) (t a : Int) : tC s t a 0 = [] := by rw [tC]
theorem fE_0 (s : ByteArray) (t a : Int) : fE s t a 0 = 0 := by rw [fE]
theorem tN_1 (s : ByteArray) (t a : Int) (k : Nat) : (tkF s t.toNat 0 (tN s t a k)).2.1 = tN s t a (k + 1) := by rw [tN]
theorem tL_1 (s : ByteArray) (t a : Int) (k : Nat) : tkL (tL s t a k) (tkF s t.toNat 0 (tN s t a k)) = tL s t a (k + 1) := by rw [tL]
theorem tC_1 (s : ByteArray) (t a : Int) (k : Nat) : (tC s t a k).map I64 ++ [I64 (tkV (tL s t a k) (tkF s t.toNat 0 (tN s t a k)))] = (tC s t a (k + 1)).map I64 := by rw [tC]; simp
theorem tC_len (s : ByteArray) (t a : Int) : ∀ k, (tC s t a k).length = k
  | 0 => by rw [tC_0]; rfl
  | k + 1 => by rw [tC, List.length_append, tC_len s t a k]; rfl
theorem tL_len (s : ByteArray) (t a : Int) (ht : t ≤ 6) : ∀ k, (tL s t a k).length = 6
  | 0 => by rw [tL_0, ini_len]
  | k + 1 => by
    have ih := tL_len s t a ht k
    rw [tL, tkL]
    split
    · rename_i h
      have := tk_bd s t.toNat 0 (tN s t a k) h
      rw [mtfI_len _ _ (by omega), ih]
    · exact ih
theorem fE_stop (s : ByteArray) (t a : Int) (k : Nat) (h : ¬ fE s t a k = 0) : ∀ d, fE s t a (k + d) = fE s t a k
  | 0 => rfl
  | d + 1 => by rw [← Nat.add_assoc, fE, fE_stop s t a k h d, if_neg h]
theorem fE_1 {s : ByteArray} {t a : Int} {k : Nat} (h : fE s t a k = 0) : fE s t a (k + 1) = (tkF s t.toNat 0 (tN s t a k)).2.2 := by rw [fE, if_pos h]
theorem tN_bd (s : ByteArray) (t a : Int) (h0 : 0 ≤ a) (h1 : a ≤ 9223372036854775807) (hs : s.size ≤ 1000000000000) : ∀ k, fE s t a k = 0 → 0 ≤ tN s t a k ∧ tN s t a k ≤ 9223372036854775807
  | 0, _ => by rw [tN_0]; exact ⟨h0, h1⟩
  | k + 1, h => by
    have hk : fE s t a k = 0 := Classical.byContradiction fun hc => by
      rw [fE, if_neg hc] at h; exact hc h
    rw [fE_1 hk] at h
    have ih := tN_bd s t a h0 h1 hs k hk
    have := tk_bd s t.toNat 0 (tN s t a k) h
    rw [tN]; omega
def takeV (s : ByteArray) (a n t : Int) : List Int × Int × Int :=
  if t < 2 ∨ 6 < t ∨ a < 0 ∨ n < 0 ∨ 1048576 < n then ([], 0, 1) else if fE s t a n.toNat = 0 then (tC s t a n.toNat, tN s t a n.toNat, 0) else ([], 0, fE s t a n.toNat)
theorem take_1 {s : ByteArray} {a n t : Int} (h : t < 2 ∨ 6 < t ∨ a < 0 ∨ n < 0 ∨ 1048576 < n) : takeV s a n t = ([], 0, 1) := by rw [takeV, if_pos h]
theorem take_ok {s : ByteArray} {a n t : Int} (h : ¬ (t < 2 ∨ 6 < t ∨ a < 0 ∨ n < 0 ∨ 1048576 < n)) {k : Nat} (hk : n.toNat = k) (he : fE s t a k = 0) : takeV s a n t = (tC s t a k, tN s t a k, 0) := by rw [takeV, if_neg h, hk, if_pos he]
theorem take_e {s : ByteArray} {a n t : Int} (h : ¬ (t < 2 ∨ 6 < t ∨ a < 0 ∨ n < 0 ∨ 1048576 < n)) {k : Nat} (hk : k < n.toNat) (he : fE s t a k = 0) (hb : ¬ (tkF s t.toNat 0 (tN s t a k)).2.2 = 0) : takeV s a n t = ([], 0, (tkF s t.toNat 0 (tN s t a k)).2.2) := by
  have h1 := fE_1 he
  have h2 := fE_stop s t a (k + 1) (by rw [h1]; exact hb) (n.toNat - (k + 1))
  rw [show k + 1 + (n.toNat - (k + 1)) = n.toNat by omega, h1] at h2
  rw [takeV, if_neg h, h2, if_neg hb]

set_option maxRecDepth 100000 in
set_option maxHeartbeats 1000000 in
theorem take_no (s : ByteArray) (a n t : Int) (_hs : s.size ≤ 1000000000000) (_ha : a ≤ 9223372036854775807) (hno : t < 2 ∨ 6 < t ∨ a < 0 ∨ n < 0 ∨ 1048576 < n) (ht : t < 2 ∨ 6 < t) :
    FPure Try.prog 13 [Is (.string s), Is (.int .i64 a), Is (.int .i64 n), Is (.int .i64 t)] (Tup [Sl 1 (takeV s a n t).1.length ((takeV s a n t).1.map (Value.int .i64)), Is (.int .i64 (takeV s a n t).2.1), Is (.int .i64 (takeV s a n t).2.2)]) := by
  refine FPure.of Try.func13 Try.ntmps13 rfl (by kernel_rfl) rfl rfl rfl ?_
  refine W_seq ?_
  refine W_regionE (c := 1) (c' := 4) (by kernel_rfl) rfl ?_
  refine Runs_p rfl (Valid.assignk (A := Is (.slice none 0 0)) rfl rfl) rfl rfl ?_ -- selectors.go:90 assign
  refine Runs_p rfl (Valid.assignk (A := Is _) rfl rfl) rfl rfl ?_ -- selectors.go:90 assign
  refine Runs_p rfl (Valid.assignk (A := Is _) rfl rfl) rfl rfl ?_ -- selectors.go:90 assign
  refine Runs_nil ?_
  refine thenQ_n ?_
  refine W_seq ?_
  refine W_regionE (c := 4) (c' := 11) (by kernel_rfl) rfl ?_
  refine Runs_p rfl (Valid.movek (A := Is _) rfl rfl) rfl rfl ?_ -- selectors.go:91 move
  refine Runs_p rfl (Valid.call rfl (begin_no _ ht) ⟨argle rfl, trivial⟩) rfl rfl ?_ -- selectors.go:91 call
  refine Runs_p rfl (Valid.movek (A := Tup [Is _, Is _]) rfl rfl) rfl rfl ?_ -- selectors.go:91 move
  refine Runs_p rfl (Valid.extract _ rfl rfl rfl) rfl rfl ?_ -- selectors.go:91 extract
  refine Runs_p rfl (Valid.extract _ rfl rfl rfl) rfl rfl ?_ -- selectors.go:91 extract
  refine Runs_p rfl (Valid.assignk (A := Is _) rfl rfl) rfl rfl ?_ -- selectors.go:91 assign
  refine Runs_p rfl (Valid.assignk (A := Is _) rfl rfl) rfl rfl ?_ -- selectors.go:91 assign
  refine Runs_nil ?_
  refine thenQ_n ?_
  refine W_seq ?_
  refine W_seq ?_
  refine W_regionE (c := 11) (c' := 25) (by kernel_rfl) rfl ?_
  refine Runs_p rfl (Valid.movek (A := Is _) rfl rfl) rfl rfl ?_ -- selectors.go:92 move
  refine Runs_p rfl (Valid.not rfl rfl) rfl rfl ?_ -- selectors.go:92 unOp
  refine Runs_p rfl (Valid.movek (A := Is _) rfl rfl) rfl rfl ?_ -- selectors.go:92 move
  refine Runs_cnd rfl rfl (Grd.is rfl) [] (fun hg => trivial) (fun hg => Valid.movek (A := Is _) rfl rfl) (by rfl) rfl ?_
  refine Runs_cnd rfl rfl (Grd.is rfl) [(22, _)] (fun hg => ⟨cnd_at rfl (by first | exact hg | exact hg.1 | exact hg.1.1 | exact hg.1.1.1), trivial⟩) (fun hg => Valid.lss rfl rfl rfl) (by rfl) rfl ?_
  refine Runs_p rfl (Valid.pickor rfl rfl rfl rfl (fun h => by first | exact h | exact ⟨hg, h⟩)) rfl rfl ?_ -- selectors.go:92 pick
  refine Runs_p rfl (Valid.movek (A := Is _) rfl rfl) rfl rfl ?_ -- selectors.go:92 move
  refine Runs_cnd rfl rfl (Grd.is rfl) [] (fun hg => trivial) (fun hg => Valid.movek (A := Is _) rfl rfl) (by rfl) rfl ?_
  refine Runs_cnd rfl rfl (Grd.is rfl) [(26, _)] (fun hg => ⟨cnd_at rfl (by first | exact hg | exact hg.1 | exact hg.1.1 | exact hg.1.1.1), trivial⟩) (fun hg => Valid.lss rfl rfl rfl) (by rfl) rfl ?_
  refine Runs_p rfl (Valid.pickor rfl rfl rfl rfl (fun h => by first | exact h | exact ⟨hg, h⟩)) rfl rfl ?_ -- selectors.go:92 pick
  refine Runs_p rfl (Valid.movek (A := Is _) rfl rfl) rfl rfl ?_ -- selectors.go:92 move
  refine Runs_cnd rfl rfl (Grd.is rfl) [] (fun hg => trivial) (fun hg => Valid.movek (A := Is _) rfl rfl) (by rfl) rfl ?_
  refine Runs_cnd rfl rfl (Grd.is rfl) [(30, _)] (fun hg => ⟨cnd_at rfl (by first | exact hg | exact hg.1 | exact hg.1.1 | exact hg.1.1.1), trivial⟩) (fun hg => Valid.gtr rfl rfl rfl) (by rfl) rfl ?_
  refine Runs_p rfl (Valid.pickor rfl rfl rfl rfl (fun h => by first | exact h | exact ⟨hg, h⟩)) rfl rfl ?_ -- selectors.go:92 pick
  refine Runs_nil ?_
  refine thenQ_n ?_
  refine W_cond _ rfl (fun hb1 => ?_) (fun hb1 => ?_)
  · try simp only [decide_eq_true_eq, Bool.or_eq_true, Bool.not_eq_true'] at hb1
    all_goals (
      refine W_seq ?_
      refine W_regionE (c := 25) (c' := 28) (by kernel_rfl) rfl ?_
      refine Runs_p rfl (Valid.assignk (A := Is (.slice none 0 0)) rfl rfl) rfl rfl ?_ -- selectors.go:93 assign
      refine Runs_p rfl (Valid.assignk (A := Is _) rfl rfl) rfl rfl ?_ -- selectors.go:93 assign
      refine Runs_p rfl (Valid.assignk (A := Is _) rfl rfl) rfl rfl ?_ -- selectors.go:93 assign
      refine Runs_nil ?_
      refine thenQ_n ?_
      refine W_ret ?_
      refine thenQ_r ?_
      refine finQ_r ?_
      refine ResOk.three rfl (RVal.sl (Reads.nil rfl) rfl (by rw [(take_1 (s := s) (a := a) (n := n) (t := t) hno)]; rfl) (by rw [(take_1 (s := s) (a := a) (n := n) (t := t) hno)]; rfl)) (RVal.is rfl rfl (by rw [(take_1 (s := s) (a := a) (n := n) (t := t) hno)])) (RVal.is rfl rfl (by rw [(take_1 (s := s) (a := a) (n := n) (t := t) hno)]))
      done)
  · try simp only [decide_eq_false_iff_not, Bool.or_eq_false_iff, Bool.not_eq_false', Bool.false_eq_true] at hb1
    all_goals (
      exfalso
      simp at hb1
      
      done)

set_option maxRecDepth 100000 in
set_option maxHeartbeats 1000000 in
theorem take_ok_s (s : ByteArray) (a n t : Int) (hs : s.size ≤ 1000000000000) (ha : a ≤ 9223372036854775807) (ht : 2 ≤ t ∧ t ≤ 6) :
    FPure Try.prog 13 [Is (.string s), Is (.int .i64 a), Is (.int .i64 n), Is (.int .i64 t)] (Tup [Sl 1 (takeV s a n t).1.length ((takeV s a n t).1.map (Value.int .i64)), Is (.int .i64 (takeV s a n t).2.1), Is (.int .i64 (takeV s a n t).2.2)]) := by
  refine FPure.of Try.func13 Try.ntmps13 rfl (by kernel_rfl) rfl rfl rfl ?_
  refine W_seq ?_
  refine W_regionE (c := 1) (c' := 4) (by kernel_rfl) rfl ?_
  refine Runs_p rfl (Valid.assignk (A := Is (.slice none 0 0)) rfl rfl) rfl rfl ?_ -- selectors.go:90 assign
  refine Runs_p rfl (Valid.assignk (A := Is _) rfl rfl) rfl rfl ?_ -- selectors.go:90 assign
  refine Runs_p rfl (Valid.assignk (A := Is _) rfl rfl) rfl rfl ?_ -- selectors.go:90 assign
  refine Runs_nil ?_
  refine thenQ_n ?_
  refine W_seq ?_
  refine W_regionE (c := 4) (c' := 11) (by kernel_rfl) rfl ?_
  refine Runs_p rfl (Valid.movek (A := Is _) rfl rfl) rfl rfl ?_ -- selectors.go:91 move
  refine Runs_w rfl (Valid.callm [] rfl (.inl ⟨rfl, rfl⟩) (begin_ok _ (by omega) (by omega)) ⟨(leq_is rfl rfl rfl), trivial⟩ trivial (up_tup (allup_cons (up_ptr' (id' := 41) rfl) (allup_cons (up_pure rfl) allup_nil))) (hpup_cons (j := 41) rfl cup_arr hpup_nil) (by kernel_rfl) (by kernel_rfl) (by kernel_rfl) (by kernel_rfl) (by kernel_rfl) (by kernel_rfl) (by kernel_rfl) (by kernel_rfl) (by kernel_rfl)) rfl rfl ?_ -- selectors.go:91 call
  refine Runs_p rfl (Valid.movek (A := Tup [Ptr 41 0, Is _]) rfl rfl) rfl rfl ?_ -- selectors.go:91 move
  refine Runs_p rfl (Valid.extract _ rfl rfl rfl) rfl rfl ?_ -- selectors.go:91 extract
  refine Runs_p rfl (Valid.extract _ rfl rfl rfl) rfl rfl ?_ -- selectors.go:91 extract
  refine Runs_p rfl (Valid.assignk (A := Ptr 41 0) rfl rfl) rfl rfl ?_ -- selectors.go:91 assign
  refine Runs_p rfl (Valid.assignk (A := Is _) rfl rfl) rfl rfl ?_ -- selectors.go:91 assign
  refine Runs_nil ?_
  refine thenQ_n ?_
  refine W_seq ?_
  refine W_seq ?_
  refine W_regionE (c := 11) (c' := 25) (by kernel_rfl) rfl ?_
  refine Runs_p rfl (Valid.movek (A := Is _) rfl rfl) rfl rfl ?_ -- selectors.go:92 move
  refine Runs_p rfl (Valid.not rfl rfl) rfl rfl ?_ -- selectors.go:92 unOp
  refine Runs_p rfl (Valid.movek (A := Is _) rfl rfl) rfl rfl ?_ -- selectors.go:92 move
  refine Runs_cnd rfl rfl (Grd.is rfl) [] (fun hg => trivial) (fun hg => Valid.movek (A := Is _) rfl rfl) (by rfl) rfl ?_
  refine Runs_cnd rfl rfl (Grd.is rfl) [(22, _)] (fun hg => ⟨cnd_at rfl (by first | exact hg | exact hg.1 | exact hg.1.1 | exact hg.1.1.1), trivial⟩) (fun hg => Valid.lss rfl rfl rfl) (by rfl) rfl ?_
  refine Runs_p rfl (Valid.pickor rfl rfl rfl rfl (fun h => by first | exact h | exact ⟨hg, h⟩)) rfl rfl ?_ -- selectors.go:92 pick
  refine Runs_p rfl (Valid.movek (A := Is _) rfl rfl) rfl rfl ?_ -- selectors.go:92 move
  refine Runs_cnd rfl rfl (Grd.is rfl) [] (fun hg => trivial) (fun hg => Valid.movek (A := Is _) rfl rfl) (by rfl) rfl ?_
  refine Runs_cnd rfl rfl (Grd.is rfl) [(26, _)] (fun hg => ⟨cnd_at rfl (by first | exact hg | exact hg.1 | exact hg.1.1 | exact hg.1.1.1), trivial⟩) (fun hg => Valid.lss rfl rfl rfl) (by rfl) rfl ?_
  refine Runs_p rfl (Valid.pickor rfl rfl rfl rfl (fun h => by first | exact h | exact ⟨hg, h⟩)) rfl rfl ?_ -- selectors.go:92 pick
  refine Runs_p rfl (Valid.movek (A := Is _) rfl rfl) rfl rfl ?_ -- selectors.go:92 move
  refine Runs_cnd rfl rfl (Grd.is rfl) [] (fun hg => trivial) (fun hg => Valid.movek (A := Is _) rfl rfl) (by rfl) rfl ?_
  refine Runs_cnd rfl rfl (Grd.is rfl) [(30, _)] (fun hg => ⟨cnd_at rfl (by first | exact hg | exact hg.1 | exact hg.1.1 | exact hg.1.1.1), trivial⟩) (fun hg => Valid.gtr rfl rfl rfl) (by rfl) rfl ?_
  refine Runs_p rfl (Valid.pickor rfl rfl rfl rfl (fun h => by first | exact h | exact ⟨hg, h⟩)) rfl rfl ?_ -- selectors.go:92 pick
  refine Runs_nil ?_
  refine thenQ_n ?_
  refine W_cond _ rfl (fun hb1 => ?_) (fun hb1 => ?_)
  · try simp only [decide_eq_true_eq, Bool.or_eq_true, Bool.not_eq_true', Bool.true_eq_false] at hb1
    all_goals (
      simp only [false_or] at hb1
      refine W_seq ?_
      refine W_regionE (c := 25) (c' := 28) (by kernel_rfl) rfl ?_
      refine Runs_p rfl (Valid.assignk (A := Is (.slice none 0 0)) rfl rfl) rfl rfl ?_ -- selectors.go:93 assign
      refine Runs_p rfl (Valid.assignk (A := Is _) rfl rfl) rfl rfl ?_ -- selectors.go:93 assign
      refine Runs_p rfl (Valid.assignk (A := Is _) rfl rfl) rfl rfl ?_ -- selectors.go:93 assign
      refine Runs_nil ?_
      refine thenQ_n ?_
      refine W_ret ?_
      refine thenQ_r ?_
      refine finQ_r ?_
      refine ResOk.three rfl (RVal.sl (Reads.nil rfl) rfl (by first | (rw [take_1 (by omega)]; rfl) | (rw [(take_e hall (k := k) (by omega) hk2 (by assumption))]; rfl) | (rw [(take_ok hall (k := k) (by omega) hk2), tC_len])) (by first | (rw [take_1 (by omega)]; rfl) | (rw [(take_e hall (k := k) (by omega) hk2 (by assumption))]; rfl) | (rw [(take_ok hall (k := k) (by omega) hk2)]))) (RVal.is rfl rfl (by first | rw [take_1 (by omega)] | rw [(take_e hall (k := k) (by omega) hk2 (by assumption))] | rw [(take_ok hall (k := k) (by omega) hk2)])) (RVal.is rfl rfl (by first | rw [take_1 (by omega)] | rw [(take_e hall (k := k) (by omega) hk2 (by assumption))] | rw [(take_ok hall (k := k) (by omega) hk2)]))
      done)
  · try simp only [decide_eq_false_iff_not, Bool.or_eq_false_iff, Bool.not_eq_false'] at hb1
    all_goals (
      refine W_skip ?_
      refine thenQ_n ?_
      refine W_seq ?_
      refine W_regionE (c := 25) (c' := 27) (by kernel_rfl) rfl ?_
      refine Runs_p rfl (Valid.movek (A := Is _) rfl rfl) rfl rfl ?_ -- selectors.go:95 move
      refine Runs_p rfl (Valid.assignk (A := Is _) rfl rfl) rfl rfl ?_ -- selectors.go:95 assign
      refine Runs_nil ?_
      refine thenQ_n ?_
      refine W_seq ?_
      refine W_seq ?_
      refine W_regionE (c := 27) (c' := 29) (by kernel_rfl) rfl ?_
      refine Runs_p rfl (Valid.movek (A := Is _) rfl rfl) rfl rfl ?_ -- selectors.go:96 move
      refine Runs_p rfl (Valid.movek (A := Is _) rfl rfl) rfl rfl ?_ -- selectors.go:96 move
      refine Runs_nil ?_
      refine thenQ_n ?_
      refine W_block ?_
      refine W.ent ?_ (Ent.ownnil 8 3 1 rfl)
      refine W_loopx (G := Nat) (fun (k : Nat) => (k : Int) ≤ n ∧ fE s t a k = 0) [(0, Is _), (11, Ptr 41 0), (34, Is _)] (fun (k : Nat) => [(35, Is (.int .i64 (k : Int))), (9, Is (.int .i64 (tN s t a k))), (8, Own 232 1 k ((tC s t a k).map I64))]) [] (fun (k : Nat) => [(41, .arr 72 (AX (Value.int .i64) (tL s t a k) [.int .i64 t])), (232, .row 3 1 k ((tC s t a k).map I64))]) 30 (fun (k : Nat) => n.toNat - k) (0) [] (⟨by omega, fE_0 _ _ _⟩) ⟨⟨(leq_is rfl rfl (by first | rfl | (rw [tN_0]) | (rw [tL_0]) | (rw [tC_0]; rfl))), (leq_is rfl rfl (by first | rfl | (rw [tN_0]) | (rw [tL_0]) | (rw [tC_0]; rfl))), (leq_own rfl rfl rfl (by first | rfl | (rw [tN_0]) | (rw [tL_0]) | (rw [tC_0]; rfl)) (by first | rfl | (rw [tN_0]) | (rw [tL_0]) | (rw [tC_0]; rfl))), trivial⟩, ⟨(leq_is rfl rfl rfl), (leq_ptr rfl rfl rfl), (leq_is rfl rfl rfl), trivial⟩, ⟨hp_ax rfl (by first | rfl | (rw [tN_0]) | (rw [tL_0]) | (rw [tC_0]; rfl)) (by first | rfl | (rw [tN_0]) | (rw [tL_0]) | (rw [tC_0]; rfl)), hp_row rfl (by first | rfl | (rw [tN_0]) | (rw [tL_0]) | (rw [tC_0]; rfl)) (by first | rfl | (rw [tN_0]) | (rw [tL_0]) | (rw [tC_0]; rfl)), trivial⟩, trivial, rfl, ⟨supg rfl, supg rfl, supg rfl, trivial⟩, ⟨supg rfl, supg rfl, supg rfl, trivial⟩, ⟨suph rfl rfl, suph rfl rfl, trivial⟩, trivial, rfl, rfl⟩ ?_
      intro k hI1
      obtain ⟨hk1, hk2⟩ := hI1
      have hall : ¬ (t < 2 ∨ 6 < t ∨ a < 0 ∨ n < 0 ∨ 1048576 < n) := by omega
      have htl := tL_len s t a ht.2 k
      have htn := tN_bd s t a (by omega) ha hs k hk2
      refine W_seq ?_
      refine W_regionE (c := 30) (c' := 31) (by kernel_rfl) rfl ?_
      refine Runs_p rfl (Valid.lss rfl rfl rfl) rfl rfl ?_ -- selectors.go:96 binOp
      refine Runs_nil ?_
      refine thenQ_n ?_
      refine W_seq ?_
      refine W_cond _ rfl (fun hb2 => ?_) (fun hb2 => ?_)
      · try simp only [decide_eq_true_eq] at hb2
        all_goals (
          refine W_skip ?_
          refine thenQ_n ?_
          refine W_seq ?_
          refine W_block ?_
          refine W_seq ?_
          refine W_regionE (c := 31) (c' := 32) (by kernel_rfl) rfl ?_
          refine Runs_p rfl (Valid.assignk (A := Is _) rfl rfl) rfl rfl ?_ -- selectors.go:97 assign
          refine Runs_nil ?_
          refine thenQ_n ?_
          refine W_seq ?_
          refine W_seq ?_
          refine W_regionE (c := 32) (c' := 43) (by kernel_rfl) rfl ?_
          refine Runs_p rfl (Valid.movek (A := Ptr 41 0) rfl rfl) rfl rfl ?_ -- selectors.go:98 move
          refine Runs_p rfl (Valid.movek (A := Is _) rfl rfl) rfl rfl ?_ -- selectors.go:98 move
          refine Runs_p rfl (Valid.movek (A := Is _) rfl rfl) rfl rfl ?_ -- selectors.go:98 move
          refine Runs_w rfl (Valid.callm [(1, 41)] rfl (.inl ⟨rfl, rfl⟩) (take_s _ _ _ _ (by omega) (by omega) (by omega) (by omega) (by omega)) ⟨(leq_ptr rfl rfl rfl), (leq_is rfl rfl rfl), (leq_is rfl rfl rfl), trivial⟩ ⟨⟨_, rfl, .arr rfl⟩, trivial⟩ (up_pure rfl) (hpup_cons (j := 41) rfl cup_arr hpup_nil) (by kernel_rfl) (by kernel_rfl) (by kernel_rfl) (by kernel_rfl) (by kernel_rfl) (by kernel_rfl) (by kernel_rfl) (by kernel_rfl) (by kernel_rfl)) rfl rfl ?_ -- selectors.go:98 call
          refine Runs_p rfl (Valid.movek (A := Tup [Is _, Is _, Is _]) rfl rfl) rfl rfl ?_ -- selectors.go:98 move
          refine Runs_p rfl (Valid.extract _ rfl rfl rfl) rfl rfl ?_ -- selectors.go:98 extract
          refine Runs_p rfl (Valid.extract _ rfl rfl rfl) rfl rfl ?_ -- selectors.go:98 extract
          refine Runs_p rfl (Valid.extract _ rfl rfl rfl) rfl rfl ?_ -- selectors.go:98 extract
          refine Runs_p rfl (Valid.assignk (A := Is _) rfl rfl) rfl rfl ?_ -- selectors.go:98 assign
          refine Runs_p rfl (Valid.assignk (A := Is _) rfl rfl) rfl rfl ?_ -- selectors.go:98 assign
          refine Runs_p rfl (Valid.assignk (A := Is _) rfl rfl) rfl rfl ?_ -- selectors.go:98 assign
          refine Runs_nil ?_
          refine thenQ_n ?_
          refine W_seq ?_
          refine W_regionE (c := 43) (c' := 45) (by kernel_rfl) rfl ?_
          refine Runs_p rfl (Valid.movek (A := Is _) rfl rfl) rfl rfl ?_ -- selectors.go:98 move
          refine Runs_p rfl (Valid.neq rfl rfl rfl) rfl rfl ?_ -- selectors.go:98 binOp
          refine Runs_nil ?_
          refine thenQ_n ?_
          refine W_cond _ rfl (fun hb3 => ?_) (fun hb3 => ?_)
          · try simp only [decide_eq_true_eq, ne_eq] at hb3
            all_goals (
              refine W_seq ?_
              refine W_regionE (c := 45) (c' := 49) (by kernel_rfl) rfl ?_
              refine Runs_p rfl (Valid.movek (A := Is _) rfl rfl) rfl rfl ?_ -- selectors.go:99 move
              refine Runs_p rfl (Valid.assignk (A := Is (.slice none 0 0)) rfl rfl) rfl rfl ?_ -- selectors.go:99 assign
              refine Runs_p rfl (Valid.assignk (A := Is _) rfl rfl) rfl rfl ?_ -- selectors.go:99 assign
              refine Runs_p rfl (Valid.assignk (A := Is _) rfl rfl) rfl rfl ?_ -- selectors.go:99 assign
              refine Runs_nil ?_
              refine thenQ_n ?_
              refine W_ret ?_
              refine thenQ_r ?_
              refine blockQ_r ?_
              refine thenQ_r ?_
              refine loopQ_r ?_
              refine blockQ_r ?_
              refine thenQ_r ?_
              refine finQ_r ?_
              refine ResOk.three rfl (RVal.sl (Reads.nil rfl) rfl (by first | (rw [take_1 (by omega)]; rfl) | (rw [(take_e hall (k := k) (by omega) hk2 (by assumption))]; rfl) | (rw [(take_ok hall (k := k) (by omega) hk2), tC_len])) (by first | (rw [take_1 (by omega)]; rfl) | (rw [(take_e hall (k := k) (by omega) hk2 (by assumption))]; rfl) | (rw [(take_ok hall (k := k) (by omega) hk2)]))) (RVal.is rfl rfl (by first | rw [take_1 (by omega)] | rw [(take_e hall (k := k) (by omega) hk2 (by assumption))] | rw [(take_ok hall (k := k) (by omega) hk2)])) (RVal.is rfl rfl (by first | rw [take_1 (by omega)] | rw [(take_e hall (k := k) (by omega) hk2 (by assumption))] | rw [(take_ok hall (k := k) (by omega) hk2)]))
              done)
          · try simp only [decide_eq_false_iff_not, ne_eq] at hb3
            all_goals (
              refine W_skip ?_
              refine thenQ_n ?_
              refine W_regionE (c := 45) (c' := 50) (by kernel_rfl) rfl ?_
              refine Runs_p rfl (Valid.movek (A := Own 232 1 _ _) rfl rfl) rfl rfl ?_ -- selectors.go:101 move
              refine Runs_p rfl (Valid.movek (A := Is _) rfl rfl) rfl rfl ?_ -- selectors.go:101 move
              refine Runs_p rfl (Valid.lit (el := 3) [_] rfl rfl (fun _ => by kernel_rfl) rfl (by decide)) rfl rfl ?_ -- selectors.go:101 buildSlice
              refine Runs_w rfl (Valid.app rfl Try.underlying22 ti3 (by decide) rfl rfl (Reads.sl rfl) (by first | exact one_map (fun _ => rfl) | exact one_cons rfl one_nil | exact one_app (one_map (fun _ => rfl)) (one_cons rfl one_nil) | exact one_app (one_map (fun _ => rfl)) (one_map (fun _ => rfl)) | exact one_rep rfl | exact one_app (one_rep rfl) (one_map (fun _ => rfl)) | (intro u hu; simp at hu; rcases hu with rfl | hu <;> first | rfl | (subst hu; rfl))) (by first | (simp only [maxLen]; omega) | (simp only [maxLen, Int.toNat_natCast, toNat_add, toNat_add1, List.length_append, List.length_cons, List.length_nil, List.length_replicate]; omega)) (by first | omega | (simp only [Int.toNat_natCast, toNat_add, toNat_add1, List.length_append, List.length_cons, List.length_nil, List.length_replicate]; omega))) rfl rfl ?_ -- selectors.go:101 call
              refine Runs_p rfl (Valid.assignk (A := Own 384 1 _ _) rfl rfl) rfl rfl ?_ -- selectors.go:101 assign
              refine Runs_nil ?_
              refine blockQ_n ?_
              refine thenQ_n ?_
              refine W_regionE (c := 50) (c' := 52) (by kernel_rfl) rfl ?_
              refine Runs_p rfl (Valid.add rfl rfl rfl (room64 (by first | omega | (simp only [Int.toNat_natCast, toNat_add, toNat_add1, List.length_append, List.length_cons, List.length_nil, List.length_replicate]; omega)) (by first | omega | (simp only [Int.toNat_natCast, toNat_add, toNat_add1, List.length_append, List.length_cons, List.length_nil, List.length_replicate]; omega)))) rfl rfl ?_ -- selectors.go:96 binOp
              refine Runs_p rfl (Valid.movek (A := Is _) rfl rfl) rfl rfl ?_ -- selectors.go:96 move
              refine Runs_nil ?_
              refine LoopQ.next (k + 1) [(232, 384)] (⟨by omega, by rw [fE_1 hk2]; simpa using hb3⟩) (by first | omega | (dsimp only; omega)) ⟨⟨(leq_is rfl rfl (by first | rfl | exact congrArg (Value.int .i64) (tN_1 _ _ _ _) | exact tL_1 _ _ _ _ | exact tC_1 _ _ _ _)), (leq_is rfl rfl (by first | rfl | exact congrArg (Value.int .i64) (tN_1 _ _ _ _) | exact tL_1 _ _ _ _ | exact tC_1 _ _ _ _)), (leq_own rfl rfl rfl (by first | rfl | exact congrArg (Value.int .i64) (tN_1 _ _ _ _) | exact tL_1 _ _ _ _ | exact tC_1 _ _ _ _) (by first | rfl | exact congrArg (Value.int .i64) (tN_1 _ _ _ _) | exact tL_1 _ _ _ _ | exact tC_1 _ _ _ _)), trivial⟩, ⟨(leq_is rfl rfl rfl), (leq_ptr rfl rfl rfl), (leq_is rfl rfl rfl), trivial⟩, ⟨hp_ax rfl (by first | rfl | exact congrArg (Value.int .i64) (tN_1 _ _ _ _) | exact tL_1 _ _ _ _ | exact tC_1 _ _ _ _) (by first | rfl | exact congrArg (Value.int .i64) (tN_1 _ _ _ _) | exact tL_1 _ _ _ _ | exact tC_1 _ _ _ _), hp_row rfl (by first | rfl | exact congrArg (Value.int .i64) (tN_1 _ _ _ _) | exact tL_1 _ _ _ _ | exact tC_1 _ _ _ _) (by first | rfl | exact congrArg (Value.int .i64) (tN_1 _ _ _ _) | exact tL_1 _ _ _ _ | exact tC_1 _ _ _ _), trivial⟩, trivial, rfl, ⟨supg rfl, supg rfl, supg rfl, trivial⟩, ⟨supg rfl, supg rfl, supg rfl, trivial⟩, ⟨suph rfl rfl, suph rfl rfl, trivial⟩, trivial, rfl, rfl⟩
              done)
          done)
      · try simp only [decide_eq_false_iff_not] at hb2
        all_goals (
          refine W_exit ?_
          refine thenQ_e ?_
          refine loopQ_e ?_
          refine blockQ_x ?_
          refine thenQ_n ?_
          refine W_seq ?_
          refine W_regionE (c := 31) (c' := 36) (by kernel_rfl) rfl ?_
          refine Runs_p rfl (Valid.movek (A := Own 232 1 _ _) rfl rfl) rfl rfl ?_ -- selectors.go:103 move
          refine Runs_p rfl (Valid.movek (A := Is _) rfl rfl) rfl rfl ?_ -- selectors.go:103 move
          refine Runs_p rfl (Valid.assignk (A := Own 232 1 _ _) rfl rfl) rfl rfl ?_ -- selectors.go:103 assign
          refine Runs_p rfl (Valid.assignk (A := Is _) rfl rfl) rfl rfl ?_ -- selectors.go:103 assign
          refine Runs_p rfl (Valid.assignk (A := Is _) rfl rfl) rfl rfl ?_ -- selectors.go:103 assign
          refine Runs_nil ?_
          refine thenQ_n ?_
          refine W_ret ?_
          refine finQ_r ?_
          refine ResOk.three rfl (RVal.sl (Reads.own rfl) rfl (by first | (rw [take_1 (by omega)]; rfl) | (rw [(take_e hall (k := k) (by omega) hk2 (by assumption))]; rfl) | (rw [(take_ok hall (k := k) (by omega) hk2), tC_len])) (by first | (rw [take_1 (by omega)]; rfl) | (rw [(take_e hall (k := k) (by omega) hk2 (by assumption))]; rfl) | (rw [(take_ok hall (k := k) (by omega) hk2)]))) (RVal.is rfl rfl (by first | rw [take_1 (by omega)] | rw [(take_e hall (k := k) (by omega) hk2 (by assumption))] | rw [(take_ok hall (k := k) (by omega) hk2)])) (RVal.is rfl rfl (by first | rw [take_1 (by omega)] | rw [(take_e hall (k := k) (by omega) hk2 (by assumption))] | rw [(take_ok hall (k := k) (by omega) hk2)]))
          done)
      done)

theorem take_v (s : ByteArray) (a n t : Int) (hs : s.size ≤ 1000000000000) (ha : a ≤ 9223372036854775807) : FPure Try.prog 13 [Is (.string s), Is (.int .i64 a), Is (.int .i64 n), Is (.int .i64 t)] (Tup [Sl 1 (takeV s a n t).1.length ((takeV s a n t).1.map (Value.int .i64)), Is (.int .i64 (takeV s a n t).2.1), Is (.int .i64 (takeV s a n t).2.2)]) := by
  by_cases h : t < 2 ∨ 6 < t
  · exact take_no s a n t hs ha (by omega) h
  · exact take_ok_s s a n t hs ha (by omega)
end Ed
end Go.Proofs.Ytkjmdnehlodihaa
