/-
  WALKS of stage 5: the program.
-/
import Derived.Test.YtilljaaolejedaaRows
import Derived.Test.YtilljaaolejedaaAbq
import Derived.Test.YtilljaaolejedaaCm
import Derived.Test.YtilljaaolejedaaFa
namespace Go.Proofs.Ytilljaaolejedaa
open Go.RowKit
namespace Fb
open Ab Cm Fa
theorem ag4 (w : World) : (isAgg 4).run Try.prog w = .ok false w := by kernel_rfl
theorem sz4 (w : World) : (sizeOf 4).run Try.prog w = .ok 1 w := by kernel_rfl
theorem zv42 (w : World) : (zeroValue 42).run Try.prog w = .ok (.agg #[(Value.bool false), (Value.bool false), (Value.bool false), (Value.bool false), (Value.bool false), (Value.bool false), (Value.bool false), (Value.bool false), (Value.bool false), (Value.bool false), (Value.bool false), (Value.bool false), (Value.bool false), (Value.bool false), (Value.bool false), (Value.bool false), (Value.bool false), (Value.bool false), (Value.bool false), (Value.bool false), (Value.bool false), (Value.bool false), (Value.bool false), (Value.bool false), (Value.bool false), (Value.bool false), (Value.bool false), (Value.bool false), (Value.bool false), (Value.bool false), (Value.bool false), (Value.bool false), (Value.bool false), (Value.bool false), (Value.bool false), (Value.bool false), (Value.bool false), (Value.bool false), (Value.bool false), (Value.bool false), (Value.bool false), (Value.bool false), (Value.bool false), (Value.bool false), (Value.bool false), (Value.bool false), (Value.bool false), (Value.bool false), (Value.bool false), (Value.bool false), (Value.bool false), (Value.bool false), (Value.bool false), (Value.bool false), (Value.bool false), (Value.bool false), (Value.bool false), (Value.bool false), (Value.bool false), (Value.bool false), (Value.bool false), (Value.bool false), (Value.bool false), (Value.bool false), (Value.bool false), (Value.bool false), (Value.bool false), (Value.bool false), (Value.bool false), (Value.bool false), (Value.bool false), (Value.bool false), (Value.bool false), (Value.bool false), (Value.bool false), (Value.bool false), (Value.bool false), (Value.bool false), (Value.bool false), (Value.bool false), (Value.bool false), (Value.bool false), (Value.bool false), (Value.bool false), (Value.bool false), (Value.bool false), (Value.bool false), (Value.bool false), (Value.bool false), (Value.bool false), (Value.bool false), (Value.bool false), (Value.bool false), (Value.bool false), (Value.bool false), (Value.bool false), (Value.bool false), (Value.bool false), (Value.bool false), (Value.bool false), (Value.bool false), (Value.bool false), (Value.bool false), (Value.bool false), (Value.bool false), (Value.bool false), (Value.bool false), (Value.bool false), (Value.bool false), (Value.bool false), (Value.bool false), (Value.bool false), (Value.bool false), (Value.bool false), (Value.bool false), (Value.bool false), (Value.bool false), (Value.bool false), (Value.bool false), (Value.bool false), (Value.bool false), (Value.bool false), (Value.bool false), (Value.bool false), (Value.bool false), (Value.bool false), (Value.bool false), (Value.bool false), (Value.bool false), (Value.bool false), (Value.bool false), (Value.bool false), (Value.bool false), (Value.bool false), (Value.bool false), (Value.bool false), (Value.bool false), (Value.bool false), (Value.bool false), (Value.bool false), (Value.bool false), (Value.bool false), (Value.bool false), (Value.bool false), (Value.bool false), (Value.bool false), (Value.bool false), (Value.bool false), (Value.bool false), (Value.bool false), (Value.bool false), (Value.bool false), (Value.bool false), (Value.bool false), (Value.bool false), (Value.bool false), (Value.bool false), (Value.bool false), (Value.bool false), (Value.bool false), (Value.bool false), (Value.bool false), (Value.bool false), (Value.bool false), (Value.bool false), (Value.bool false), (Value.bool false), (Value.bool false), (Value.bool false), (Value.bool false), (Value.bool false), (Value.bool false), (Value.bool false), (Value.bool false), (Value.bool false), (Value.bool false), (Value.bool false), (Value.bool false), (Value.bool false), (Value.bool false), (Value.bool false), (Value.bool false), (Value.bool false), (Value.bool false), (Value.bool false), (Value.bool false), (Value.bool false), (Value.bool false), (Value.bool false), (Value.bool false), (Value.bool false), (Value.bool false), (Value.bool false), (Value.bool false), (Value.bool false), (Value.bool false), (Value.bool false), (Value.bool false), (Value.bool false), (Value.bool false), (Value.bool false), (Value.bool false), (Value.bool false), (Value.bool false), (Value.bool false), (Value.bool false), (Value.bool false), (Value.bool false), (Value.bool false), (Value.bool false), (Value.bool false), (Value.bool false), (Value.bool false), (Value.bool false), (Value.bool false), (Value.bool false), (Value.bool false), (Value.bool false), (Value.bool false), (Value.bool false), (Value.bool false), (Value.bool false), (Value.bool false), (Value.bool false), (Value.bool false), (Value.bool false), (Value.bool false), (Value.bool false), (Value.bool false), (Value.bool false), (Value.bool false), (Value.bool false), (Value.bool false), (Value.bool false), (Value.bool false), (Value.bool false), (Value.bool false), (Value.bool false), (Value.bool false), (Value.bool false), (Value.bool false), (Value.bool false), (Value.bool false), (Value.bool false), (Value.bool false), (Value.bool false), (Value.bool false), (Value.bool false), (Value.bool false), (Value.bool false), (Value.bool false), (Value.bool false), (Value.bool false), (Value.bool false), (Value.bool false), (Value.bool false)]) w := by kernel_rfl
def RightP (s : ByteArray) : Prop := ∀ i, i < s.size → ∀ j, j < i → bat s (j : Int) ≠ bat s (i : Int)
instance (s : ByteArray) : Decidable (RightP s) := inferInstanceAs (Decidable (∀ i, i < s.size → ∀ j, j < i → _))
def hasL (s : ByteArray) : Nat → List Bool
  | 0 => List.replicate 256 false
  | k + 1 => (hasL s k).set (bat s (k : Int)).toNat true
  termination_by k => k
theorem has_0 (s : ByteArray) : List.replicate 256 false = hasL s 0 := by rw [hasL]
theorem has_1 (s : ByteArray) (k : Nat) : (hasL s k).set (bat s (k : Int)).toNat true = hasL s (k + 1) := by rw [hasL]
theorem has_len (s : ByteArray) : ∀ k, (hasL s k).length = 256
  | 0 => by rw [hasL, List.length_replicate]
  | k + 1 => by rw [hasL, List.length_set, has_len s k]
theorem has_at (s : ByteArray) : ∀ k x, (hasL s k).getD x false = true ↔ ∃ j, j < k ∧ (bat s (j : Int)).toNat = x
  | 0, x => by
    rw [hasL]
    simp only [List.getD_eq_getElem?_getD, List.getElem?_replicate]
    constructor
    · intro h; split at h <;> simp at h
    · rintro ⟨j, hj, _⟩; omega
  | k + 1, x => by
    have ih := has_at s k x
    have hl := has_len s k
    have hb := (bat s (k : Int)).toNat_lt
    rw [hasL, List.getD_eq_getElem?_getD, List.getElem?_set]
    by_cases e : (bat s (k : Int)).toNat = x
    · rw [if_pos e, if_pos (by omega)]
      exact ⟨fun _ => ⟨k, by omega, e⟩, fun _ => rfl⟩
    · rw [if_neg e, ← List.getD_eq_getElem?_getD, ih]
      constructor
      · rintro ⟨j, h1, h2⟩; exact ⟨j, by omega, h2⟩
      · rintro ⟨j, h1, h2⟩
        have : j ≠ k := fun e2 => e (by rw [← e2]; exact h2)
        exact ⟨j, by omega, h2⟩
theorem right_no (s : ByteArray) (k : Nat) (hk : k < s.size) (h : (hasL s k).getD (bat s (k : Int)).toNat false = true) : ¬ RightP s := fun hR => by
  obtain ⟨j, h1, h2⟩ := (has_at s k _).1 h
  exact hR k hk j h1 (UInt8.toNat_inj.1 h2)
theorem right_new (s : ByteArray) (k : Nat) (h : (hasL s k).getD (bat s (k : Int)).toNat false = false) : ∀ j, j < k → bat s (j : Int) ≠ bat s (k : Int) := fun j hj e => by
  rw [(has_at s k _).2 ⟨j, hj, by rw [e]⟩] at h
  cases h

set_option maxRecDepth 100000 in
set_option maxHeartbeats 1000000 in
theorem right_s (s : ByteArray) (hs : s.size ≤ 1000000000) :
    FPure Try.prog 12 [Is (.string s)] (Is (.bool (decide (RightP s)))) := by
  refine FPure.of Try.func12 Try.ntmps12 rfl (by kernel_rfl) rfl rfl rfl ?_
  refine W_seq ?_
  refine W_regionE (c := 1) (c' := 2) (by kernel_rfl) rfl ?_
  refine Runs_p rfl (Valid.assignk (A := Is _) rfl rfl) rfl rfl ?_ -- front.go:58 assign
  refine Runs_nil ?_
  refine thenQ_n ?_
  refine W_seq ?_
  refine W_regionE (c := 2) (c' := 3) (by kernel_rfl) rfl ?_
  refine Runs_w rfl (Valid.allocarr (f := Value.bool) (zg := false) (n := 256) rfl zv42 (by kernel_rfl)) rfl rfl ?_ -- front.go:59 alloc
  refine Runs_nil ?_
  refine thenQ_n ?_
  refine W_seq ?_
  refine W_seq ?_
  refine W_regionE (c := 3) (c' := 6) (by kernel_rfl) rfl ?_
  refine Runs_p rfl (Valid.movek (A := Is _) rfl rfl) rfl rfl ?_ -- front.go:60 move
  refine Runs_p rfl (Valid.slen rfl Try.underlying9 rfl) rfl rfl ?_ -- front.go:60 call
  refine Runs_p rfl (Valid.movek (A := Is _) rfl rfl) rfl rfl ?_ -- front.go:60 move
  refine Runs_nil ?_
  refine thenQ_n ?_
  refine W_block ?_
  refine W_loopx (G := Nat) (fun (k : Nat) => k ≤ s.size ∧ ∀ i, i < k → ∀ j, j < i → bat s (j : Int) ≠ bat s (i : Int)) [(0, Is _), (3, Ptr 16 0), (6, Is _)] (fun (k : Nat) => [(7, Is (.int .i64 (k : Int)))]) [] (fun (k : Nat) => [(16, .var 42 (Arr (Value.bool) (hasL s k)))]) 6 (fun (k : Nat) => s.size - k) (0) [] (⟨by omega, fun i hi => by omega⟩) ⟨⟨(leq_is rfl rfl (by first | rfl | exact has_0 _)), trivial⟩, ⟨(leq_is rfl rfl rfl), (leq_ptr rfl rfl rfl), (leq_is rfl rfl rfl), trivial⟩, ⟨hp_arr rfl (by first | rfl | exact has_0 _), trivial⟩, trivial, rfl, ⟨supg rfl, trivial⟩, ⟨supg rfl, supg rfl, supg rfl, trivial⟩, ⟨suph_arr rfl, trivial⟩, trivial, rfl, rfl⟩ ?_
  intro k hI1
  obtain ⟨hk1, hk2⟩ := hI1
  have hhl := has_len s k
  have hbl : (bat s (k : Int)).toNat < 256 := (bat s (k : Int)).toNat_lt
  refine W_seq ?_
  refine W_regionE (c := 6) (c' := 7) (by kernel_rfl) rfl ?_
  refine Runs_p rfl (Valid.lss rfl rfl rfl) rfl rfl ?_ -- front.go:60 binOp
  refine Runs_nil ?_
  refine thenQ_n ?_
  refine W_seq ?_
  refine W_cond _ rfl (fun hb1 => ?_) (fun hb1 => ?_)
  · try simp only [decide_eq_true_eq] at hb1
    all_goals (
      refine W_skip ?_
      refine thenQ_n ?_
      refine W_seq ?_
      refine W_block ?_
      refine W_seq ?_
      refine W_regionE (c := 7) (c' := 9) (by kernel_rfl) rfl ?_
      refine Runs_p rfl (Valid.movek (A := Is _) rfl rfl) rfl rfl ?_ -- front.go:60 move
      refine Runs_p rfl (Valid.assignk (A := Is _) rfl rfl) rfl rfl ?_ -- front.go:60 assign
      refine Runs_nil ?_
      refine thenQ_n ?_
      refine W_seq ?_
      refine W_seq ?_
      refine W_regionE (c := 9) (c' := 14) (by kernel_rfl) rfl ?_
      refine Runs_p rfl (Valid.movek (A := Is _) rfl rfl) rfl rfl ?_ -- front.go:61 move
      refine Runs_p rfl (Valid.movek (A := Is _) rfl rfl) rfl rfl ?_ -- front.go:61 move
      refine Runs_p rfl (Valid.sindex rfl Try.underlying9 rfl rfl (by first | omega | (simp only [Int.toNat_natCast, toNat_add, toNat_add1, List.length_append, List.length_cons, List.length_nil, List.length_replicate]; omega))) rfl rfl ?_ -- front.go:61 index
      refine Runs_p rfl (Valid.idxarr1 rfl Try.underlying42 sz4 rfl rfl (by first | omega | (simp only [Int.toNat_natCast, toNat_add, toNat_add1, List.length_append, List.length_cons, List.length_nil, List.length_replicate]; omega))) rfl rfl ?_ -- front.go:61 indexAddr
      refine Runs_p rfl (Valid.loadarr false rfl ag4 rfl rfl (by first | omega | (simp only [Int.toNat_natCast, toNat_add, toNat_add1, List.length_append, List.length_cons, List.length_nil, List.length_replicate]; omega))) rfl rfl ?_ -- front.go:61 load
      refine Runs_nil ?_
      refine thenQ_n ?_
      refine W_cond _ rfl (fun hb2 => ?_) (fun hb2 => ?_)
      · try simp only [Int.toNat_natCast] at hb2
        all_goals (
          refine W_seq ?_
          refine W_regionE (c := 14) (c' := 15) (by kernel_rfl) rfl ?_
          refine Runs_p rfl (Valid.assignk (A := Is _) rfl rfl) rfl rfl ?_ -- front.go:62 assign
          refine Runs_nil ?_
          refine thenQ_n ?_
          refine W_ret ?_
          refine thenQ_r ?_
          refine blockQ_r ?_
          refine thenQ_r ?_
          refine loopQ_r ?_
          refine blockQ_r ?_
          refine thenQ_r ?_
          refine finQ_r ?_
          refine ResOk.one rfl (RVal.is rfl rfl (by first | (rw [decide_eq_false (right_no s k (by omega) (by assumption))]) | (rw [decide_eq_true (p := RightP s) (fun i hi => hk2 i (by omega))])))
          done)
      · try simp only [Int.toNat_natCast] at hb2
        all_goals (
          refine W_skip ?_
          refine thenQ_n ?_
          refine W_regionE (c := 14) (c' := 19) (by kernel_rfl) rfl ?_
          refine Runs_p rfl (Valid.movek (A := Is _) rfl rfl) rfl rfl ?_ -- front.go:64 move
          refine Runs_p rfl (Valid.movek (A := Is _) rfl rfl) rfl rfl ?_ -- front.go:64 move
          refine Runs_p rfl (Valid.sindex rfl Try.underlying9 rfl rfl (by first | omega | (simp only [Int.toNat_natCast, toNat_add, toNat_add1, List.length_append, List.length_cons, List.length_nil, List.length_replicate]; omega))) rfl rfl ?_ -- front.go:64 index
          refine Runs_p rfl (Valid.idxarr1 rfl Try.underlying42 sz4 rfl rfl (by first | omega | (simp only [Int.toNat_natCast, toNat_add, toNat_add1, List.length_append, List.length_cons, List.length_nil, List.length_replicate]; omega))) rfl rfl ?_ -- front.go:64 indexAddr
          refine Runs_op rfl (Valid.storearr _ rfl sz4 rfl rfl (by first | omega | (simp only [Int.toNat_natCast, toNat_add, toNat_add1, List.length_append, List.length_cons, List.length_nil, List.length_replicate]; omega)) rfl (One.is rfl rfl rfl)) rfl ?_ -- front.go:64 store
          refine Runs_nil ?_
          refine blockQ_n ?_
          refine thenQ_n ?_
          refine W_regionE (c := 19) (c' := 21) (by kernel_rfl) rfl ?_
          refine Runs_p rfl (Valid.add rfl rfl rfl (room64 (by first | omega | (simp only [Int.toNat_natCast, toNat_add, toNat_add1, List.length_append, List.length_cons, List.length_nil, List.length_replicate]; omega)) (by first | omega | (simp only [Int.toNat_natCast, toNat_add, toNat_add1, List.length_append, List.length_cons, List.length_nil, List.length_replicate]; omega)))) rfl rfl ?_ -- front.go:60 binOp
          refine Runs_p rfl (Valid.movek (A := Is _) rfl rfl) rfl rfl ?_ -- front.go:60 move
          refine Runs_nil ?_
          refine LoopQ.next (k + 1) [] (⟨by omega, fun i hi => (by
                by_cases e : i = k
                · subst e; exact right_new s i (by assumption)
                · exact hk2 i (by omega))⟩) (by first | omega | (dsimp only; omega)) ⟨⟨(leq_is rfl rfl (by first | rfl | exact has_1 _ _)), trivial⟩, ⟨(leq_is rfl rfl rfl), (leq_ptr rfl rfl rfl), (leq_is rfl rfl rfl), trivial⟩, ⟨hp_arr rfl (by first | rfl | exact has_1 _ _), trivial⟩, trivial, rfl, ⟨supg rfl, trivial⟩, ⟨supg rfl, supg rfl, supg rfl, trivial⟩, ⟨suph_arr rfl, trivial⟩, trivial, rfl, rfl⟩
          done)
      done)
  · try simp only [decide_eq_false_iff_not] at hb1
    all_goals (
      refine W_exit ?_
      refine thenQ_e ?_
      refine loopQ_e ?_
      refine blockQ_x ?_
      refine thenQ_n ?_
      refine W_seq ?_
      refine W_regionE (c := 7) (c' := 8) (by kernel_rfl) rfl ?_
      refine Runs_p rfl (Valid.assignk (A := Is _) rfl rfl) rfl rfl ?_ -- front.go:66 assign
      refine Runs_nil ?_
      refine thenQ_n ?_
      refine W_ret ?_
      refine finQ_r ?_
      refine ResOk.one rfl (RVal.is rfl rfl (by first | (rw [decide_eq_false (right_no s k (by omega) (by assumption))]) | (rw [decide_eq_true (p := RightP s) (fun i hi => hk2 i (by omega))])))
      done)

def frontV (a s : ByteArray) : List Int × Int := if ¬ RightP a then ([], 1) else if okF a.data.toList s then (plL a.data.toList s s.size, 0) else ([], 5)
def afterV (a s : ByteArray) : ByteArray × Int := if ¬ RightP a then (ByteArray.empty, 1) else if okF a.data.toList s then (⟨(frL a.data.toList s s.size).toArray⟩, 0) else (ByteArray.empty, 5)

set_option maxRecDepth 100000 in
set_option maxHeartbeats 1000000 in
theorem gone_ok (a s : ByteArray) (ha : a.size ≤ 1000000000) (hs : s.size ≤ 1000000000) (hR : RightP a) (hok : okF a.data.toList s) :
    FMem Try.prog 23 [Is (.string a), Is (.string s)] [] (Tup [Ptr 9 0, Is (.int .i64 0)]) [(9, .var 49 [Buf 10 a.size, Own 11 1 s.size ((plL a.data.toList s s.size).map I64), Is (.slice none 0 0)]), (10, .buf 5 ((frL a.data.toList s s.size).map B)), (11, .row 3 1 s.size ((plL a.data.toList s s.size).map I64))] := by
  refine FMem.of Try.func23 Try.ntmps23 rfl (by kernel_rfl) rfl rfl rfl ?_
  refine W_seq ?_
  refine W_regionE (c := 1) (c' := 3) (by kernel_rfl) rfl ?_
  refine Runs_p rfl (Valid.assignk (A := Is _) rfl rfl) rfl rfl ?_ -- front.go:70 assign
  refine Runs_p rfl (Valid.assignk (A := Is _) rfl rfl) rfl rfl ?_ -- front.go:70 assign
  refine Runs_nil ?_
  refine thenQ_n ?_
  refine W_seq ?_
  refine W_seq ?_
  refine W_regionE (c := 3) (c' := 6) (by kernel_rfl) rfl ?_
  refine Runs_p rfl (Valid.movek (A := Is _) rfl rfl) rfl rfl ?_ -- front.go:71 move
  refine Runs_p rfl (Valid.call rfl (right_s _ (by omega)) ⟨argle rfl, trivial⟩) rfl rfl ?_ -- front.go:71 call
  refine Runs_p rfl (Valid.not rfl rfl) rfl rfl ?_ -- front.go:71 unOp
  refine Runs_nil ?_
  refine thenQ_n ?_
  refine W_cond _ rfl (fun hb1 => ?_) (fun hb1 => ?_)
  · try simp only [decide_eq_false_iff_not, Bool.not_eq_true'] at hb1
    all_goals (
      exact absurd hR hb1
      
      done)
  · try simp only [decide_eq_true_eq, Bool.not_eq_false'] at hb1
    all_goals (
      refine W_skip ?_
      refine thenQ_n ?_
      refine W_seq ?_
      refine W_regionE (c := 6) (c' := 9) (by kernel_rfl) rfl ?_
      refine Runs_p rfl (Valid.movek (A := Is _) rfl rfl) rfl rfl ?_ -- front.go:74 move
      refine Runs_w rfl (Valid.callm [] rfl (.inl ⟨rfl, rfl⟩) (begin_s _ (by omega)) ⟨(leq_is rfl rfl rfl), trivial⟩ trivial (up_ptr' (id' := 57) rfl) (hpup_cons (j := 57) rfl (cup_var (allup_cons (up_buf (id' := 58) rfl) (allup_cons (up_pure rfl) (allup_cons (up_pure rfl) allup_nil)))) (hpup_cons (j := 58) rfl cup_buf hpup_nil)) (by kernel_rfl) (by kernel_rfl) (by kernel_rfl) (by kernel_rfl) (by kernel_rfl) (by kernel_rfl) (by kernel_rfl) (by kernel_rfl) (by kernel_rfl)) rfl rfl ?_ -- front.go:74 call
      refine Runs_p rfl (Valid.assignk (A := Ptr 57 0) rfl rfl) rfl rfl ?_ -- front.go:74 assign
      refine Runs_nil ?_
      refine W.ent ?_ (Ent.ownnilat 57 1 3 1 rfl rfl)
      refine thenQ_n ?_
      refine W_seq ?_
      refine W_seq ?_
      refine W_regionE (c := 10) (c' := 14) (by kernel_rfl) rfl ?_
      refine Runs_p rfl (Valid.movek (A := Ptr 57 0) rfl rfl) rfl rfl ?_ -- front.go:75 move
      refine Runs_p rfl (Valid.movek (A := Is _) rfl rfl) rfl rfl ?_ -- front.go:75 move
      refine Runs_w rfl (Valid.callm [(1, 57), (2, 58), (3, 72)] rfl (.inl ⟨rfl, rfl⟩) (rfront_ok _ _ (by first | omega | (simp; omega)) (by omega) (by assumption)) ⟨(leq_ptr rfl rfl rfl), (leq_is rfl rfl rfl), trivial⟩ ⟨⟨_, rfl, .var ⟨(leq_buf rfl rfl rfl (by first | rfl | omega)), (leq_own rfl rfl rfl rfl rfl), (leq_is rfl rfl rfl), trivial⟩⟩, ⟨_, rfl, .buf rfl⟩, ⟨_, rfl, .row rfl rfl⟩, trivial⟩ (up_pure rfl) (hpup_cons (j := 57) rfl (cup_var (allup_cons (up_buf (id' := 58) rfl) (allup_cons (up_own' (id' := 99) rfl) (allup_cons (up_pure rfl) allup_nil)))) (hpup_cons (j := 58) rfl cup_buf (hpup_cons (j := 99) rfl cup_row hpup_nil))) (by kernel_rfl) (by kernel_rfl) (by kernel_rfl) (by kernel_rfl) (by kernel_rfl) (by kernel_rfl) (by kernel_rfl) (by kernel_rfl) (by kernel_rfl)) rfl rfl ?_ -- front.go:75 call
      refine Runs_p rfl (Valid.not rfl rfl) rfl rfl ?_ -- front.go:75 unOp
      refine Runs_nil ?_
      refine thenQ_n ?_
      refine W_cond _ rfl (fun hb2 => ?_) (fun hb2 => ?_)
      · try simp only [Bool.not_eq_true', Bool.true_eq_false] at hb2
        all_goals (
          exfalso
          simp at hb2
          
          done)
      · try simp only [Bool.not_eq_false'] at hb2
        all_goals (
          refine W_skip ?_
          refine thenQ_n ?_
          refine W_seq ?_
          refine W_regionE (c := 14) (c' := 17) (by kernel_rfl) rfl ?_
          refine Runs_p rfl (Valid.movek (A := Ptr 57 0) rfl rfl) rfl rfl ?_ -- front.go:78 move
          refine Runs_p rfl (Valid.assignk (A := Ptr 57 0) rfl rfl) rfl rfl ?_ -- front.go:78 assign
          refine Runs_p rfl (Valid.assignk (A := Is _) rfl rfl) rfl rfl ?_ -- front.go:78 assign
          refine Runs_nil ?_
          refine thenQ_n ?_
          refine W_ret ?_
          refine finMQ_r ?_
          exact FinM.leq [(9, 57), (10, 58), (11, 99)] (ResOk.two rfl (RVal.tmp (fun _ _ _ h => h)) (RVal.tmp (fun _ _ _ h => h))) (leq_tup rfl rfl ⟨(leq_ptr rfl rfl rfl), (leq_is rfl rfl (by rfl)), trivial⟩) ⟨hp_var rfl ⟨(leq_buf rfl rfl rfl (by rfl)), (leq_own rfl rfl rfl (by rfl) (by rfl)), (leq_is rfl rfl (by rfl)), trivial⟩, hp_buf rfl (by rfl), hp_row rfl (by rfl) (by rfl), trivial⟩ rfl rfl
          done)
      done)

set_option maxRecDepth 100000 in
set_option maxHeartbeats 1000000 in
theorem gone_no (a s : ByteArray) (ha : a.size ≤ 1000000000) (hs : s.size ≤ 1000000000) (hno : RightP a → ¬ okF a.data.toList s) :
    FPure Try.prog 23 [Is (.string a), Is (.string s)] (Tup [Is (.pointer none), Is (.int .i64 (frontV a s).2)]) := by
  refine FPure.of Try.func23 Try.ntmps23 rfl (by kernel_rfl) rfl rfl rfl ?_
  refine W_seq ?_
  refine W_regionE (c := 1) (c' := 3) (by kernel_rfl) rfl ?_
  refine Runs_p rfl (Valid.assignk (A := Is _) rfl rfl) rfl rfl ?_ -- front.go:70 assign
  refine Runs_p rfl (Valid.assignk (A := Is _) rfl rfl) rfl rfl ?_ -- front.go:70 assign
  refine Runs_nil ?_
  refine thenQ_n ?_
  refine W_seq ?_
  refine W_seq ?_
  refine W_regionE (c := 3) (c' := 6) (by kernel_rfl) rfl ?_
  refine Runs_p rfl (Valid.movek (A := Is _) rfl rfl) rfl rfl ?_ -- front.go:71 move
  refine Runs_p rfl (Valid.call rfl (right_s _ (by omega)) ⟨argle rfl, trivial⟩) rfl rfl ?_ -- front.go:71 call
  refine Runs_p rfl (Valid.not rfl rfl) rfl rfl ?_ -- front.go:71 unOp
  refine Runs_nil ?_
  refine thenQ_n ?_
  refine W_cond _ rfl (fun hb1 => ?_) (fun hb1 => ?_)
  · try simp only [decide_eq_false_iff_not, Bool.not_eq_true'] at hb1
    all_goals (
      refine W_seq ?_
      refine W_regionE (c := 6) (c' := 8) (by kernel_rfl) rfl ?_
      refine Runs_p rfl (Valid.assignk (A := Is _) rfl rfl) rfl rfl ?_ -- front.go:72 assign
      refine Runs_p rfl (Valid.assignk (A := Is _) rfl rfl) rfl rfl ?_ -- front.go:72 assign
      refine Runs_nil ?_
      refine thenQ_n ?_
      refine W_ret ?_
      refine thenQ_r ?_
      refine finQ_r ?_
      refine ResOk.two rfl (RVal.is rfl rfl (by rfl)) (RVal.is rfl rfl (by first | (rw [frontV, if_pos (by simpa using hb1)]; done) | (rw [frontV, if_neg (by simpa using hb1), if_neg (hno (by simpa using hb1))]; done)))
      done)
  · try simp only [decide_eq_true_eq, Bool.not_eq_false'] at hb1
    all_goals (
      refine W_skip ?_
      refine thenQ_n ?_
      refine W_seq ?_
      refine W_regionE (c := 6) (c' := 9) (by kernel_rfl) rfl ?_
      refine Runs_p rfl (Valid.movek (A := Is _) rfl rfl) rfl rfl ?_ -- front.go:74 move
      refine Runs_w rfl (Valid.callm [] rfl (.inl ⟨rfl, rfl⟩) (begin_s _ (by omega)) ⟨(leq_is rfl rfl rfl), trivial⟩ trivial (up_ptr' (id' := 57) rfl) (hpup_cons (j := 57) rfl (cup_var (allup_cons (up_buf (id' := 58) rfl) (allup_cons (up_pure rfl) (allup_cons (up_pure rfl) allup_nil)))) (hpup_cons (j := 58) rfl cup_buf hpup_nil)) (by kernel_rfl) (by kernel_rfl) (by kernel_rfl) (by kernel_rfl) (by kernel_rfl) (by kernel_rfl) (by kernel_rfl) (by kernel_rfl) (by kernel_rfl)) rfl rfl ?_ -- front.go:74 call
      refine Runs_p rfl (Valid.assignk (A := Ptr 57 0) rfl rfl) rfl rfl ?_ -- front.go:74 assign
      refine Runs_nil ?_
      refine W.ent ?_ (Ent.ownnilat 57 1 3 1 rfl rfl)
      refine thenQ_n ?_
      refine W_seq ?_
      refine W_seq ?_
      refine W_regionE (c := 10) (c' := 14) (by kernel_rfl) rfl ?_
      refine Runs_p rfl (Valid.movek (A := Ptr 57 0) rfl rfl) rfl rfl ?_ -- front.go:75 move
      refine Runs_p rfl (Valid.movek (A := Is _) rfl rfl) rfl rfl ?_ -- front.go:75 move
      refine Runs_w rfl (Valid.callm [(1, 57), (2, 58), (3, 72)] rfl (.inl ⟨rfl, rfl⟩) (rfront_no _ _ (by first | omega | (simp; omega)) (by omega) (hno (by first | assumption | (simpa using hb1)))) ⟨(leq_ptr rfl rfl rfl), (leq_is rfl rfl rfl), trivial⟩ ⟨⟨_, rfl, .var ⟨(leq_buf rfl rfl rfl (by first | rfl | omega)), (leq_own rfl rfl rfl rfl rfl), (leq_is rfl rfl rfl), trivial⟩⟩, ⟨_, rfl, .buf rfl⟩, ⟨_, rfl, .row rfl rfl⟩, trivial⟩ (up_pure rfl) hpup_nil (by kernel_rfl) (by kernel_rfl) (by kernel_rfl) (by kernel_rfl) (by kernel_rfl) (by kernel_rfl) (by kernel_rfl) (by kernel_rfl) (by kernel_rfl)) rfl rfl ?_ -- front.go:75 call
      refine Runs_p rfl (Valid.not rfl rfl) rfl rfl ?_ -- front.go:75 unOp
      refine Runs_nil ?_
      refine thenQ_n ?_
      refine W_cond _ rfl (fun hb2 => ?_) (fun hb2 => ?_)
      · try simp only [Bool.not_eq_true'] at hb2
        all_goals (
          refine W_seq ?_
          refine W_regionE (c := 14) (c' := 16) (by kernel_rfl) rfl ?_
          refine Runs_p rfl (Valid.assignk (A := Is _) rfl rfl) rfl rfl ?_ -- front.go:76 assign
          refine Runs_p rfl (Valid.assignk (A := Is _) rfl rfl) rfl rfl ?_ -- front.go:76 assign
          refine Runs_nil ?_
          refine thenQ_n ?_
          refine W_ret ?_
          refine thenQ_r ?_
          refine finQ_r ?_
          refine ResOk.two rfl (RVal.is rfl rfl (by rfl)) (RVal.is rfl rfl (by first | (rw [frontV, if_pos (by simpa using hb1)]; done) | (rw [frontV, if_neg (by simpa using hb1), if_neg (hno (by simpa using hb1))]; done)))
          done)
      · try simp only [Bool.not_eq_false', Bool.false_eq_true] at hb2
        all_goals (
          exfalso
          simp at hb2
          
          done)
      done)
end Fb
end Go.Proofs.Ytilljaaolejedaa
