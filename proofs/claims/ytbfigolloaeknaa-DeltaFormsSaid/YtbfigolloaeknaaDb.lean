/-
  WALKS of stage 9: the length that comes next.
-/
import Derived.Test.YtbfigolloaeknaaRows
import Derived.Test.YtbfigolloaeknaaMgc
import Derived.Test.YtbfigolloaeknaaDd
import Derived.Test.YtbfigolloaeknaaDa
import Derived.Test.YtbfigolloaeknaaMha
import Derived.Test.YtbfigolloaeknaaCa
namespace Go.Proofs.Ytbfigolloaeknaa
open Go.RowKit
namespace Db
open Ab Bm Bt Dd Da Bb Ca
theorem ag3 (w : World) : (isAgg 3).run Try.prog w = .ok false w := by kernel_rfl
theorem ag75 (w : World) : (isAgg 75).run Try.prog w = .ok false w := by kernel_rfl
theorem sz75 (w : World) : (sizeOf 75).run Try.prog w = .ok 1 w := by kernel_rfl
theorem sz76 (w : World) : (sizeOf 76).run Try.prog w = .ok 2 w := by kernel_rfl
theorem zv76 (w : World) : (zeroValue 76).run Try.prog w = .ok (.agg #[Value.nilFunc, Value.nilFunc]) w := by kernel_rfl
/-- one step more, or less -/
def stM (s : ByteArray) (a n : Int) : Int := if (getV s (a + 1) 1).1 = 0 then n + 1 else n - 1
/-- the length that comes next, the place behind it, what is wrong -/
def stp (s : ByteArray) : Nat → Int → Int → Int × Int × Int
  | 0, _, _ => (0, 0, 2)
  | f + 1, a, n => if (getV s a 1).2 ≠ 0 then (0, 0, (getV s a 1).2) else if (getV s a 1).1 = 0 then (n, a + 1, 0) else if (getV s (a + 1) 1).2 ≠ 0 then (0, 0, (getV s (a + 1) 1).2) else if ¬ Da.good (stM s a n) then (0, 0, 3) else stp s f (a + 2) (stM s a n)
def lnV (s : ByteArray) (a n : Int) : Int × Int × Int := stp s (8 * (s.size : Int) + 2 - a).toNat a n
theorem gvO {s : ByteArray} {a : Int} (h : 0 ≤ a) (h2 : ¬ a + 1 ≤ 8 * s.size) : getV s a 1 = (0, 2) := by
  unfold getV
  rw [if_neg (by simp; omega), if_neg h2]
theorem stp_fuel (s : ByteArray) : ∀ (f g : Nat) (a n : Int), 0 ≤ a → 8 * (s.size : Int) + 2 - a ≤ f → 8 * (s.size : Int) + 2 - a ≤ g → 1 ≤ f → 1 ≤ g → stp s f a n = stp s g a n
  | 0, _, _, _, _, _, _, h, _ => by omega
  | _, 0, _, _, _, _, _, _, h => by omega
  | f + 1, g + 1, a, n, ha, h1, h2, _, _ => by
    rw [stp, stp]
    by_cases c1 : (getV s a 1).2 ≠ 0
    · rw [if_pos c1, if_pos c1]
    rw [if_neg c1, if_neg c1]
    by_cases c2 : (getV s a 1).1 = 0
    · rw [if_pos c2, if_pos c2]
    rw [if_neg c2, if_neg c2]
    by_cases c3 : (getV s (a + 1) 1).2 ≠ 0
    · rw [if_pos c3, if_pos c3]
    rw [if_neg c3, if_neg c3]
    by_cases c4 : Da.good (stM s a n)
    · have h5 := gvE s (a + 1) 1 (by simpa using c3)
      rw [if_neg (by simpa using c4), if_neg (by simpa using c4)]
      exact stp_fuel s f g (a + 2) _ (by omega) (by omega) (by omega) (by omega) (by omega)
    · rw [if_pos c4, if_pos c4]
theorem ln_1 {s : ByteArray} {a n : Int} (ha : 0 ≤ a) (h : (getV s a 1).2 ≠ 0) : lnV s a n = (0, 0, (getV s a 1).2) := by
  unfold lnV
  cases e : (8 * (s.size : Int) + 2 - a).toNat with
  | zero =>
    have : (getV s a 1) = (0, 2) := gvO ha (by omega)
    rw [stp, this]
  | succ f => rw [stp, if_pos h]
theorem ln_pos {s : ByteArray} {a : Int} (h : (getV s a 1).2 = 0) : 0 ≤ a ∧ ∃ f : Nat, (8 * (s.size : Int) + 2 - a).toNat = f + 1 := by
  have h5 := gvE s a 1 h
  exact ⟨h5.1, ⟨(8 * (s.size : Int) + 2 - a).toNat - 1, by omega⟩⟩
theorem ln_2 {s : ByteArray} {a n : Int} (h : (getV s a 1).2 = 0) (h2 : (getV s a 1).1 = 0) : lnV s a n = (n, a + 1, 0) := by
  obtain ⟨_, f, hf⟩ := ln_pos h
  unfold lnV
  rw [hf, stp, if_neg (by simpa using h), if_pos h2]
theorem ln_3 {s : ByteArray} {a n : Int} (h : (getV s a 1).2 = 0) (h2 : ¬ (getV s a 1).1 = 0) (h3 : (getV s (a + 1) 1).2 ≠ 0) : lnV s a n = (0, 0, (getV s (a + 1) 1).2) := by
  obtain ⟨_, f, hf⟩ := ln_pos h
  unfold lnV
  rw [hf, stp, if_neg (by simpa using h), if_neg h2, if_pos h3]
theorem ln_4 {s : ByteArray} {a n : Int} (h : (getV s a 1).2 = 0) (h2 : ¬ (getV s a 1).1 = 0) (h3 : (getV s (a + 1) 1).2 = 0) (h4 : ¬ Da.good (stM s a n)) : lnV s a n = (0, 0, 3) := by
  obtain ⟨_, f, hf⟩ := ln_pos h
  unfold lnV
  rw [hf, stp, if_neg (by simpa using h), if_neg h2, if_neg (by simpa using h3), if_pos h4]
theorem ln_5 {s : ByteArray} {a n : Int} (h : (getV s a 1).2 = 0) (h2 : ¬ (getV s a 1).1 = 0) (h3 : (getV s (a + 1) 1).2 = 0) (h4 : Da.good (stM s a n)) : lnV s a n = lnV s (a + 2) (stM s a n) := by
  obtain ⟨ha, f, hf⟩ := ln_pos h
  have h5 := gvE s (a + 1) 1 h3
  unfold lnV
  rw [hf, stp, if_neg (by simpa using h), if_neg h2, if_neg (by simpa using h3), if_neg (by simpa using h4)]
  exact stp_fuel s _ _ (a + 2) _ (by omega) (by omega) (by omega) (by omega) (by omega)
theorem ln_ok {s : ByteArray} {a n : Int} (ha : 0 ≤ a) (h : (lnV s a n).2.2 = 0) : (getV s a 1).2 = 0 ∧ ((getV s a 1).1 ≠ 0 → (getV s (a + 1) 1).2 = 0 ∧ Da.good (stM s a n)) := by
  by_cases h1 : (getV s a 1).2 = 0
  · refine ⟨h1, fun h2 => ?_⟩
    by_cases h3 : (getV s (a + 1) 1).2 = 0
    · refine ⟨h3, Classical.byContradiction fun h4 => ?_⟩
      rw [ln_4 h1 h2 h3 h4] at h; simp at h
    · rw [ln_3 h1 h2 h3] at h; exact absurd h h3
  · rw [ln_1 ha h1] at h; exact absurd h h1
theorem st_0 {s : ByteArray} {a n : Int} (h : (getV s (a + 1) 1).1 = 0) : stM s a n = n + 1 := by rw [stM, if_pos h]
theorem st_1 {s : ByteArray} {a n : Int} (h : (getV s (a + 1) 1).1 = 1) : stM s a n = n - 1 := by rw [stM, if_neg (by omega)]

set_option maxRecDepth 100000 in
set_option maxHeartbeats 1000000 in
theorem more_s (s : ByteArray) (a l : Int) (hl : Da.good l) (h : Da.good (l + 1)) :
    FMem Try.prog 43 [Ptr 1 0] [(1, .var 58 [Is (.string s), Is (.int .i64 a), Is (.int .i64 l)])] (Is (.tuple #[])) [(1, .var 58 [Is (.string s), Is (.int .i64 a), Is (.int .i64 (l + 1))])] := by
  refine FMem.of Try.func43 Try.ntmps43 rfl (by kernel_rfl) rfl rfl rfl ?_
  have hlb : 1 ≤ l ∧ l ≤ 20 := hl
  refine W_regionE (c := 1) (c' := 8) (by kernel_rfl) rfl ?_
  refine Runs_p rfl (Valid.movek (A := Ptr 1 0) rfl rfl) rfl rfl ?_ -- delta.go:83 move
  refine Runs_p rfl (Valid.movek (A := Ptr 1 0) rfl rfl) rfl rfl ?_ -- delta.go:83 move
  refine Runs_p rfl (Valid.nilcheck rfl rfl) rfl rfl ?_ -- delta.go:83 nilCheck
  refine Runs_p rfl (Valid.fieldaddr (off' := 2) rfl rfl (fun _ _ => by kernel_rfl)) rfl rfl ?_ -- delta.go:83 fieldAddr
  refine Runs_p rfl (Valid.load _ rfl ag3 rfl rfl rfl) rfl rfl ?_ -- delta.go:83 load
  refine Runs_p rfl (Valid.add rfl rfl rfl (room64 (by first | omega | (simp only [Int.toNat_natCast, toNat_add, toNat_add1, List.length_append, List.length_cons, List.length_nil, List.length_replicate]; omega)) (by first | omega | (simp only [Int.toNat_natCast, toNat_add, toNat_add1, List.length_append, List.length_cons, List.length_nil, List.length_replicate]; omega)))) rfl rfl ?_ -- delta.go:83 binOp
  refine Runs_w rfl (Valid.callm [(1, 1)] rfl (.inl ⟨rfl, rfl⟩) (become_s s _ _ _ (by assumption)) ⟨(leq_ptr rfl rfl rfl), (leq_is rfl rfl rfl), trivial⟩ ⟨⟨_, rfl, .var ⟨(leq_is rfl rfl rfl), (leq_is rfl rfl rfl), (leq_is rfl rfl rfl), trivial⟩⟩, trivial⟩ (up_pure rfl) (hpup_cons (j := 1) rfl (cup_var (allup_cons (up_pure rfl) (allup_cons (up_pure rfl) (allup_cons (up_pure rfl) allup_nil)))) hpup_nil) (by kernel_rfl) (by kernel_rfl) (by kernel_rfl) (by kernel_rfl) (by kernel_rfl) (by kernel_rfl) (by kernel_rfl) (by kernel_rfl) (by kernel_rfl)) rfl rfl ?_ -- delta.go:83 call
  refine Runs_nil ?_
  refine finMQ_n ?_
  exact FinM.of [] (ResOk.none rfl (fun _ _ => rfl)) rfl ⟨hp_var rfl ⟨(leq_is rfl rfl (by first | rfl | (simp; done) | omega | (simp [toNat_add, toNat_add1, Nat.add_assoc]; done) | (simp [toNat_add, toNat_add1]; omega))), (leq_is rfl rfl (by first | rfl | (simp; done) | omega | (simp [toNat_add, toNat_add1, Nat.add_assoc]; done) | (simp [toNat_add, toNat_add1]; omega))), (leq_is rfl rfl (by first | rfl | (simp; done) | omega | (simp [toNat_add, toNat_add1, Nat.add_assoc]; done) | (simp [toNat_add, toNat_add1]; omega))), trivial⟩, trivial⟩ rfl rfl

set_option maxRecDepth 100000 in
set_option maxHeartbeats 1000000 in
theorem more_u (s : ByteArray) (a l : Int) (hl : Da.good l) (h : ¬ Da.good (l + 1)) :
    FUp Try.prog 43 [Ptr 1 0] [(1, .var 58 [Is (.string s), Is (.int .i64 a), Is (.int .i64 l)])] (Dd.up 3) := by
  refine FUp.of Try.func43 Try.ntmps43 rfl (by kernel_rfl) rfl rfl rfl ?_
  · skip
    have hlb : 1 ≤ l ∧ l ≤ 20 := hl
    refine W_up 6 (by kernel_rfl) rfl rfl (c' := 8) rfl ?_
    refine Runs_p rfl (Valid.movek (A := Ptr 1 0) rfl rfl) rfl rfl ?_ -- delta.go:83 move
    refine Runs_p rfl (Valid.movek (A := Ptr 1 0) rfl rfl) rfl rfl ?_ -- delta.go:83 move
    refine Runs_p rfl (Valid.nilcheck rfl rfl) rfl rfl ?_ -- delta.go:83 nilCheck
    refine Runs_p rfl (Valid.fieldaddr (off' := 2) rfl rfl (fun _ _ => by kernel_rfl)) rfl rfl ?_ -- delta.go:83 fieldAddr
    refine Runs_p rfl (Valid.load _ rfl ag3 rfl rfl rfl) rfl rfl ?_ -- delta.go:83 load
    refine Runs_p rfl (Valid.add rfl rfl rfl (room64 (by first | omega | (simp only [Int.toNat_natCast, toNat_add, toNat_add1, List.length_append, List.length_cons, List.length_nil, List.length_replicate]; omega)) (by first | omega | (simp only [Int.toNat_natCast, toNat_add, toNat_add1, List.length_append, List.length_cons, List.length_nil, List.length_replicate]; omega)))) rfl rfl ?_ -- delta.go:83 binOp
    refine Runs_nil ?_
    refine ⟨_, _, VUp.callm [(1, 1)] rfl (.inl ⟨rfl, rfl⟩) (become_u s _ _ _ h) ⟨(leq_ptr rfl rfl rfl), (leq_is rfl rfl rfl), trivial⟩ ⟨⟨_, rfl, .var ⟨(leq_is rfl rfl rfl), (leq_is rfl rfl rfl), (leq_is rfl rfl rfl), trivial⟩⟩, trivial⟩ (by kernel_rfl) (by kernel_rfl) (by kernel_rfl), by kernel_rfl, ?_⟩
    show _ = _
    rfl

set_option maxRecDepth 100000 in
set_option maxHeartbeats 1000000 in
theorem less_s (s : ByteArray) (a l : Int) (hl : Da.good l) (h : Da.good (l - 1)) :
    FMem Try.prog 44 [Ptr 1 0] [(1, .var 58 [Is (.string s), Is (.int .i64 a), Is (.int .i64 l)])] (Is (.tuple #[])) [(1, .var 58 [Is (.string s), Is (.int .i64 a), Is (.int .i64 (l - 1))])] := by
  refine FMem.of Try.func44 Try.ntmps44 rfl (by kernel_rfl) rfl rfl rfl ?_
  have hlb : 1 ≤ l ∧ l ≤ 20 := hl
  refine W_regionE (c := 1) (c' := 8) (by kernel_rfl) rfl ?_
  refine Runs_p rfl (Valid.movek (A := Ptr 1 0) rfl rfl) rfl rfl ?_ -- delta.go:85 move
  refine Runs_p rfl (Valid.movek (A := Ptr 1 0) rfl rfl) rfl rfl ?_ -- delta.go:85 move
  refine Runs_p rfl (Valid.nilcheck rfl rfl) rfl rfl ?_ -- delta.go:85 nilCheck
  refine Runs_p rfl (Valid.fieldaddr (off' := 2) rfl rfl (fun _ _ => by kernel_rfl)) rfl rfl ?_ -- delta.go:85 fieldAddr
  refine Runs_p rfl (Valid.load _ rfl ag3 rfl rfl rfl) rfl rfl ?_ -- delta.go:85 load
  refine Runs_p rfl (Valid.sub rfl rfl rfl (room64 (by first | omega | (simp only [Int.toNat_natCast, toNat_add, toNat_add1, List.length_append, List.length_cons, List.length_nil, List.length_replicate]; omega)) (by first | omega | (simp only [Int.toNat_natCast, toNat_add, toNat_add1, List.length_append, List.length_cons, List.length_nil, List.length_replicate]; omega)))) rfl rfl ?_ -- delta.go:85 binOp
  refine Runs_w rfl (Valid.callm [(1, 1)] rfl (.inl ⟨rfl, rfl⟩) (become_s s _ _ _ (by assumption)) ⟨(leq_ptr rfl rfl rfl), (leq_is rfl rfl rfl), trivial⟩ ⟨⟨_, rfl, .var ⟨(leq_is rfl rfl rfl), (leq_is rfl rfl rfl), (leq_is rfl rfl rfl), trivial⟩⟩, trivial⟩ (up_pure rfl) (hpup_cons (j := 1) rfl (cup_var (allup_cons (up_pure rfl) (allup_cons (up_pure rfl) (allup_cons (up_pure rfl) allup_nil)))) hpup_nil) (by kernel_rfl) (by kernel_rfl) (by kernel_rfl) (by kernel_rfl) (by kernel_rfl) (by kernel_rfl) (by kernel_rfl) (by kernel_rfl) (by kernel_rfl)) rfl rfl ?_ -- delta.go:85 call
  refine Runs_nil ?_
  refine finMQ_n ?_
  exact FinM.of [] (ResOk.none rfl (fun _ _ => rfl)) rfl ⟨hp_var rfl ⟨(leq_is rfl rfl (by first | rfl | (simp; done) | omega | (simp [toNat_add, toNat_add1, Nat.add_assoc]; done) | (simp [toNat_add, toNat_add1]; omega))), (leq_is rfl rfl (by first | rfl | (simp; done) | omega | (simp [toNat_add, toNat_add1, Nat.add_assoc]; done) | (simp [toNat_add, toNat_add1]; omega))), (leq_is rfl rfl (by first | rfl | (simp; done) | omega | (simp [toNat_add, toNat_add1, Nat.add_assoc]; done) | (simp [toNat_add, toNat_add1]; omega))), trivial⟩, trivial⟩ rfl rfl

set_option maxRecDepth 100000 in
set_option maxHeartbeats 1000000 in
theorem less_u (s : ByteArray) (a l : Int) (hl : Da.good l) (h : ¬ Da.good (l - 1)) :
    FUp Try.prog 44 [Ptr 1 0] [(1, .var 58 [Is (.string s), Is (.int .i64 a), Is (.int .i64 l)])] (Dd.up 3) := by
  refine FUp.of Try.func44 Try.ntmps44 rfl (by kernel_rfl) rfl rfl rfl ?_
  · skip
    have hlb : 1 ≤ l ∧ l ≤ 20 := hl
    refine W_up 6 (by kernel_rfl) rfl rfl (c' := 8) rfl ?_
    refine Runs_p rfl (Valid.movek (A := Ptr 1 0) rfl rfl) rfl rfl ?_ -- delta.go:85 move
    refine Runs_p rfl (Valid.movek (A := Ptr 1 0) rfl rfl) rfl rfl ?_ -- delta.go:85 move
    refine Runs_p rfl (Valid.nilcheck rfl rfl) rfl rfl ?_ -- delta.go:85 nilCheck
    refine Runs_p rfl (Valid.fieldaddr (off' := 2) rfl rfl (fun _ _ => by kernel_rfl)) rfl rfl ?_ -- delta.go:85 fieldAddr
    refine Runs_p rfl (Valid.load _ rfl ag3 rfl rfl rfl) rfl rfl ?_ -- delta.go:85 load
    refine Runs_p rfl (Valid.sub rfl rfl rfl (room64 (by first | omega | (simp only [Int.toNat_natCast, toNat_add, toNat_add1, List.length_append, List.length_cons, List.length_nil, List.length_replicate]; omega)) (by first | omega | (simp only [Int.toNat_natCast, toNat_add, toNat_add1, List.length_append, List.length_cons, List.length_nil, List.length_replicate]; omega)))) rfl rfl ?_ -- delta.go:85 binOp
    refine Runs_nil ?_
    refine ⟨_, _, VUp.callm [(1, 1)] rfl (.inl ⟨rfl, rfl⟩) (become_u s _ _ _ h) ⟨(leq_ptr rfl rfl rfl), (leq_is rfl rfl rfl), trivial⟩ ⟨⟨_, rfl, .var ⟨(leq_is rfl rfl rfl), (leq_is rfl rfl rfl), (leq_is rfl rfl rfl), trivial⟩⟩, trivial⟩ (by kernel_rfl) (by kernel_rfl) (by kernel_rfl), by kernel_rfl, ?_⟩
    show _ = _
    rfl

set_option maxRecDepth 100000 in
set_option maxHeartbeats 1000000 in
theorem settle_s (s : ByteArray) (hs : s.size ≤ 100000000000) (a0 l0 : Int) (ha0 : 0 ≤ a0 ∧ a0 ≤ 1000000000000) (hl0 : Da.good l0) (h : (lnV s a0 l0).2.2 = 0) :
    FMem Try.prog 29 [Ptr 1 0] [(1, .var 58 [Is (.string s), Is (.int .i64 a0), Is (.int .i64 l0)])] (Is (.int .i64 (lnV s a0 l0).1)) [(1, .var 58 [Is (.string s), Is (.int .i64 (lnV s a0 l0).2.1), Is (.int .i64 (lnV s a0 l0).1)])] := by
  refine FMem.of Try.func29 Try.ntmps29 rfl (by kernel_rfl) rfl rfl rfl ?_
  refine W_seq ?_
  refine W_regionE (c := 1) (c' := 2) (by kernel_rfl) rfl ?_
  refine Runs_p rfl (Valid.assignk (A := Is _) rfl rfl) rfl rfl ?_ -- delta.go:88 assign
  refine Runs_nil ?_
  refine thenQ_n ?_
  refine W_seq ?_
  refine W_regionE (c := 2) (c' := 5) (by kernel_rfl) rfl ?_
  refine Runs_p rfl (Valid.struct [_, _] rfl rfl (fun _ => by kernel_rfl)) rfl rfl ?_ -- delta.go:89 build
  refine Runs_w rfl (Valid.alloc [Value.nilFunc, Value.nilFunc] rfl zv76 rfl) rfl rfl ?_ -- delta.go:89 alloc
  refine Runs_op rfl (Valid.storeagg (l := [_, _]) rfl sz76 rfl rfl (Nat.le_of_ble_eq_true rfl) rfl ⟨(One.is rfl rfl rfl), (One.is rfl rfl rfl), trivial⟩) rfl ?_ -- delta.go:89 store
  refine Runs_nil ?_
  refine thenQ_n ?_
  refine W_seq ?_
  refine W_block ?_
  refine W_loopx (G := Int × Int) (fun (g_ : Int × Int) => match g_ with | ⟨a, l⟩ => 0 ≤ a ∧ a ≤ 1000000000000 ∧ Da.good l ∧ lnV s a l = lnV s a0 l0) [(0, Ptr 1 0), (3, Ptr 24 0)] (fun (g_ : Int × Int) => match g_ with | ⟨a, l⟩ => []) [(24, .var 76 [Is _, Is _])] (fun (g_ : Int × Int) => match g_ with | ⟨a, l⟩ => [(1, .var 58 [Is (.string s), Is (.int .i64 a), Is (.int .i64 l)])]) 5 (fun (g_ : Int × Int) => match g_ with | ⟨a, l⟩ => (8 * (s.size : Int) + 2 - a).toNat) (⟨a0, l0⟩) [] (⟨ha0.1, ha0.2, hl0, rfl⟩) ⟨trivial, ⟨(leq_ptr rfl rfl rfl), (leq_ptr rfl rfl rfl), trivial⟩, ⟨hp_var rfl ⟨(leq_is rfl rfl (by first | rfl | (rw [hst]; done) | (rw [hst]; rfl) | (refine congrArg (Value.int .i64) ?_; omega))), (leq_is rfl rfl (by first | rfl | (rw [hst]; done) | (rw [hst]; rfl) | (refine congrArg (Value.int .i64) ?_; omega))), (leq_is rfl rfl (by first | rfl | (rw [hst]; done) | (rw [hst]; rfl) | (refine congrArg (Value.int .i64) ?_; omega))), trivial⟩, trivial⟩, ⟨hp_var rfl ⟨(leq_is rfl rfl rfl), (leq_is rfl rfl rfl), trivial⟩, trivial⟩, rfl, trivial, ⟨supg rfl, supg rfl, trivial⟩, ⟨suph rfl rfl, trivial⟩, ⟨suph rfl rfl, trivial⟩, rfl, rfl⟩ ?_
  intro ⟨a, l⟩ hI1
  obtain ⟨hi1, hi2, hi3, hi4⟩ := hI1
  refine W_seq ?_
  refine W_seq ?_
  obtain ⟨ho1, ho2⟩ := ln_ok hi1 (by rw [hi4]; exact h)
  refine W_regionE (c := 5) (c' := 8) (by kernel_rfl) rfl ?_
  refine Runs_p rfl (Valid.movek (A := Ptr 1 0) rfl rfl) rfl rfl ?_ -- delta.go:90 move
  refine Runs_w rfl (Valid.callm [(1, 1)] rfl (.inl ⟨rfl, rfl⟩) (number_s s (by omega) _ _ (by omega) _ (by omega) (getV s a 1).1 (by assumption) rfl) ⟨(leq_ptr rfl rfl rfl), (leq_is rfl rfl rfl), trivial⟩ ⟨⟨_, rfl, .var ⟨(leq_is rfl rfl rfl), (leq_is rfl rfl rfl), (leq_is rfl rfl rfl), trivial⟩⟩, trivial⟩ (up_pure rfl) (hpup_cons (j := 1) rfl (cup_var (allup_cons (up_pure rfl) (allup_cons (up_pure rfl) (allup_cons (up_pure rfl) allup_nil)))) hpup_nil) (by kernel_rfl) (by kernel_rfl) (by kernel_rfl) (by kernel_rfl) (by kernel_rfl) (by kernel_rfl) (by kernel_rfl) (by kernel_rfl) (by kernel_rfl)) rfl rfl ?_ -- delta.go:90 call
  refine Runs_p rfl (Valid.eql rfl rfl rfl) rfl rfl ?_ -- delta.go:90 binOp
  refine Runs_nil ?_
  refine thenQ_n ?_
  refine W_cond _ rfl (fun hb1 => ?_) (fun hb1 => ?_)
  · try simp only [decide_eq_true_eq] at hb1
    all_goals (
      refine W_skip ?_
      refine thenQ_n ?_
      refine W_block ?_
      have h21 : ¬ (getV s a 1).1 = 0 := by omega
      obtain ⟨ho3, ho4⟩ := ho2 h21
      have hge := gvE s (a + 1) 1 ho3
      rcases gv1 s (a + 1) with hv | hv
      · skip
        have hst := st_0 (n := l) hv
        rw [hst] at ho4
        refine W_regionE (c := 8) (c' := 14) (by kernel_rfl) rfl ?_
        refine Runs_p rfl (Valid.movek (A := Ptr 1 0) rfl rfl) rfl rfl ?_ -- delta.go:91 move
        refine Runs_w rfl (Valid.callm [(1, 1)] rfl (.inl ⟨rfl, rfl⟩) (number_s s (by omega) _ _ (by omega) _ (by omega) 0 (by assumption) (by assumption)) ⟨(leq_ptr rfl rfl rfl), (leq_is rfl rfl rfl), trivial⟩ ⟨⟨_, rfl, .var ⟨(leq_is rfl rfl rfl), (leq_is rfl rfl rfl), (leq_is rfl rfl rfl), trivial⟩⟩, trivial⟩ (up_pure rfl) (hpup_cons (j := 1) rfl (cup_var (allup_cons (up_pure rfl) (allup_cons (up_pure rfl) (allup_cons (up_pure rfl) allup_nil)))) hpup_nil) (by kernel_rfl) (by kernel_rfl) (by kernel_rfl) (by kernel_rfl) (by kernel_rfl) (by kernel_rfl) (by kernel_rfl) (by kernel_rfl) (by kernel_rfl)) rfl rfl ?_ -- delta.go:91 call
        refine Runs_p rfl (Valid.idxarr rfl Try.underlying76 sz75 rfl rfl (by decide)) rfl rfl ?_ -- delta.go:91 indexAddr
        refine Runs_p rfl (Valid.weak (Valid.load _ rfl ag75 rfl rfl rfl) (A' := FnV 43 [] []) (fun _ _ _ h => ⟨[], [], h, trivial, trivial⟩) rfl) rfl rfl ?_ -- delta.go:91 load
        refine Runs_p rfl (Valid.movek (A := Ptr 1 0) rfl rfl) rfl rfl ?_ -- delta.go:91 move
        refine Runs_w rfl (Valid.callm [(1, 1)] rfl (.inr ⟨_, _, rfl, rfl⟩) (more_s s _ _ (by assumption) (by assumption)) ⟨(leq_ptr rfl rfl rfl), trivial⟩ ⟨⟨_, rfl, .var ⟨(leq_is rfl rfl rfl), (leq_is rfl rfl rfl), (leq_is rfl rfl rfl), trivial⟩⟩, trivial⟩ (up_pure rfl) (hpup_cons (j := 1) rfl (cup_var (allup_cons (up_pure rfl) (allup_cons (up_pure rfl) (allup_cons (up_pure rfl) allup_nil)))) hpup_nil) (by kernel_rfl) (by kernel_rfl) (by kernel_rfl) (by kernel_rfl) (by kernel_rfl) (by kernel_rfl) (by kernel_rfl) (by kernel_rfl) (by kernel_rfl)) rfl rfl ?_ -- delta.go:91 call
        refine Runs_nil ?_
        refine blockQ_n ?_
        refine LoopQ.next (⟨a + 2, stM s a l⟩) [] (⟨by omega, by omega, by rw [hst]; exact ho4, by rw [← hi4, ln_5 ho1 h21 ho3 (by rw [hst]; exact ho4)]⟩) (by dsimp only; omega) ⟨trivial, ⟨(leq_ptr rfl rfl rfl), (leq_ptr rfl rfl rfl), trivial⟩, ⟨hp_var rfl ⟨(leq_is rfl rfl (by first | rfl | (rw [hst]; done) | (rw [hst]; rfl) | (refine congrArg (Value.int .i64) ?_; omega))), (leq_is rfl rfl (by first | rfl | (rw [hst]; done) | (rw [hst]; rfl) | (refine congrArg (Value.int .i64) ?_; omega))), (leq_is rfl rfl (by first | rfl | (rw [hst]; done) | (rw [hst]; rfl) | (refine congrArg (Value.int .i64) ?_; omega))), trivial⟩, trivial⟩, ⟨hp_var rfl ⟨(leq_is rfl rfl rfl), (leq_is rfl rfl rfl), trivial⟩, trivial⟩, rfl, trivial, ⟨supg rfl, supg rfl, trivial⟩, ⟨suph rfl rfl, trivial⟩, ⟨suph rfl rfl, trivial⟩, rfl, rfl⟩
      · skip
        have hst := st_1 (n := l) hv
        rw [hst] at ho4
        refine W_regionE (c := 8) (c' := 14) (by kernel_rfl) rfl ?_
        refine Runs_p rfl (Valid.movek (A := Ptr 1 0) rfl rfl) rfl rfl ?_ -- delta.go:91 move
        refine Runs_w rfl (Valid.callm [(1, 1)] rfl (.inl ⟨rfl, rfl⟩) (number_s s (by omega) _ _ (by omega) _ (by omega) 1 (by assumption) (by assumption)) ⟨(leq_ptr rfl rfl rfl), (leq_is rfl rfl rfl), trivial⟩ ⟨⟨_, rfl, .var ⟨(leq_is rfl rfl rfl), (leq_is rfl rfl rfl), (leq_is rfl rfl rfl), trivial⟩⟩, trivial⟩ (up_pure rfl) (hpup_cons (j := 1) rfl (cup_var (allup_cons (up_pure rfl) (allup_cons (up_pure rfl) (allup_cons (up_pure rfl) allup_nil)))) hpup_nil) (by kernel_rfl) (by kernel_rfl) (by kernel_rfl) (by kernel_rfl) (by kernel_rfl) (by kernel_rfl) (by kernel_rfl) (by kernel_rfl) (by kernel_rfl)) rfl rfl ?_ -- delta.go:91 call
        refine Runs_p rfl (Valid.idxarr rfl Try.underlying76 sz75 rfl rfl (by decide)) rfl rfl ?_ -- delta.go:91 indexAddr
        refine Runs_p rfl (Valid.weak (Valid.load _ rfl ag75 rfl rfl rfl) (A' := FnV 44 [] []) (fun _ _ _ h => ⟨[], [], h, trivial, trivial⟩) rfl) rfl rfl ?_ -- delta.go:91 load
        refine Runs_p rfl (Valid.movek (A := Ptr 1 0) rfl rfl) rfl rfl ?_ -- delta.go:91 move
        refine Runs_w rfl (Valid.callm [(1, 1)] rfl (.inr ⟨_, _, rfl, rfl⟩) (less_s s _ _ (by assumption) (by assumption)) ⟨(leq_ptr rfl rfl rfl), trivial⟩ ⟨⟨_, rfl, .var ⟨(leq_is rfl rfl rfl), (leq_is rfl rfl rfl), (leq_is rfl rfl rfl), trivial⟩⟩, trivial⟩ (up_pure rfl) (hpup_cons (j := 1) rfl (cup_var (allup_cons (up_pure rfl) (allup_cons (up_pure rfl) (allup_cons (up_pure rfl) allup_nil)))) hpup_nil) (by kernel_rfl) (by kernel_rfl) (by kernel_rfl) (by kernel_rfl) (by kernel_rfl) (by kernel_rfl) (by kernel_rfl) (by kernel_rfl) (by kernel_rfl)) rfl rfl ?_ -- delta.go:91 call
        refine Runs_nil ?_
        refine blockQ_n ?_
        refine LoopQ.next (⟨a + 2, stM s a l⟩) [] (⟨by omega, by omega, by rw [hst]; exact ho4, by rw [← hi4, ln_5 ho1 h21 ho3 (by rw [hst]; exact ho4)]⟩) (by dsimp only; omega) ⟨trivial, ⟨(leq_ptr rfl rfl rfl), (leq_ptr rfl rfl rfl), trivial⟩, ⟨hp_var rfl ⟨(leq_is rfl rfl (by first | rfl | (rw [hst]; done) | (rw [hst]; rfl) | (refine congrArg (Value.int .i64) ?_; omega))), (leq_is rfl rfl (by first | rfl | (rw [hst]; done) | (rw [hst]; rfl) | (refine congrArg (Value.int .i64) ?_; omega))), (leq_is rfl rfl (by first | rfl | (rw [hst]; done) | (rw [hst]; rfl) | (refine congrArg (Value.int .i64) ?_; omega))), trivial⟩, trivial⟩, ⟨hp_var rfl ⟨(leq_is rfl rfl rfl), (leq_is rfl rfl rfl), trivial⟩, trivial⟩, rfl, trivial, ⟨supg rfl, supg rfl, trivial⟩, ⟨suph rfl rfl, trivial⟩, ⟨suph rfl rfl, trivial⟩, rfl, rfl⟩
      done)
  · try simp only [decide_eq_false_iff_not] at hb1
    all_goals (
      refine W_exit ?_
      refine thenQ_e ?_
      refine loopQ_e ?_
      refine blockQ_x ?_
      refine thenQ_n ?_
      refine W_seq ?_
      have h20 : (getV s a 1).1 = 0 := by have := gv1 s a; omega
      have hln := ln_2 (n := l) ho1 h20
      rw [hi4] at hln
      refine W_regionE (c := 8) (c' := 13) (by kernel_rfl) rfl ?_
      refine Runs_p rfl (Valid.movek (A := Ptr 1 0) rfl rfl) rfl rfl ?_ -- delta.go:93 move
      refine Runs_p rfl (Valid.nilcheck rfl rfl) rfl rfl ?_ -- delta.go:93 nilCheck
      refine Runs_p rfl (Valid.fieldaddr (off' := 2) rfl rfl (fun _ _ => by kernel_rfl)) rfl rfl ?_ -- delta.go:93 fieldAddr
      refine Runs_p rfl (Valid.load _ rfl ag3 rfl rfl rfl) rfl rfl ?_ -- delta.go:93 load
      refine Runs_p rfl (Valid.assignk (A := Is _) rfl rfl) rfl rfl ?_ -- delta.go:93 assign
      refine Runs_nil ?_
      refine thenQ_n ?_
      refine W_ret ?_
      refine finMQ_r ?_
      exact FinM.of [] (ResOk.one rfl (RVal.is rfl rfl (by rw [hln]))) rfl ⟨hp_var rfl ⟨(leq_is rfl rfl (by first | rfl | (rw [hln]; done) | (rw [hln]; rfl))), (leq_is rfl rfl (by first | rfl | (rw [hln]; done) | (rw [hln]; rfl))), (leq_is rfl rfl (by first | rfl | (rw [hln]; done) | (rw [hln]; rfl))), trivial⟩, trivial⟩ rfl rfl
      done)

theorem cases5 (s : ByteArray) (a l : Int) : (¬ (getV s (a + 1) 1).2 = 0) ∨ ((getV s (a + 1) 1).2 = 0 ∧ (getV s (a + 1) 1).1 = 0 ∧ ¬ Da.good (l + 1)) ∨ ((getV s (a + 1) 1).2 = 0 ∧ (getV s (a + 1) 1).1 = 0 ∧ Da.good (l + 1)) ∨ ((getV s (a + 1) 1).2 = 0 ∧ (getV s (a + 1) 1).1 = 1 ∧ ¬ Da.good (l - 1)) ∨ ((getV s (a + 1) 1).2 = 0 ∧ (getV s (a + 1) 1).1 = 1 ∧ Da.good (l - 1)) := by
  by_cases h : (getV s (a + 1) 1).2 = 0
  · rcases gv1 s (a + 1) with hv | hv
    · by_cases hg : Da.good (l + 1)
      · exact .inr (.inr (.inl ⟨h, hv, hg⟩))
      · exact .inr (.inl ⟨h, hv, hg⟩)
    · by_cases hg : Da.good (l - 1)
      · exact .inr (.inr (.inr (.inr ⟨h, hv, hg⟩)))
      · exact .inr (.inr (.inr (.inl ⟨h, hv, hg⟩)))
  · exact .inl h

set_option maxRecDepth 100000 in
set_option maxHeartbeats 1000000 in
theorem settle_u (s : ByteArray) (hs : s.size ≤ 100000000000) (a0 l0 : Int) (ha0 : 0 ≤ a0 ∧ a0 ≤ 1000000000000) (hl0 : Da.good l0) (h : (lnV s a0 l0).2.2 ≠ 0) :
    FUp Try.prog 29 [Ptr 1 0] [(1, .var 58 [Is (.string s), Is (.int .i64 a0), Is (.int .i64 l0)])] (Dd.up (lnV s a0 l0).2.2) := by
  refine FUp.of Try.func29 Try.ntmps29 rfl (by kernel_rfl) rfl rfl rfl ?_
  refine W_seq ?_
  refine W_regionE (c := 1) (c' := 2) (by kernel_rfl) rfl ?_
  refine Runs_p rfl (Valid.assignk (A := Is _) rfl rfl) rfl rfl ?_ -- delta.go:88 assign
  refine Runs_nil ?_
  refine thenQ_n ?_
  refine W_seq ?_
  refine W_regionE (c := 2) (c' := 5) (by kernel_rfl) rfl ?_
  refine Runs_p rfl (Valid.struct [_, _] rfl rfl (fun _ => by kernel_rfl)) rfl rfl ?_ -- delta.go:89 build
  refine Runs_w rfl (Valid.alloc [Value.nilFunc, Value.nilFunc] rfl zv76 rfl) rfl rfl ?_ -- delta.go:89 alloc
  refine Runs_op rfl (Valid.storeagg (l := [_, _]) rfl sz76 rfl rfl (Nat.le_of_ble_eq_true rfl) rfl ⟨(One.is rfl rfl rfl), (One.is rfl rfl rfl), trivial⟩) rfl ?_ -- delta.go:89 store
  refine Runs_nil ?_
  refine thenQ_n ?_
  refine W_seq ?_
  refine W_block ?_
  refine W_loopx (G := Int × Int) (fun (g_ : Int × Int) => match g_ with | ⟨a, l⟩ => 0 ≤ a ∧ a ≤ 1000000000000 ∧ Da.good l ∧ lnV s a l = lnV s a0 l0) [(0, Ptr 1 0), (3, Ptr 24 0)] (fun (g_ : Int × Int) => match g_ with | ⟨a, l⟩ => []) [(24, .var 76 [Is _, Is _])] (fun (g_ : Int × Int) => match g_ with | ⟨a, l⟩ => [(1, .var 58 [Is (.string s), Is (.int .i64 a), Is (.int .i64 l)])]) 5 (fun (g_ : Int × Int) => match g_ with | ⟨a, l⟩ => (8 * (s.size : Int) + 2 - a).toNat) (⟨a0, l0⟩) [] (⟨ha0.1, ha0.2, hl0, rfl⟩) ⟨trivial, ⟨(leq_ptr rfl rfl rfl), (leq_ptr rfl rfl rfl), trivial⟩, ⟨hp_var rfl ⟨(leq_is rfl rfl (by first | rfl | (rw [hst]; done) | (rw [hst]; rfl) | (refine congrArg (Value.int .i64) ?_; omega))), (leq_is rfl rfl (by first | rfl | (rw [hst]; done) | (rw [hst]; rfl) | (refine congrArg (Value.int .i64) ?_; omega))), (leq_is rfl rfl (by first | rfl | (rw [hst]; done) | (rw [hst]; rfl) | (refine congrArg (Value.int .i64) ?_; omega))), trivial⟩, trivial⟩, ⟨hp_var rfl ⟨(leq_is rfl rfl rfl), (leq_is rfl rfl rfl), trivial⟩, trivial⟩, rfl, trivial, ⟨supg rfl, supg rfl, trivial⟩, ⟨suph rfl rfl, trivial⟩, ⟨suph rfl rfl, trivial⟩, rfl, rfl⟩ ?_
  intro ⟨a, l⟩ hI1
  obtain ⟨hi1, hi2, hi3, hi4⟩ := hI1
  refine W_seq ?_
  refine W_seq ?_
  by_cases ho1 : (getV s a 1).2 = 0
  · skip
    refine W_regionE (c := 5) (c' := 8) (by kernel_rfl) rfl ?_
    refine Runs_p rfl (Valid.movek (A := Ptr 1 0) rfl rfl) rfl rfl ?_ -- delta.go:90 move
    refine Runs_w rfl (Valid.callm [(1, 1)] rfl (.inl ⟨rfl, rfl⟩) (number_s s (by omega) _ _ (by omega) _ (by omega) (getV s a 1).1 ho1 rfl) ⟨(leq_ptr rfl rfl rfl), (leq_is rfl rfl rfl), trivial⟩ ⟨⟨_, rfl, .var ⟨(leq_is rfl rfl rfl), (leq_is rfl rfl rfl), (leq_is rfl rfl rfl), trivial⟩⟩, trivial⟩ (up_pure rfl) (hpup_cons (j := 1) rfl (cup_var (allup_cons (up_pure rfl) (allup_cons (up_pure rfl) (allup_cons (up_pure rfl) allup_nil)))) hpup_nil) (by kernel_rfl) (by kernel_rfl) (by kernel_rfl) (by kernel_rfl) (by kernel_rfl) (by kernel_rfl) (by kernel_rfl) (by kernel_rfl) (by kernel_rfl)) rfl rfl ?_ -- delta.go:90 call
    refine Runs_p rfl (Valid.eql rfl rfl rfl) rfl rfl ?_ -- delta.go:90 binOp
    refine Runs_nil ?_
    refine thenQ_n ?_
    refine W_cond _ rfl (fun hb1 => ?_) (fun hb1 => ?_)
    · try simp only [decide_eq_true_eq] at hb1
      all_goals (
        refine W_skip ?_
        refine thenQ_n ?_
        refine W_block ?_
        have h21 : ¬ (getV s a 1).1 = 0 := by omega
        have hge0 := gvE s a 1 ho1
        rcases cases5 s a l with ho3 | ⟨ho3, hv, hg⟩ | ⟨ho3, hv, hg⟩ | ⟨ho3, hv, hg⟩ | ⟨ho3, hv, hg⟩
        · skip
          have hln := ln_3 (n := l) ho1 h21 ho3
          rw [hi4] at hln
          refine W_up 1 (by kernel_rfl) rfl rfl (c' := 10) rfl ?_
          refine Runs_p rfl (Valid.movek (A := Ptr 1 0) rfl rfl) rfl rfl ?_ -- delta.go:91 move
          refine Runs_nil ?_
          refine ⟨_, _, VUp.callm [(1, 1)] rfl (.inl ⟨rfl, rfl⟩) (number_u s hs (a + 1) l (by omega) 1 (by omega) _ ho3 rfl) ⟨(leq_ptr rfl rfl rfl), (leq_is rfl rfl rfl), trivial⟩ ⟨⟨_, rfl, .var ⟨(leq_is rfl rfl rfl), (leq_is rfl rfl rfl), (leq_is rfl rfl rfl), trivial⟩⟩, trivial⟩ (by kernel_rfl) (by kernel_rfl) (by kernel_rfl), by kernel_rfl, ?_⟩
          refine blockQ_p ?_
          refine loopQ_p ?_
          refine blockQ_p ?_
          refine thenQ_p ?_
          show _ = _
          rw [hln]
        · skip
          have hge := gvE s (a + 1) 1 ho3
          have hln := ln_4 (n := l) ho1 h21 ho3 (by rw [st_0 hv]; exact hg)
          rw [hi4] at hln
          refine W_up 5 (by kernel_rfl) rfl rfl (c' := 14) rfl ?_
          refine Runs_p rfl (Valid.movek (A := Ptr 1 0) rfl rfl) rfl rfl ?_ -- delta.go:91 move
          refine Runs_w rfl (Valid.callm [(1, 1)] rfl (.inl ⟨rfl, rfl⟩) (number_s s (by omega) _ _ (by omega) _ (by omega) 0 (by assumption) (by assumption)) ⟨(leq_ptr rfl rfl rfl), (leq_is rfl rfl rfl), trivial⟩ ⟨⟨_, rfl, .var ⟨(leq_is rfl rfl rfl), (leq_is rfl rfl rfl), (leq_is rfl rfl rfl), trivial⟩⟩, trivial⟩ (up_pure rfl) (hpup_cons (j := 1) rfl (cup_var (allup_cons (up_pure rfl) (allup_cons (up_pure rfl) (allup_cons (up_pure rfl) allup_nil)))) hpup_nil) (by kernel_rfl) (by kernel_rfl) (by kernel_rfl) (by kernel_rfl) (by kernel_rfl) (by kernel_rfl) (by kernel_rfl) (by kernel_rfl) (by kernel_rfl)) rfl rfl ?_ -- delta.go:91 call
          refine Runs_p rfl (Valid.idxarr rfl Try.underlying76 sz75 rfl rfl (by decide)) rfl rfl ?_ -- delta.go:91 indexAddr
          refine Runs_p rfl (Valid.weak (Valid.load _ rfl ag75 rfl rfl rfl) (A' := FnV 43 [] []) (fun _ _ _ h => ⟨[], [], h, trivial, trivial⟩) rfl) rfl rfl ?_ -- delta.go:91 load
          refine Runs_p rfl (Valid.movek (A := Ptr 1 0) rfl rfl) rfl rfl ?_ -- delta.go:91 move
          refine Runs_nil ?_
          refine ⟨_, _, VUp.callm [(1, 1)] rfl (.inr ⟨_, _, rfl, rfl⟩) (more_u s _ _ hi3 hg) ⟨(leq_ptr rfl rfl rfl), trivial⟩ ⟨⟨_, rfl, .var ⟨(leq_is rfl rfl rfl), (leq_is rfl rfl rfl), (leq_is rfl rfl rfl), trivial⟩⟩, trivial⟩ (by kernel_rfl) (by kernel_rfl) (by kernel_rfl), by kernel_rfl, ?_⟩
          refine blockQ_p ?_
          refine loopQ_p ?_
          refine blockQ_p ?_
          refine thenQ_p ?_
          show _ = _
          rw [hln]
        · skip
          have hge := gvE s (a + 1) 1 ho3
          have hst := st_0 (n := l) hv
          refine W_regionE (c := 8) (c' := 14) (by kernel_rfl) rfl ?_
          refine Runs_p rfl (Valid.movek (A := Ptr 1 0) rfl rfl) rfl rfl ?_ -- delta.go:91 move
          refine Runs_w rfl (Valid.callm [(1, 1)] rfl (.inl ⟨rfl, rfl⟩) (number_s s (by omega) _ _ (by omega) _ (by omega) 0 (by assumption) (by assumption)) ⟨(leq_ptr rfl rfl rfl), (leq_is rfl rfl rfl), trivial⟩ ⟨⟨_, rfl, .var ⟨(leq_is rfl rfl rfl), (leq_is rfl rfl rfl), (leq_is rfl rfl rfl), trivial⟩⟩, trivial⟩ (up_pure rfl) (hpup_cons (j := 1) rfl (cup_var (allup_cons (up_pure rfl) (allup_cons (up_pure rfl) (allup_cons (up_pure rfl) allup_nil)))) hpup_nil) (by kernel_rfl) (by kernel_rfl) (by kernel_rfl) (by kernel_rfl) (by kernel_rfl) (by kernel_rfl) (by kernel_rfl) (by kernel_rfl) (by kernel_rfl)) rfl rfl ?_ -- delta.go:91 call
          refine Runs_p rfl (Valid.idxarr rfl Try.underlying76 sz75 rfl rfl (by decide)) rfl rfl ?_ -- delta.go:91 indexAddr
          refine Runs_p rfl (Valid.weak (Valid.load _ rfl ag75 rfl rfl rfl) (A' := FnV 43 [] []) (fun _ _ _ h => ⟨[], [], h, trivial, trivial⟩) rfl) rfl rfl ?_ -- delta.go:91 load
          refine Runs_p rfl (Valid.movek (A := Ptr 1 0) rfl rfl) rfl rfl ?_ -- delta.go:91 move
          refine Runs_w rfl (Valid.callm [(1, 1)] rfl (.inr ⟨_, _, rfl, rfl⟩) (more_s s _ _ (by assumption) (by assumption)) ⟨(leq_ptr rfl rfl rfl), trivial⟩ ⟨⟨_, rfl, .var ⟨(leq_is rfl rfl rfl), (leq_is rfl rfl rfl), (leq_is rfl rfl rfl), trivial⟩⟩, trivial⟩ (up_pure rfl) (hpup_cons (j := 1) rfl (cup_var (allup_cons (up_pure rfl) (allup_cons (up_pure rfl) (allup_cons (up_pure rfl) allup_nil)))) hpup_nil) (by kernel_rfl) (by kernel_rfl) (by kernel_rfl) (by kernel_rfl) (by kernel_rfl) (by kernel_rfl) (by kernel_rfl) (by kernel_rfl) (by kernel_rfl)) rfl rfl ?_ -- delta.go:91 call
          refine Runs_nil ?_
          refine blockQ_n ?_
          refine LoopQ.next (⟨a + 2, stM s a l⟩) [] (⟨by omega, by omega, by rw [hst]; exact hg, by rw [← hi4, ln_5 ho1 h21 ho3 (by rw [hst]; exact hg)]⟩) (by dsimp only; omega) ⟨trivial, ⟨(leq_ptr rfl rfl rfl), (leq_ptr rfl rfl rfl), trivial⟩, ⟨hp_var rfl ⟨(leq_is rfl rfl (by first | rfl | (rw [hst]; done) | (rw [hst]; rfl) | (refine congrArg (Value.int .i64) ?_; omega))), (leq_is rfl rfl (by first | rfl | (rw [hst]; done) | (rw [hst]; rfl) | (refine congrArg (Value.int .i64) ?_; omega))), (leq_is rfl rfl (by first | rfl | (rw [hst]; done) | (rw [hst]; rfl) | (refine congrArg (Value.int .i64) ?_; omega))), trivial⟩, trivial⟩, ⟨hp_var rfl ⟨(leq_is rfl rfl rfl), (leq_is rfl rfl rfl), trivial⟩, trivial⟩, rfl, trivial, ⟨supg rfl, supg rfl, trivial⟩, ⟨suph rfl rfl, trivial⟩, ⟨suph rfl rfl, trivial⟩, rfl, rfl⟩
        · skip
          have hge := gvE s (a + 1) 1 ho3
          have hln := ln_4 (n := l) ho1 h21 ho3 (by rw [st_1 hv]; exact hg)
          rw [hi4] at hln
          refine W_up 5 (by kernel_rfl) rfl rfl (c' := 14) rfl ?_
          refine Runs_p rfl (Valid.movek (A := Ptr 1 0) rfl rfl) rfl rfl ?_ -- delta.go:91 move
          refine Runs_w rfl (Valid.callm [(1, 1)] rfl (.inl ⟨rfl, rfl⟩) (number_s s (by omega) _ _ (by omega) _ (by omega) 1 (by assumption) (by assumption)) ⟨(leq_ptr rfl rfl rfl), (leq_is rfl rfl rfl), trivial⟩ ⟨⟨_, rfl, .var ⟨(leq_is rfl rfl rfl), (leq_is rfl rfl rfl), (leq_is rfl rfl rfl), trivial⟩⟩, trivial⟩ (up_pure rfl) (hpup_cons (j := 1) rfl (cup_var (allup_cons (up_pure rfl) (allup_cons (up_pure rfl) (allup_cons (up_pure rfl) allup_nil)))) hpup_nil) (by kernel_rfl) (by kernel_rfl) (by kernel_rfl) (by kernel_rfl) (by kernel_rfl) (by kernel_rfl) (by kernel_rfl) (by kernel_rfl) (by kernel_rfl)) rfl rfl ?_ -- delta.go:91 call
          refine Runs_p rfl (Valid.idxarr rfl Try.underlying76 sz75 rfl rfl (by decide)) rfl rfl ?_ -- delta.go:91 indexAddr
          refine Runs_p rfl (Valid.weak (Valid.load _ rfl ag75 rfl rfl rfl) (A' := FnV 44 [] []) (fun _ _ _ h => ⟨[], [], h, trivial, trivial⟩) rfl) rfl rfl ?_ -- delta.go:91 load
          refine Runs_p rfl (Valid.movek (A := Ptr 1 0) rfl rfl) rfl rfl ?_ -- delta.go:91 move
          refine Runs_nil ?_
          refine ⟨_, _, VUp.callm [(1, 1)] rfl (.inr ⟨_, _, rfl, rfl⟩) (less_u s _ _ hi3 hg) ⟨(leq_ptr rfl rfl rfl), trivial⟩ ⟨⟨_, rfl, .var ⟨(leq_is rfl rfl rfl), (leq_is rfl rfl rfl), (leq_is rfl rfl rfl), trivial⟩⟩, trivial⟩ (by kernel_rfl) (by kernel_rfl) (by kernel_rfl), by kernel_rfl, ?_⟩
          refine blockQ_p ?_
          refine loopQ_p ?_
          refine blockQ_p ?_
          refine thenQ_p ?_
          show _ = _
          rw [hln]
        · skip
          have hge := gvE s (a + 1) 1 ho3
          have hst := st_1 (n := l) hv
          refine W_regionE (c := 8) (c' := 14) (by kernel_rfl) rfl ?_
          refine Runs_p rfl (Valid.movek (A := Ptr 1 0) rfl rfl) rfl rfl ?_ -- delta.go:91 move
          refine Runs_w rfl (Valid.callm [(1, 1)] rfl (.inl ⟨rfl, rfl⟩) (number_s s (by omega) _ _ (by omega) _ (by omega) 1 (by assumption) (by assumption)) ⟨(leq_ptr rfl rfl rfl), (leq_is rfl rfl rfl), trivial⟩ ⟨⟨_, rfl, .var ⟨(leq_is rfl rfl rfl), (leq_is rfl rfl rfl), (leq_is rfl rfl rfl), trivial⟩⟩, trivial⟩ (up_pure rfl) (hpup_cons (j := 1) rfl (cup_var (allup_cons (up_pure rfl) (allup_cons (up_pure rfl) (allup_cons (up_pure rfl) allup_nil)))) hpup_nil) (by kernel_rfl) (by kernel_rfl) (by kernel_rfl) (by kernel_rfl) (by kernel_rfl) (by kernel_rfl) (by kernel_rfl) (by kernel_rfl) (by kernel_rfl)) rfl rfl ?_ -- delta.go:91 call
          refine Runs_p rfl (Valid.idxarr rfl Try.underlying76 sz75 rfl rfl (by decide)) rfl rfl ?_ -- delta.go:91 indexAddr
          refine Runs_p rfl (Valid.weak (Valid.load _ rfl ag75 rfl rfl rfl) (A' := FnV 44 [] []) (fun _ _ _ h => ⟨[], [], h, trivial, trivial⟩) rfl) rfl rfl ?_ -- delta.go:91 load
          refine Runs_p rfl (Valid.movek (A := Ptr 1 0) rfl rfl) rfl rfl ?_ -- delta.go:91 move
          refine Runs_w rfl (Valid.callm [(1, 1)] rfl (.inr ⟨_, _, rfl, rfl⟩) (less_s s _ _ (by assumption) (by assumption)) ⟨(leq_ptr rfl rfl rfl), trivial⟩ ⟨⟨_, rfl, .var ⟨(leq_is rfl rfl rfl), (leq_is rfl rfl rfl), (leq_is rfl rfl rfl), trivial⟩⟩, trivial⟩ (up_pure rfl) (hpup_cons (j := 1) rfl (cup_var (allup_cons (up_pure rfl) (allup_cons (up_pure rfl) (allup_cons (up_pure rfl) allup_nil)))) hpup_nil) (by kernel_rfl) (by kernel_rfl) (by kernel_rfl) (by kernel_rfl) (by kernel_rfl) (by kernel_rfl) (by kernel_rfl) (by kernel_rfl) (by kernel_rfl)) rfl rfl ?_ -- delta.go:91 call
          refine Runs_nil ?_
          refine blockQ_n ?_
          refine LoopQ.next (⟨a + 2, stM s a l⟩) [] (⟨by omega, by omega, by rw [hst]; exact hg, by rw [← hi4, ln_5 ho1 h21 ho3 (by rw [hst]; exact hg)]⟩) (by dsimp only; omega) ⟨trivial, ⟨(leq_ptr rfl rfl rfl), (leq_ptr rfl rfl rfl), trivial⟩, ⟨hp_var rfl ⟨(leq_is rfl rfl (by first | rfl | (rw [hst]; done) | (rw [hst]; rfl) | (refine congrArg (Value.int .i64) ?_; omega))), (leq_is rfl rfl (by first | rfl | (rw [hst]; done) | (rw [hst]; rfl) | (refine congrArg (Value.int .i64) ?_; omega))), (leq_is rfl rfl (by first | rfl | (rw [hst]; done) | (rw [hst]; rfl) | (refine congrArg (Value.int .i64) ?_; omega))), trivial⟩, trivial⟩, ⟨hp_var rfl ⟨(leq_is rfl rfl rfl), (leq_is rfl rfl rfl), trivial⟩, trivial⟩, rfl, trivial, ⟨supg rfl, supg rfl, trivial⟩, ⟨suph rfl rfl, trivial⟩, ⟨suph rfl rfl, trivial⟩, rfl, rfl⟩
        done)
    · try simp only [decide_eq_false_iff_not] at hb1
      all_goals (
        refine W_exit ?_
        refine thenQ_e ?_
        refine loopQ_e ?_
        refine blockQ_x ?_
        refine thenQ_n ?_
        refine W_seq ?_
        refine W_regionE (c := 8) (c' := 13) (by kernel_rfl) rfl ?_
        refine Runs_p rfl (Valid.movek (A := Ptr 1 0) rfl rfl) rfl rfl ?_ -- delta.go:93 move
        refine Runs_p rfl (Valid.nilcheck rfl rfl) rfl rfl ?_ -- delta.go:93 nilCheck
        refine Runs_p rfl (Valid.fieldaddr (off' := 2) rfl rfl (fun _ _ => by kernel_rfl)) rfl rfl ?_ -- delta.go:93 fieldAddr
        refine Runs_p rfl (Valid.load _ rfl ag3 rfl rfl rfl) rfl rfl ?_ -- delta.go:93 load
        refine Runs_p rfl (Valid.assignk (A := Is _) rfl rfl) rfl rfl ?_ -- delta.go:93 assign
        refine Runs_nil ?_
        refine thenQ_n ?_
        refine W_ret ?_
        exfalso
        exact h (by rw [← hi4, ln_2 ho1 (by have := gv1 s a; omega)])
        done)
  · skip
    have hln := ln_1 (n := l) hi1 ho1
    rw [hi4] at hln
    refine W_up 1 (by kernel_rfl) rfl rfl (c' := 7) rfl ?_
    refine Runs_p rfl (Valid.movek (A := Ptr 1 0) rfl rfl) rfl rfl ?_ -- delta.go:90 move
    refine Runs_nil ?_
    refine ⟨_, _, VUp.callm [(1, 1)] rfl (.inl ⟨rfl, rfl⟩) (number_u s hs a l (by omega) 1 (by omega) _ ho1 rfl) ⟨(leq_ptr rfl rfl rfl), (leq_is rfl rfl rfl), trivial⟩ ⟨⟨_, rfl, .var ⟨(leq_is rfl rfl rfl), (leq_is rfl rfl rfl), (leq_is rfl rfl rfl), trivial⟩⟩, trivial⟩ (by kernel_rfl) (by kernel_rfl) (by kernel_rfl), by kernel_rfl, ?_⟩
    refine thenQ_p ?_
    refine thenQ_p ?_
    refine loopQ_p ?_
    refine blockQ_p ?_
    refine thenQ_p ?_
    show _ = _
    rw [hln]
end Db
end Go.Proofs.Ytbfigolloaeknaa
