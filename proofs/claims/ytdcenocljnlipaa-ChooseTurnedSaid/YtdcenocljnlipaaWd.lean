/-
  WALKS of stage 10: what may be a weight; what lengths cost.
-/
import Derived.Test.YtdcenocljnlipaaRows
import Derived.Test.YtdcenocljnlipaaMgc
import Derived.Test.YtdcenocljnlipaaWa
import Derived.Test.YtdcenocljnlipaaWb
import Derived.Test.YtdcenocljnlipaaWm
import Derived.Test.YtdcenocljnlipaaWc
namespace Go.Proofs.Ytdcenocljnlipaa
open Go.RowKit
namespace Wd
open Ab Wa Wb Wm Wc
theorem ag3 (w : World) : (isAgg 3).run Try.prog w = .ok false w := by kernel_rfl
theorem sz3 (w : World) : (sizeOf 3).run Try.prog w = .ok 1 w := by kernel_rfl
def okW (x : Int) : Prop := 0 ≤ x ∧ x ≤ 1048576
instance (x : Int) : Decidable (okW x) := by unfold okW; infer_instance
def bnd (l : List Int) : Prop := ∀ x ∈ l, okW x
instance (l : List Int) : Decidable (bnd l) := by unfold bnd; infer_instance
theorem gmem {l : List Int} {k : Nat} (h : k < l.length) : l.getD k 0 ∈ l := by
  rw [List.getD_eq_getElem?_getD, List.getElem?_eq_getElem h]; exact List.getElem_mem h
theorem bnd_y {l : List Int} {k : Nat} (hk : k = l.length) (h : ∀ j, j < k → okW (l.getD j 0)) : bnd l := fun x hx => by
  obtain ⟨j, hj, rfl⟩ := List.mem_iff_getElem.1 hx
  have := h j (by omega)
  rwa [List.getD_eq_getElem?_getD, List.getElem?_eq_getElem hj] at this
theorem bnd_n {l : List Int} {k : Nat} (hk : k < l.length) (h : ¬ okW (l.getD k 0)) : ¬ bnd l := fun hb => h (hb _ (gmem hk))
theorem bnd_at {l : List Int} (h : bnd l) {k : Nat} (hk : k < l.length) : 0 ≤ l.getD k 0 ∧ l.getD k 0 ≤ 1048576 := h _ (gmem hk)
def cs (l w : List Int) : Nat → Int
  | 0 => 0
  | k + 1 => cs l w k + l.getD k 0 * w.getD k 0
theorem mul_bd {a b : Int} (ha : 0 ≤ a ∧ a ≤ 1048576) (hb : 0 ≤ b ∧ b ≤ 1048576) : 0 ≤ a * b ∧ a * b ≤ 1099511627776 :=
  ⟨Int.mul_nonneg ha.1 hb.1, by have := Int.mul_le_mul ha.2 hb.2 hb.1 (by decide); omega⟩
theorem cs_bd {l w : List Int} (hl : bnd l) (hw : bnd w) (he : l.length = w.length) : ∀ k, k ≤ l.length → 0 ≤ cs l w k ∧ cs l w k ≤ 1099511627776 * k
  | 0, _ => by simp [cs]
  | k + 1, hk => by
    have ih := cs_bd hl hw he k (by omega)
    have := mul_bd (bnd_at hl (k := k) (by omega)) (bnd_at hw (k := k) (by omega))
    rw [cs]; omega
def costV (l w : List Int) : Int × Int := if l.length = w.length ∧ bnd l ∧ bnd w then (cs l w l.length, 0) else (0, 1)
theorem cost_y {l w : List Int} {k : Nat} (h : l.length = w.length) (h1 : bnd l) (h2 : bnd w) (hk : k = l.length) : costV l w = (cs l w k, 0) := by rw [costV, if_pos ⟨h, h1, h2⟩, hk]
theorem cost_n {l w : List Int} (h : ¬ (l.length = w.length ∧ bnd l ∧ bnd w)) : costV l w = (0, 1) := by rw [costV, if_neg h]

set_option maxRecDepth 100000 in
set_option maxHeartbeats 1000000 in
theorem bounded_s (l : List Int) (hl : l.length ≤ 9223372036854775807) :
    FPure Try.prog 34 [Sl 1 l.length (l.map (Value.int .i64))] (Is (.bool (decide (bnd l)))) := by
  refine FPure.of Try.func34 Try.ntmps34 rfl (by kernel_rfl) rfl rfl rfl ?_
  refine W_seq ?_
  refine W_regionE (c := 1) (c' := 2) (by kernel_rfl) rfl ?_
  refine Runs_p rfl (Valid.assignk (A := Is _) rfl rfl) rfl rfl ?_
  refine Runs_nil ?_
  refine thenQ_n ?_
  refine W_seq ?_
  refine W_seq ?_
  refine W_regionE (c := 2) (c' := 5) (by kernel_rfl) rfl ?_
  refine Runs_p rfl (Valid.movek (A := Sl 1 _ _) rfl rfl) rfl rfl ?_
  refine Runs_p rfl (Valid.len rfl Try.underlying22 (Reads.sl rfl)) rfl rfl ?_
  refine Runs_p rfl (Valid.movek (A := Is _) rfl rfl) rfl rfl ?_
  refine Runs_nil ?_
  refine thenQ_n ?_
  refine W_block ?_
  refine W_loopx (G := Nat) (fun (k : Nat) => k ≤ l.length ∧ ∀ j, j < k → okW (l.getD j 0)) [(5, Sl 1 _ _), (6, Is _)] (fun (k : Nat) => [(7, Is (.int .i64 (k : Int)))]) [] (fun (k : Nat) => []) 5 (fun (k : Nat) => l.length - k) (0) [] (⟨by omega, fun j hj => by omega⟩) ⟨⟨(leq_is rfl rfl (by first | rfl | (simp; done) | omega | (simp [toNat_add, toNat_add1, Nat.add_assoc]; done) | (simp [toNat_add, toNat_add1]; omega))), trivial⟩, ⟨(leq_sl (Reads.sl rfl) rfl rfl rfl), (leq_is rfl rfl rfl), trivial⟩, trivial, trivial, rfl, ⟨supg rfl, trivial⟩, ⟨supg rfl, supg rfl, trivial⟩, trivial, trivial, rfl, rfl⟩ ?_
  intro k hI1
  obtain ⟨hk1, hk2⟩ := hI1
  refine W_seq ?_
  refine W_regionE (c := 5) (c' := 6) (by kernel_rfl) rfl ?_
  refine Runs_p rfl (Valid.lss rfl rfl rfl) rfl rfl ?_
  refine Runs_nil ?_
  refine thenQ_n ?_
  refine W_seq ?_
  refine W_cond _ rfl (fun hb1 => ?_) (fun hb1 => ?_)
  · try simp only [decide_eq_true_eq] at hb1
    all_goals (
      refine W_skip ?_
      refine thenQ_n ?_
      refine W_seq ?_
      refine W_block ?_
      refine W_seq ?_
      refine W_regionE (c := 6) (c' := 9) (by kernel_rfl) rfl ?_
      refine Runs_p rfl (Valid.eltaddr1 0 rfl Try.underlying22 sz3 (Reads.sl rfl) rfl (by omega) rfl) rfl rfl ?_
      refine Runs_p rfl (Valid.loadelt rfl ag3 rfl) rfl rfl ?_
      refine Runs_p rfl (Valid.assignk (A := Is _) rfl rfl) rfl rfl ?_
      refine Runs_nil ?_
      refine thenQ_n ?_
      refine W_seq ?_
      refine W_regionE (c := 9) (c' := 15) (by kernel_rfl) rfl ?_
      refine Runs_p rfl (Valid.movek (A := Is _) rfl rfl) rfl rfl ?_
      refine Runs_p rfl (Valid.lss rfl rfl rfl) rfl rfl ?_
      refine Runs_p rfl (Valid.movek (A := Is _) rfl rfl) rfl rfl ?_
      refine Runs_cnd rfl rfl (Grd.is rfl) [] (fun hg => trivial) (fun hg => Valid.movek (A := Is _) rfl rfl) (by rfl) rfl ?_
      refine Runs_cnd rfl rfl (Grd.is rfl) [(14, _)] (fun hg => ⟨cnd_at rfl (by first | exact hg | exact hg.1 | exact hg.1.1 | exact hg.1.1.1), trivial⟩) (fun hg => Valid.gtr rfl rfl rfl) (by rfl) rfl ?_
      refine Runs_p rfl (Valid.pickor rfl rfl rfl rfl (fun h => by first | exact h | exact ⟨hg, h⟩)) rfl rfl ?_
      refine Runs_nil ?_
      refine thenQ_n ?_
      refine W_cond _ rfl (fun hb2 => ?_) (fun hb2 => ?_)
      · try simp only [Int.toNat_natCast, decide_eq_true_eq, Bool.or_eq_true] at hb2
        all_goals (
          refine W_seq ?_
          refine W_regionE (c := 15) (c' := 16) (by kernel_rfl) rfl ?_
          refine Runs_p rfl (Valid.assignk (A := Is _) rfl rfl) rfl rfl ?_
          refine Runs_nil ?_
          refine thenQ_n ?_
          refine W_ret ?_
          refine blockQ_r ?_
          refine thenQ_r ?_
          refine loopQ_r ?_
          refine blockQ_r ?_
          refine thenQ_r ?_
          refine finQ_r ?_
          refine ResOk.one rfl (RVal.is rfl rfl (by first | (rw [decide_eq_true (bnd_y (k := k) (by omega) hk2)]; done) | (rw [decide_eq_false (bnd_n (k := k) (by omega) (by unfold okW; have hjj : l.getD (k : Int).toNat 0 = l.getD k 0 := rfl; omega))]; done)))
          done)
      · try simp only [Int.toNat_natCast, decide_eq_false_iff_not, Bool.or_eq_false_iff] at hb2
        all_goals (
          refine W_skip ?_
          refine blockQ_n ?_
          refine thenQ_n ?_
          refine W_regionE (c := 15) (c' := 17) (by kernel_rfl) rfl ?_
          refine Runs_p rfl (Valid.add rfl rfl rfl (room64 (by omega) (by omega))) rfl rfl ?_
          refine Runs_p rfl (Valid.movek (A := Is _) rfl rfl) rfl rfl ?_
          refine Runs_nil ?_
          refine LoopQ.next (k + 1) [] (⟨by omega, fun j hj => by by_cases e : j = k; (· subst e; unfold okW; have hjj : l.getD (j : Int).toNat 0 = l.getD j 0 := rfl; omega); (· exact hk2 j (by omega))⟩) (by omega) ⟨⟨(leq_is rfl rfl (by first | rfl | (simp; done) | omega | (simp [toNat_add, toNat_add1, Nat.add_assoc]; done) | (simp [toNat_add, toNat_add1]; omega))), trivial⟩, ⟨(leq_sl (Reads.sl rfl) rfl rfl rfl), (leq_is rfl rfl rfl), trivial⟩, trivial, trivial, rfl, ⟨supg rfl, trivial⟩, ⟨supg rfl, supg rfl, trivial⟩, trivial, trivial, rfl, rfl⟩
          done)
      done)
  · try simp only [decide_eq_false_iff_not] at hb1
    all_goals (
      refine W_exit ?_
      refine thenQ_e ?_
      refine loopQ_e ?_
      refine blockQ_x ?_
      refine thenQ_n ?_
      refine W_seq ?_
      refine W_regionE (c := 6) (c' := 7) (by kernel_rfl) rfl ?_
      refine Runs_p rfl (Valid.assignk (A := Is _) rfl rfl) rfl rfl ?_
      refine Runs_nil ?_
      refine thenQ_n ?_
      refine W_ret ?_
      refine finQ_r ?_
      refine ResOk.one rfl (RVal.is rfl rfl (by first | (rw [decide_eq_true (bnd_y (k := k) (by omega) hk2)]; done) | (rw [decide_eq_false (bnd_n (k := k) (by omega) (by unfold okW; have hjj : l.getD (k : Int).toNat 0 = l.getD k 0 := rfl; omega))]; done)))
      done)

set_option maxRecDepth 100000 in
set_option maxHeartbeats 1000000 in
theorem may_s (l : List Int) (hl : l.length ≤ 9223372036854775807) :
    FPure Try.prog 41 [Sl 1 l.length (l.map (Value.int .i64))] (Is (.bool (decide (bnd l)))) := by
  refine FPure.of Try.func41 Try.ntmps41 rfl (by kernel_rfl) rfl rfl rfl ?_
  refine W_seq ?_
  refine W_regionE (c := 1) (c' := 2) (by kernel_rfl) rfl ?_
  refine Runs_p rfl (Valid.assignk (A := Is _) rfl rfl) rfl rfl ?_
  refine Runs_nil ?_
  refine thenQ_n ?_
  refine W_seq ?_
  refine W_seq ?_
  refine W_regionE (c := 2) (c' := 3) (by kernel_rfl) rfl ?_
  refine Runs_p rfl (Valid.assignk (A := Is _) rfl rfl) rfl rfl ?_
  refine Runs_nil ?_
  refine thenQ_n ?_
  refine W_block ?_
  refine W_loopx (G := Nat) (fun (k : Nat) => k ≤ l.length ∧ ∀ j, j < k → okW (l.getD j 0)) [(0, Sl 1 _ _)] (fun (k : Nat) => [(3, Is (.int .i64 (k : Int)))]) [] (fun (k : Nat) => []) 3 (fun (k : Nat) => l.length - k) (0) [] (⟨by omega, fun j hj => by omega⟩) ⟨⟨(leq_is rfl rfl (by first | rfl | (simp; done) | omega | (simp [toNat_add, toNat_add1, Nat.add_assoc]; done) | (simp [toNat_add, toNat_add1]; omega))), trivial⟩, ⟨(leq_sl (Reads.sl rfl) rfl rfl rfl), trivial⟩, trivial, trivial, rfl, ⟨supg rfl, trivial⟩, ⟨supg rfl, trivial⟩, trivial, trivial, rfl, rfl⟩ ?_
  intro k hI1
  obtain ⟨hk1, hk2⟩ := hI1
  refine W_seq ?_
  refine W_seq ?_
  refine W_regionE (c := 3) (c' := 7) (by kernel_rfl) rfl ?_
  refine Runs_p rfl (Valid.movek (A := Is _) rfl rfl) rfl rfl ?_
  refine Runs_p rfl (Valid.movek (A := Sl 1 _ _) rfl rfl) rfl rfl ?_
  refine Runs_p rfl (Valid.len rfl Try.underlying22 (Reads.sl rfl)) rfl rfl ?_
  refine Runs_p rfl (Valid.lss rfl rfl rfl) rfl rfl ?_
  refine Runs_nil ?_
  refine thenQ_n ?_
  refine W_cond _ rfl (fun hb1 => ?_) (fun hb1 => ?_)
  · try simp only [decide_eq_true_eq] at hb1
    all_goals (
      refine W_skip ?_
      refine thenQ_n ?_
      refine W_seq ?_
      refine W_block ?_
      refine W_seq ?_
      refine W_regionE (c := 7) (c' := 19) (by kernel_rfl) rfl ?_
      refine Runs_p rfl (Valid.movek (A := Sl 1 _ _) rfl rfl) rfl rfl ?_
      refine Runs_p rfl (Valid.movek (A := Is _) rfl rfl) rfl rfl ?_
      refine Runs_p rfl (Valid.eltaddr1 0 rfl Try.underlying22 sz3 (Reads.sl rfl) rfl (by omega) rfl) rfl rfl ?_
      refine Runs_p rfl (Valid.loadelt rfl ag3 rfl) rfl rfl ?_
      refine Runs_p rfl (Valid.lss rfl rfl rfl) rfl rfl ?_
      refine Runs_p rfl (Valid.movek (A := Is _) rfl rfl) rfl rfl ?_
      refine Runs_cnd rfl rfl (Grd.is rfl) [] (fun hg => trivial) (fun hg => Valid.movek (A := Sl 1 _ _) rfl rfl) (by rfl) rfl ?_
      refine Runs_cnd rfl rfl (Grd.is rfl) [] (fun hg => trivial) (fun hg => Valid.movek (A := Is _) rfl rfl) (by rfl) rfl ?_
      refine Runs_cnd rfl rfl (Grd.is rfl) [(16, _), (17, _)] (fun hg => ⟨cnd_at rfl (by first | exact hg | exact hg.1 | exact hg.1.1 | exact hg.1.1.1), cnd_at rfl (by first | exact hg | exact hg.1 | exact hg.1.1 | exact hg.1.1.1), trivial⟩) (fun hg => Valid.eltaddr1 0 rfl Try.underlying22 sz3 (Reads.sl rfl) rfl (by (try simp only [Int.toNat_natCast, decide_eq_false_iff_not] at hg); first | omega | (simp only [Int.toNat_natCast, toNat_add, toNat_add1, List.length_append, List.length_cons, List.length_nil, List.length_replicate]; omega)) rfl) (by rfl) rfl ?_
      refine Runs_cnd rfl rfl (Grd.is rfl) [(18, _)] (fun hg => ⟨cnd_at rfl (by first | exact hg | exact hg.1 | exact hg.1.1 | exact hg.1.1.1), trivial⟩) (fun hg => Valid.loadelt rfl ag3 rfl) (by rfl) rfl ?_
      refine Runs_cnd rfl rfl (Grd.is rfl) [(19, _)] (fun hg => ⟨cnd_at rfl (by first | exact hg | exact hg.1 | exact hg.1.1 | exact hg.1.1.1), trivial⟩) (fun hg => Valid.gtr rfl rfl rfl) (by rfl) rfl ?_
      refine Runs_p rfl (Valid.pickor rfl rfl rfl rfl (fun h => by first | exact h | exact ⟨hg, h⟩)) rfl rfl ?_
      refine Runs_nil ?_
      refine thenQ_n ?_
      refine W_cond _ rfl (fun hb2 => ?_) (fun hb2 => ?_)
      · try simp only [Int.toNat_natCast, decide_eq_true_eq, Bool.or_eq_true] at hb2
        all_goals (
          refine W_seq ?_
          refine W_regionE (c := 19) (c' := 20) (by kernel_rfl) rfl ?_
          refine Runs_p rfl (Valid.assignk (A := Is _) rfl rfl) rfl rfl ?_
          refine Runs_nil ?_
          refine thenQ_n ?_
          refine W_ret ?_
          refine blockQ_r ?_
          refine thenQ_r ?_
          refine loopQ_r ?_
          refine blockQ_r ?_
          refine thenQ_r ?_
          refine finQ_r ?_
          refine ResOk.one rfl (RVal.is rfl rfl (by first | (rw [decide_eq_true (bnd_y (k := k) (by omega) hk2)]; done) | (rw [decide_eq_false (bnd_n (k := k) (by omega) (by unfold okW; have hjj : l.getD (k : Int).toNat 0 = l.getD k 0 := rfl; omega))]; done)))
          done)
      · try simp only [Int.toNat_natCast, decide_eq_false_iff_not, Bool.or_eq_false_iff] at hb2
        all_goals (
          refine W_skip ?_
          refine blockQ_n ?_
          refine thenQ_n ?_
          refine W_regionE (c := 19) (c' := 22) (by kernel_rfl) rfl ?_
          refine Runs_p rfl (Valid.movek (A := Is _) rfl rfl) rfl rfl ?_
          refine Runs_p rfl (Valid.add rfl rfl rfl (room64 (by omega) (by omega))) rfl rfl ?_
          refine Runs_p rfl (Valid.assignk (A := Is _) rfl rfl) rfl rfl ?_
          refine Runs_nil ?_
          refine LoopQ.next (k + 1) [] (⟨by omega, fun j hj => by by_cases e : j = k; (· subst e; unfold okW; have hjj : l.getD (j : Int).toNat 0 = l.getD j 0 := rfl; omega); (· exact hk2 j (by omega))⟩) (by omega) ⟨⟨(leq_is rfl rfl (by first | rfl | (simp; done) | omega | (simp [toNat_add, toNat_add1, Nat.add_assoc]; done) | (simp [toNat_add, toNat_add1]; omega))), trivial⟩, ⟨(leq_sl (Reads.sl rfl) rfl rfl rfl), trivial⟩, trivial, trivial, rfl, ⟨supg rfl, trivial⟩, ⟨supg rfl, trivial⟩, trivial, trivial, rfl, rfl⟩
          done)
      done)
  · try simp only [decide_eq_false_iff_not] at hb1
    all_goals (
      refine W_exit ?_
      refine thenQ_e ?_
      refine loopQ_e ?_
      refine blockQ_x ?_
      refine thenQ_n ?_
      refine W_seq ?_
      refine W_regionE (c := 7) (c' := 8) (by kernel_rfl) rfl ?_
      refine Runs_p rfl (Valid.assignk (A := Is _) rfl rfl) rfl rfl ?_
      refine Runs_nil ?_
      refine thenQ_n ?_
      refine W_ret ?_
      refine finQ_r ?_
      refine ResOk.one rfl (RVal.is rfl rfl (by first | (rw [decide_eq_true (bnd_y (k := k) (by omega) hk2)]; done) | (rw [decide_eq_false (bnd_n (k := k) (by omega) (by unfold okW; have hjj : l.getD (k : Int).toNat 0 = l.getD k 0 := rfl; omega))]; done)))
      done)

set_option maxRecDepth 100000 in
set_option maxHeartbeats 1000000 in
theorem cost_s (l w : List Int) (hl : l.length ≤ 1000) (_hw : w.length ≤ 1000) :
    FPure Try.prog 21 [Sl 1 l.length (l.map (Value.int .i64)), Sl 1 w.length (w.map (Value.int .i64))] (Tup [Is (.int .i64 (costV l w).1), Is (.int .i64 (costV l w).2)]) := by
  refine FPure.of Try.func21 Try.ntmps21 rfl (by kernel_rfl) rfl rfl rfl ?_
  refine W_seq ?_
  refine W_regionE (c := 1) (c' := 3) (by kernel_rfl) rfl ?_
  refine Runs_p rfl (Valid.assignk (A := Is _) rfl rfl) rfl rfl ?_
  refine Runs_p rfl (Valid.assignk (A := Is _) rfl rfl) rfl rfl ?_
  refine Runs_nil ?_
  refine thenQ_n ?_
  refine W_seq ?_
  refine W_seq ?_
  refine W_regionE (c := 3) (c' := 18) (by kernel_rfl) rfl ?_
  refine Runs_p rfl (Valid.movek (A := Sl 1 _ _) rfl rfl) rfl rfl ?_
  refine Runs_p rfl (Valid.len rfl Try.underlying22 (Reads.sl rfl)) rfl rfl ?_
  refine Runs_p rfl (Valid.movek (A := Sl 1 _ _) rfl rfl) rfl rfl ?_
  refine Runs_p rfl (Valid.len rfl Try.underlying22 (Reads.sl rfl)) rfl rfl ?_
  refine Runs_p rfl (Valid.neq rfl rfl rfl) rfl rfl ?_
  refine Runs_p rfl (Valid.movek (A := Is _) rfl rfl) rfl rfl ?_
  refine Runs_cnd rfl rfl (Grd.is rfl) [] (fun hg => trivial) (fun hg => Valid.movek (A := Sl 1 _ _) rfl rfl) (by rfl) rfl ?_
  refine Runs_cnd rfl rfl (Grd.is rfl) [(15, _)] (fun hg => ⟨cnd_at rfl (by first | exact hg | exact hg.1 | exact hg.1.1 | exact hg.1.1.1), trivial⟩) (fun hg => Valid.call rfl (bounded_s _ (by (try simp only [decide_eq_false_iff_not, ne_eq] at hg); omega)) ⟨argle_sl (Reads.sl rfl), trivial⟩) (by rfl) rfl ?_
  refine Runs_cnd rfl rfl (Grd.is rfl) [(16, _)] (fun hg => ⟨cnd_at rfl (by first | exact hg | exact hg.1 | exact hg.1.1 | exact hg.1.1.1), trivial⟩) (fun hg => Valid.not rfl rfl) (by rfl) rfl ?_
  refine Runs_p rfl (Valid.pickor rfl rfl rfl rfl (fun h => by first | exact h | exact ⟨hg, h⟩)) rfl rfl ?_
  refine Runs_p rfl (Valid.movek (A := Is _) rfl rfl) rfl rfl ?_
  refine Runs_cnd rfl rfl (Grd.is rfl) [] (fun hg => trivial) (fun hg => Valid.movek (A := Sl 1 _ _) rfl rfl) (by rfl) rfl ?_
  refine Runs_cnd rfl rfl (Grd.is rfl) [(20, _)] (fun hg => ⟨cnd_at rfl (by first | exact hg | exact hg.1 | exact hg.1.1 | exact hg.1.1.1), trivial⟩) (fun hg => Valid.call rfl (bounded_s _ (by (try simp only [decide_eq_true_eq, decide_eq_false_iff_not, Bool.or_eq_false_iff, Bool.not_eq_false', ne_eq] at hg); omega)) ⟨argle_sl (Reads.sl rfl), trivial⟩) (by rfl) rfl ?_
  refine Runs_cnd rfl rfl (Grd.is rfl) [(21, _)] (fun hg => ⟨cnd_at rfl (by first | exact hg | exact hg.1 | exact hg.1.1 | exact hg.1.1.1), trivial⟩) (fun hg => Valid.not rfl rfl) (by rfl) rfl ?_
  refine Runs_p rfl (Valid.pickor rfl rfl rfl rfl (fun h => by first | exact h | exact ⟨hg, h⟩)) rfl rfl ?_
  refine Runs_nil ?_
  refine thenQ_n ?_
  refine W_cond _ rfl (fun hb1 => ?_) (fun hb1 => ?_)
  · try simp only [decide_eq_true_eq, decide_eq_false_iff_not, Bool.or_eq_true, Bool.not_eq_true', ne_eq] at hb1
    all_goals (
      refine W_seq ?_
      refine W_regionE (c := 18) (c' := 20) (by kernel_rfl) rfl ?_
      refine Runs_p rfl (Valid.assignk (A := Is _) rfl rfl) rfl rfl ?_
      refine Runs_p rfl (Valid.assignk (A := Is _) rfl rfl) rfl rfl ?_
      refine Runs_nil ?_
      refine thenQ_n ?_
      refine W_ret ?_
      refine thenQ_r ?_
      refine finQ_r ?_
      refine ResOk.two rfl (RVal.is rfl rfl (by first | (rw [cost_y hle hbl hbw (k := k) (by omega)]; done) | (rw [cost_y hle hbl hbw (k := k) (by omega)]; rfl) | (rw [cost_n (fun h => by obtain ⟨a1, a2, a3⟩ := h; rcases hb1 with (h1 | h1) | h1 <;> first | omega | exact h1 a2 | exact h1 a3)]; done) | (rw [cost_n (fun h => by obtain ⟨a1, a2, a3⟩ := h; rcases hb1 with (h1 | h1) | h1 <;> first | omega | exact h1 a2 | exact h1 a3)]; rfl))) (RVal.is rfl rfl (by first | (rw [cost_y hle hbl hbw (k := k) (by omega)]; done) | (rw [cost_y hle hbl hbw (k := k) (by omega)]; rfl) | (rw [cost_n (fun h => by obtain ⟨a1, a2, a3⟩ := h; rcases hb1 with (h1 | h1) | h1 <;> first | omega | exact h1 a2 | exact h1 a3)]; done) | (rw [cost_n (fun h => by obtain ⟨a1, a2, a3⟩ := h; rcases hb1 with (h1 | h1) | h1 <;> first | omega | exact h1 a2 | exact h1 a3)]; rfl)))
      done)
  · try simp only [decide_eq_true_eq, decide_eq_false_iff_not, Bool.or_eq_false_iff, Bool.not_eq_false', ne_eq] at hb1
    all_goals (
      refine W_skip ?_
      refine thenQ_n ?_
      refine W_seq ?_
      have hle : l.length = w.length := by omega
      have hbl : bnd l := by simp_all
      have hbw : bnd w := by simp_all
      refine W_regionE (c := 18) (c' := 19) (by kernel_rfl) rfl ?_
      refine Runs_p rfl (Valid.assignk (A := Is _) rfl rfl) rfl rfl ?_
      refine Runs_nil ?_
      refine thenQ_n ?_
      refine W_seq ?_
      refine W_seq ?_
      refine W_regionE (c := 19) (c' := 22) (by kernel_rfl) rfl ?_
      refine Runs_p rfl (Valid.movek (A := Sl 1 _ _) rfl rfl) rfl rfl ?_
      refine Runs_p rfl (Valid.len rfl Try.underlying22 (Reads.sl rfl)) rfl rfl ?_
      refine Runs_p rfl (Valid.movek (A := Is _) rfl rfl) rfl rfl ?_
      refine Runs_nil ?_
      refine thenQ_n ?_
      refine W_block ?_
      refine W_loopx (G := Nat) (fun (k : Nat) => k ≤ l.length) [(1, Sl 1 _ _), (24, Sl 1 _ _), (25, Is _)] (fun (k : Nat) => [(26, Is (.int .i64 (k : Int))), (6, Is (.int .i64 (cs l w k)))]) [] (fun (k : Nat) => []) 22 (fun (k : Nat) => l.length - k) (0) [] (by first | trivial | omega | (simp; omega)) ⟨⟨(leq_is rfl rfl (by first | rfl)), (leq_is rfl rfl (by first | rfl)), trivial⟩, ⟨(leq_sl (Reads.sl rfl) rfl rfl rfl), (leq_sl (Reads.sl rfl) rfl rfl rfl), (leq_is rfl rfl rfl), trivial⟩, trivial, trivial, rfl, ⟨supg rfl, supg rfl, trivial⟩, ⟨supg rfl, supg rfl, supg rfl, trivial⟩, trivial, trivial, rfl, rfl⟩ ?_
      intro k hI1
      refine W_seq ?_
      refine W_regionE (c := 22) (c' := 23) (by kernel_rfl) rfl ?_
      refine Runs_p rfl (Valid.lss rfl rfl rfl) rfl rfl ?_
      refine Runs_nil ?_
      refine thenQ_n ?_
      refine W_seq ?_
      refine W_cond _ rfl (fun hb2 => ?_) (fun hb2 => ?_)
      · try simp only [decide_eq_true_eq] at hb2
        all_goals (
          refine W_skip ?_
          refine thenQ_n ?_
          refine W_seq ?_
          refine W_block ?_
          refine W_seq ?_
          refine W_regionE (c := 23) (c' := 28) (by kernel_rfl) rfl ?_
          refine Runs_p rfl (Valid.movek (A := Is _) rfl rfl) rfl rfl ?_
          refine Runs_p rfl (Valid.eltaddr1 0 rfl Try.underlying22 sz3 (Reads.sl rfl) rfl (by omega) rfl) rfl rfl ?_
          refine Runs_p rfl (Valid.loadelt rfl ag3 rfl) rfl rfl ?_
          refine Runs_p rfl (Valid.assignk (A := Is _) rfl rfl) rfl rfl ?_
          refine Runs_p rfl (Valid.assignk (A := Is _) rfl rfl) rfl rfl ?_
          refine Runs_nil ?_
          refine thenQ_n ?_
          have hmb := mul_bd (bnd_at hbl (k := k) (by omega)) (bnd_at hbw (k := k) (by omega))
          have hcs := cs_bd hbl hbw hle k (by omega)
          refine W_regionE (c := 28) (c' := 37) (by kernel_rfl) rfl ?_
          refine Runs_p rfl (Valid.movek (A := Is _) rfl rfl) rfl rfl ?_
          refine Runs_p rfl (Valid.movek (A := Is _) rfl rfl) rfl rfl ?_
          refine Runs_p rfl (Valid.movek (A := Sl 1 _ _) rfl rfl) rfl rfl ?_
          refine Runs_p rfl (Valid.movek (A := Is _) rfl rfl) rfl rfl ?_
          refine Runs_p rfl (Valid.eltaddr1 0 rfl Try.underlying22 sz3 (Reads.sl rfl) rfl (by omega) rfl) rfl rfl ?_
          refine Runs_p rfl (Valid.loadelt rfl ag3 rfl) rfl rfl ?_
          refine Runs_p rfl (Valid.mul rfl rfl rfl (room64 (by first | exact hmb.1 | omega | (have h9 : l.getD (k : Int).toNat 0 * w.getD (k : Int).toNat 0 = l.getD k 0 * w.getD k 0 := rfl; omega)) (by first | exact hmb.1 | omega | (have h9 : l.getD (k : Int).toNat 0 * w.getD (k : Int).toNat 0 = l.getD k 0 * w.getD k 0 := rfl; omega)))) rfl rfl ?_
          refine Runs_p rfl (Valid.add rfl rfl rfl (room64 (by first | omega | (simp only [Int.toNat_natCast]; omega)) (by first | omega | (simp only [Int.toNat_natCast]; omega)))) rfl rfl ?_
          refine Runs_p rfl (Valid.assignk (A := Is _) rfl rfl) rfl rfl ?_
          refine Runs_nil ?_
          refine blockQ_n ?_
          refine thenQ_n ?_
          refine W_regionE (c := 37) (c' := 39) (by kernel_rfl) rfl ?_
          refine Runs_p rfl (Valid.add rfl rfl rfl (room64 (by omega) (by omega))) rfl rfl ?_
          refine Runs_p rfl (Valid.movek (A := Is _) rfl rfl) rfl rfl ?_
          refine Runs_nil ?_
          refine LoopQ.next (k + 1) [] (by omega) (by omega) ⟨⟨(leq_is rfl rfl (by first | rfl)), (leq_is rfl rfl (by first | rfl)), trivial⟩, ⟨(leq_sl (Reads.sl rfl) rfl rfl rfl), (leq_sl (Reads.sl rfl) rfl rfl rfl), (leq_is rfl rfl rfl), trivial⟩, trivial, trivial, rfl, ⟨supg rfl, supg rfl, trivial⟩, ⟨supg rfl, supg rfl, supg rfl, trivial⟩, trivial, trivial, rfl, rfl⟩
          done)
      · try simp only [decide_eq_false_iff_not] at hb2
        all_goals (
          refine W_exit ?_
          refine thenQ_e ?_
          refine loopQ_e ?_
          refine blockQ_x ?_
          refine thenQ_n ?_
          refine W_seq ?_
          refine W_regionE (c := 23) (c' := 26) (by kernel_rfl) rfl ?_
          refine Runs_p rfl (Valid.movek (A := Is _) rfl rfl) rfl rfl ?_
          refine Runs_p rfl (Valid.assignk (A := Is _) rfl rfl) rfl rfl ?_
          refine Runs_p rfl (Valid.assignk (A := Is _) rfl rfl) rfl rfl ?_
          refine Runs_nil ?_
          refine thenQ_n ?_
          refine W_ret ?_
          refine finQ_r ?_
          refine ResOk.two rfl (RVal.is rfl rfl (by first | (rw [cost_y hle hbl hbw (k := k) (by omega)]; done) | (rw [cost_y hle hbl hbw (k := k) (by omega)]; rfl) | (rw [cost_n (fun h => by obtain ⟨a1, a2, a3⟩ := h; rcases hb1 with (h1 | h1) | h1 <;> first | omega | exact h1 a2 | exact h1 a3)]; done) | (rw [cost_n (fun h => by obtain ⟨a1, a2, a3⟩ := h; rcases hb1 with (h1 | h1) | h1 <;> first | omega | exact h1 a2 | exact h1 a3)]; rfl))) (RVal.is rfl rfl (by first | (rw [cost_y hle hbl hbw (k := k) (by omega)]; done) | (rw [cost_y hle hbl hbw (k := k) (by omega)]; rfl) | (rw [cost_n (fun h => by obtain ⟨a1, a2, a3⟩ := h; rcases hb1 with (h1 | h1) | h1 <;> first | omega | exact h1 a2 | exact h1 a3)]; done) | (rw [cost_n (fun h => by obtain ⟨a1, a2, a3⟩ := h; rcases hb1 with (h1 | h1) | h1 <;> first | omega | exact h1 a2 | exact h1 a3)]; rfl)))
          done)
      done)
end Wd
end Go.Proofs.Ytdcenocljnlipaa
