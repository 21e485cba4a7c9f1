/-
  WALKS of stage 6: the laws.
-/
import Derived.Test.YtimpmdcebapfiaaRows
import Derived.Test.YtimpmdcebapfiaaZm
import Derived.Test.YtimpmdcebapfiaaZn
import Derived.Test.YtimpmdcebapfiaaZo
import Derived.Test.YtimpmdcebapfiaaZp
import Derived.Test.YtimpmdcebapfiaaZq
import Derived.Test.YtimpmdcebapfiaaZa
import Derived.Test.YtimpmdcebapfiaaZb
import Derived.Test.YtimpmdcebapfiaaZc
import Derived.Test.YtimpmdcebapfiaaZd
import Derived.Test.YtimpmdcebapfiaaZe
import Derived.Test.YtimpmdcebapfiaaZf
import Derived.Test.YtimpmdcebapfiaaZg
namespace Go.Proofs.Ytimpmdcebapfiaa
open Go.RowKit
namespace Zh
open Ab Zm Zn Zo Zp Zq Za Zb Zc Zd Ze Zf Zg
theorem ag3 (w : World) : (isAgg 3).run Try.prog w = .ok false w := by kernel_rfl
theorem sz3 (w : World) : (sizeOf 3).run Try.prog w = .ok 1 w := by kernel_rfl
theorem few_mem {raw : List Int} {most below : Int} (h : 0 < below) : ∀ x ∈ fewL raw most below, 0 ≤ x ∧ x < below := fun x hx => by
  obtain ⟨y, _, rfl⟩ := List.mem_map.1 hx
  exact fewF_range below y h
theorem few_in {raw : List Int} {most below : Int} (h : 0 < below) (h2 : below ≤ 1000) : In64 (fewL raw most below) := fun x hx => by
  have := few_mem h x hx; omega
theorem few_len (raw : List Int) (most below : Int) : (fewL raw most below).length ≤ most.toNat := by
  unfold fewL; simp [List.length_take]; omega
theorem few_neg {raw : List Int} {most below : Int} (h : 0 < below) : (fewL raw most below).any (fun x => decide (x < 0)) = false := by
  cases hb : (fewL raw most below).any (fun x => decide (x < 0)) with
  | false => rfl
  | true =>
    obtain ⟨x, hx, hp⟩ := List.any_eq_true.1 hb
    have := few_mem h x hx
    simp at hp; omega
theorem few_out {raw : List Int} {most below k : Int} (h : 0 < below) (h2 : below ≤ k) : outV (fewL raw most below) k = false := by
  cases hb : outV (fewL raw most below) k with
  | false => rfl
  | true =>
    obtain ⟨x, hx, hp⟩ := List.any_eq_true.1 hb
    have := few_mem h x hx
    simp only [outP, Bool.or_eq_true, decide_eq_true_eq] at hp; omega
theorem few_bad {raw : List Int} {most : Int} : badD (fewL raw most 2) = false := by
  cases hb : badD (fewL raw most 2) with
  | false => rfl
  | true =>
    obtain ⟨x, hx, hp⟩ := List.any_eq_true.1 hb
    have := few_mem (below := 2) (by decide) x hx
    simp only [badP, Bool.and_eq_true, decide_eq_true_eq] at hp; omega

theorem short_ok (A B : Int) (k : Nat) (ha : 0 ≤ A) (hb : 0 ≤ B) (hk : k = (digs A.toNat).length) : ((((true && decide (((digs A.toNat).length : Int) = (k : Int))) && (decide (B < A) || decide (((digs A.toNat).length : Int) ≤ ((digs B.toNat).length : Int)))) && (decide (A < B) || decide (((digs B.toNat).length : Int) ≤ ((digs A.toNat).length : Int)))) && (decide (digs A.toNat = digs B.toNat) == decide (A = B))) = true := by
  subst hk
  have h1 : ¬ B < A → (digs A.toNat).length ≤ (digs B.toNat).length := fun h => digs_mono (by omega)
  have h2 : ¬ A < B → (digs B.toNat).length ≤ (digs A.toNat).length := fun h => digs_mono (by omega)
  have h3 : (digs A.toNat = digs B.toNat) ↔ A = B := ⟨fun h => by have := digs_inj h; omega, fun h => by rw [h]⟩
  simp only [Bool.and_eq_true, Bool.or_eq_true, decide_eq_true_eq, beq_iff_eq, decide_eq_decide, true_and]
  exact ⟨⟨by omega, by omega⟩, h3⟩

set_option maxRecDepth 100000 in
set_option maxHeartbeats 1000000 in
theorem short_s (a0 b0 : Int) (wa0 : -9223372036854775808 ≤ a0 ∧ a0 ≤ 9223372036854775807) (wb0 : -9223372036854775808 ≤ b0 ∧ b0 ≤ 9223372036854775807) :
    FPure Try.prog 7 [Is (.int .i64 a0), Is (.int .i64 b0)] (Is (.bool true)) := by
  refine FPure.of Try.func7 Try.ntmps7 rfl (by kernel_rfl) rfl rfl rfl ?_
  refine W_seq ?_
  refine W_regionE (c := 1) (c' := 2) (by kernel_rfl) rfl ?_
  refine Runs_p rfl (Valid.assignk (A := Is _) rfl rfl) rfl rfl ?_ -- law.go:114 assign
  refine Runs_nil ?_
  refine thenQ_n ?_
  refine W_seq ?_
  refine W_regionE (c := 2) (c' := 4) (by kernel_rfl) rfl ?_
  refine Runs_p rfl (Valid.call rfl (awake_s) trivial) rfl rfl ?_ -- law.go:115 call
  refine Runs_p rfl (Valid.assignk (A := Is _) rfl rfl) rfl rfl ?_ -- law.go:115 assign
  refine Runs_nil ?_
  refine thenQ_n ?_
  refine W_seq ?_
  refine W_regionE (c := 4) (c' := 7) (by kernel_rfl) rfl ?_
  refine Runs_p rfl (Valid.movek (A := Is _) rfl rfl) rfl rfl ?_ -- law.go:116 move
  refine Runs_p rfl (Valid.call rfl (pick_s _ _ (by omega) (by omega) (by omega) (by omega)) ⟨argle rfl, argle rfl, trivial⟩) rfl rfl ?_ -- law.go:116 call
  refine Runs_p rfl (Valid.assignk (A := Is _) rfl rfl) rfl rfl ?_ -- law.go:116 assign
  refine Runs_nil ?_
  refine thenQ_n ?_
  refine W_seq ?_
  refine W_regionE (c := 7) (c' := 10) (by kernel_rfl) rfl ?_
  refine Runs_p rfl (Valid.movek (A := Is _) rfl rfl) rfl rfl ?_ -- law.go:117 move
  refine Runs_p rfl (Valid.call rfl (pick_s _ _ (by omega) (by omega) (by omega) (by omega)) ⟨argle rfl, argle rfl, trivial⟩) rfl rfl ?_ -- law.go:117 call
  refine Runs_p rfl (Valid.assignk (A := Is _) rfl rfl) rfl rfl ?_ -- law.go:117 assign
  refine Runs_nil ?_
  refine thenQ_n ?_
  refine W_seq ?_
  refine W_regionE (c := 10) (c' := 13) (by kernel_rfl) rfl ?_
  refine Runs_p rfl (Valid.movek (A := Is _) rfl rfl) rfl rfl ?_ -- law.go:118 move
  refine Runs_p rfl (Valid.call rfl (digits_s (pickV a0 1099511627776) (by have := pickV_range a0 1099511627776 (by decide); omega)) ⟨argle rfl, trivial⟩) rfl rfl ?_ -- law.go:118 call
  refine Runs_p rfl (Valid.assignk (A := Sl 1 _ _) rfl rfl) rfl rfl ?_ -- law.go:118 assign
  refine Runs_nil ?_
  refine thenQ_n ?_
  refine W_seq ?_
  refine W_regionE (c := 13) (c' := 16) (by kernel_rfl) rfl ?_
  refine Runs_p rfl (Valid.movek (A := Is _) rfl rfl) rfl rfl ?_ -- law.go:119 move
  refine Runs_p rfl (Valid.call rfl (digits_s (pickV b0 1099511627776) (by have := pickV_range b0 1099511627776 (by decide); omega)) ⟨argle rfl, trivial⟩) rfl rfl ?_ -- law.go:119 call
  refine Runs_p rfl (Valid.assignk (A := Sl 1 _ _) rfl rfl) rfl rfl ?_ -- law.go:119 assign
  refine Runs_nil ?_
  refine thenQ_n ?_
  refine W_seq ?_
  refine W_regionE (c := 16) (c' := 17) (by kernel_rfl) rfl ?_
  refine Runs_p rfl (Valid.assignk (A := Is _) rfl rfl) rfl rfl ?_ -- law.go:120 assign
  refine Runs_nil ?_
  refine thenQ_n ?_
  refine W_seq ?_
  refine W_seq ?_
  refine W_regionE (c := 17) (c' := 20) (by kernel_rfl) rfl ?_
  refine Runs_p rfl (Valid.movek (A := Is _) rfl rfl) rfl rfl ?_ -- law.go:121 move
  refine Runs_p rfl (Valid.add rfl rfl rfl (room64 (by have := pickV_range a0 1099511627776 (by decide); omega) (by have := pickV_range a0 1099511627776 (by decide); omega))) rfl rfl ?_ -- law.go:121 binOp
  refine Runs_p rfl (Valid.assignk (A := Is _) rfl rfl) rfl rfl ?_ -- law.go:121 assign
  refine Runs_nil ?_
  refine thenQ_n ?_
  refine W_block ?_
  refine W_loopx (G := Int × Nat) (fun (g_ : Int × Nat) => match g_ with | ⟨x, k⟩ => 1 ≤ x ∧ x ≤ 1099511627776 ∧ k + (digs (x - 1).toNat).length = (digs (pickV a0 1099511627776).toNat).length) [(5, Is _), (6, Is _), (7, Is _), (8, Sl 1 _ _), (9, Sl 1 _ _)] (fun (g_ : Int × Nat) => match g_ with | ⟨x, k⟩ => [(10, Is (.int .i64 (k : Int))), (11, Is (.int .i64 x))]) [] (fun (g_ : Int × Nat) => match g_ with | ⟨x, k⟩ => []) 20 (fun (g_ : Int × Nat) => match g_ with | ⟨x, k⟩ => x.toNat) (⟨pickV a0 1099511627776 + 1, 0⟩) [] (⟨by have := pickV_range a0 1099511627776 (by decide); omega, by have := pickV_range a0 1099511627776 (by decide); omega, by rw [show pickV a0 1099511627776 + 1 - 1 = pickV a0 1099511627776 by omega]; omega⟩) ⟨⟨(leq_is rfl rfl (by first | rfl | (congr 1; omega))), (leq_is rfl rfl (by first | rfl | (congr 1; omega))), trivial⟩, ⟨(leq_is rfl rfl rfl), (leq_is rfl rfl rfl), (leq_is rfl rfl rfl), (leq_sl (Reads.sl rfl) rfl rfl rfl), (leq_sl (Reads.sl rfl) rfl rfl rfl), trivial⟩, trivial, trivial, rfl, ⟨supg rfl, supg rfl, trivial⟩, ⟨supg rfl, supg rfl, supg rfl, supg rfl, supg rfl, trivial⟩, trivial, trivial, rfl, rfl⟩ ?_
  intro ⟨x, k⟩ hI1
  obtain ⟨hx1, hx2, hk⟩ := hI1
  have ha := pickV_range a0 1099511627776 (by decide)
  have hb := pickV_range b0 1099511627776 (by decide)
  have hla := digs_40 (a := (pickV a0 1099511627776).toNat) (by omega)
  have hlb := digs_40 (a := (pickV b0 1099511627776).toNat) (by omega)
  refine W_seq ?_
  refine W_seq ?_
  refine W_regionE (c := 20) (c' := 22) (by kernel_rfl) rfl ?_
  refine Runs_p rfl (Valid.movek (A := Is _) rfl rfl) rfl rfl ?_ -- law.go:121 move
  refine Runs_p rfl (Valid.gtr rfl rfl rfl) rfl rfl ?_ -- law.go:121 binOp
  refine Runs_nil ?_
  refine thenQ_n ?_
  refine W_cond _ rfl (fun hb1 => ?_) (fun hb1 => ?_)
  · try simp only [decide_eq_true_eq] at hb1
    all_goals (
      refine W_skip ?_
      refine thenQ_n ?_
      refine W_seq ?_
      refine W_block ?_
      refine W_regionE (c := 22) (c' := 25) (by kernel_rfl) rfl ?_
      refine Runs_p rfl (Valid.movek (A := Is _) rfl rfl) rfl rfl ?_ -- law.go:122 move
      refine Runs_p rfl (Valid.add rfl rfl rfl (room64 (by first | omega | (simp only [Int.toNat_natCast, toNat_add, toNat_add1, List.length_append, List.length_cons, List.length_nil, List.length_replicate]; omega)) (by first | omega | (simp only [Int.toNat_natCast, toNat_add, toNat_add1, List.length_append, List.length_cons, List.length_nil, List.length_replicate]; omega)))) rfl rfl ?_ -- law.go:122 binOp
      refine Runs_p rfl (Valid.assignk (A := Is _) rfl rfl) rfl rfl ?_ -- law.go:122 assign
      refine Runs_nil ?_
      refine blockQ_n ?_
      refine thenQ_n ?_
      refine W_regionE (c := 25) (c' := 28) (by kernel_rfl) rfl ?_
      refine Runs_p rfl (Valid.movek (A := Is _) rfl rfl) rfl rfl ?_ -- law.go:121 move
      refine Runs_p rfl (Valid.quo rfl rfl rfl (by have := pickV_range a0 1099511627776 (by decide); omega) (by have := pickV_range a0 1099511627776 (by decide); omega) (room64 (by have := pickV_range a0 1099511627776 (by decide); omega) (by have := pickV_range a0 1099511627776 (by decide); omega))) rfl rfl ?_ -- law.go:121 binOp
      refine Runs_p rfl (Valid.assignk (A := Is _) rfl rfl) rfl rfl ?_ -- law.go:121 assign
      refine Runs_nil ?_
      refine LoopQ.next (⟨x / 2, k + 1⟩) [] (⟨by omega, by omega, by rw [← hk, digs_half (x := x) (by omega)]; omega⟩) (by dsimp only; omega) ⟨⟨(leq_is rfl rfl (by first | rfl | (congr 1; omega))), (leq_is rfl rfl (by first | rfl | (congr 1; omega))), trivial⟩, ⟨(leq_is rfl rfl rfl), (leq_is rfl rfl rfl), (leq_is rfl rfl rfl), (leq_sl (Reads.sl rfl) rfl rfl rfl), (leq_sl (Reads.sl rfl) rfl rfl rfl), trivial⟩, trivial, trivial, rfl, ⟨supg rfl, supg rfl, trivial⟩, ⟨supg rfl, supg rfl, supg rfl, supg rfl, supg rfl, trivial⟩, trivial, trivial, rfl, rfl⟩
      done)
  · try simp only [decide_eq_false_iff_not] at hb1
    all_goals (
      refine W_exit ?_
      refine thenQ_e ?_
      refine loopQ_e ?_
      refine blockQ_x ?_
      refine thenQ_n ?_
      refine W_seq ?_
      refine W_regionE (c := 22) (c' := 63) (by kernel_rfl) rfl ?_
      refine Runs_p rfl (Valid.movek (A := Is _) rfl rfl) rfl rfl ?_ -- law.go:124 move
      refine Runs_p rfl (Valid.movek (A := Is _) rfl rfl) rfl rfl ?_ -- law.go:124 move
      refine Runs_cnd rfl rfl (Grd.is rfl) [] (fun hg => trivial) (fun hg => Valid.movek (A := Sl 1 _ _) rfl rfl) (by rfl) rfl ?_
      refine Runs_cnd rfl rfl (Grd.is rfl) [(31, _)] (fun hg => ⟨cnd_at rfl (by first | exact hg | exact hg.1 | exact hg.1.1 | exact hg.1.1.1), trivial⟩) (fun hg => Valid.len rfl Try.underlying22 (Reads.sl rfl)) (by rfl) rfl ?_
      refine Runs_cnd rfl rfl (Grd.is rfl) [] (fun hg => trivial) (fun hg => Valid.movek (A := Is _) rfl rfl) (by rfl) rfl ?_
      refine Runs_cnd rfl rfl (Grd.is rfl) [(32, _), (33, _)] (fun hg => ⟨cnd_at rfl (by first | exact hg | exact hg.1 | exact hg.1.1 | exact hg.1.1.1), cnd_at rfl (by first | exact hg | exact hg.1 | exact hg.1.1 | exact hg.1.1.1), trivial⟩) (fun hg => Valid.eql rfl rfl rfl) (by rfl) rfl ?_
      refine Runs_p rfl (Valid.pickand rfl rfl rfl (fun h => by first | exact h | exact ⟨hg, h⟩) rfl) rfl rfl ?_ -- law.go:124 pick
      refine Runs_p rfl (Valid.movek (A := Is _) rfl rfl) rfl rfl ?_ -- law.go:124 move
      refine Runs_cnd rfl rfl (Grd.is rfl) [] (fun hg => trivial) (fun hg => Valid.movek (A := Is _) rfl rfl) (by rfl) rfl ?_
      refine Runs_cnd rfl rfl (Grd.is rfl) [] (fun hg => trivial) (fun hg => Valid.movek (A := Is _) rfl rfl) (by rfl) rfl ?_
      refine Runs_cnd rfl rfl (Grd.is rfl) [(37, _), (38, _)] (fun hg => ⟨cnd_at rfl (by first | exact hg | exact hg.1 | exact hg.1.1 | exact hg.1.1.1), cnd_at rfl (by first | exact hg | exact hg.1 | exact hg.1.1 | exact hg.1.1.1), trivial⟩) (fun hg => Valid.gtr rfl rfl rfl) (by rfl) rfl ?_
      refine Runs_cnd rfl rfl (Grd.is rfl) [(39, _)] (fun hg => ⟨cnd_at rfl (by first | exact hg | exact hg.1 | exact hg.1.1 | exact hg.1.1.1), trivial⟩) (fun hg => Valid.movek (A := Is _) rfl rfl) (by rfl) rfl ?_
      refine Runs_cnd rfl rfl (Grd.cnd rfl) [] (fun hg => trivial) (fun hg => Valid.movek (A := Sl 1 _ _) rfl rfl) (by rfl) rfl ?_
      refine Runs_cnd rfl rfl (Grd.cnd rfl) [(41, _)] (fun hg => ⟨cnd_at rfl (by first | exact hg | exact hg.1 | exact hg.1.1 | exact hg.1.1.1), trivial⟩) (fun hg => Valid.len rfl Try.underlying22 (Reads.sl rfl)) (by rfl) rfl ?_
      refine Runs_cnd rfl rfl (Grd.cnd rfl) [] (fun hg => trivial) (fun hg => Valid.movek (A := Sl 1 _ _) rfl rfl) (by rfl) rfl ?_
      refine Runs_cnd rfl rfl (Grd.cnd rfl) [(43, _)] (fun hg => ⟨cnd_at rfl (by first | exact hg | exact hg.1 | exact hg.1.1 | exact hg.1.1.1), trivial⟩) (fun hg => Valid.len rfl Try.underlying22 (Reads.sl rfl)) (by rfl) rfl ?_
      refine Runs_cnd rfl rfl (Grd.cnd rfl) [(42, _), (44, _)] (fun hg => ⟨cnd_at rfl (by first | exact hg | exact hg.1 | exact hg.1.1 | exact hg.1.1.1), cnd_at rfl (by first | exact hg | exact hg.1 | exact hg.1.1 | exact hg.1.1.1), trivial⟩) (fun hg => Valid.leq rfl rfl rfl) (by rfl) rfl ?_
      refine Runs_cnd rfl rfl (Grd.is rfl) [(40, _)] (fun hg => ⟨cnd_at rfl (by first | exact hg | exact hg.1 | exact hg.1.1 | exact hg.1.1.1), trivial⟩) (fun hg => Valid.pickor rfl rfl rfl rfl (fun h => by first | exact h | exact ⟨hg, h⟩)) (by rfl) rfl ?_
      refine Runs_p rfl (Valid.pickand rfl rfl rfl (fun h => by first | exact h | exact ⟨hg, h⟩) rfl) rfl rfl ?_ -- law.go:124 pick
      refine Runs_p rfl (Valid.movek (A := Is _) rfl rfl) rfl rfl ?_ -- law.go:124 move
      refine Runs_cnd rfl rfl (Grd.is rfl) [] (fun hg => trivial) (fun hg => Valid.movek (A := Is _) rfl rfl) (by rfl) rfl ?_
      refine Runs_cnd rfl rfl (Grd.is rfl) [] (fun hg => trivial) (fun hg => Valid.movek (A := Is _) rfl rfl) (by rfl) rfl ?_
      refine Runs_cnd rfl rfl (Grd.is rfl) [(49, _), (50, _)] (fun hg => ⟨cnd_at rfl (by first | exact hg | exact hg.1 | exact hg.1.1 | exact hg.1.1.1), cnd_at rfl (by first | exact hg | exact hg.1 | exact hg.1.1 | exact hg.1.1.1), trivial⟩) (fun hg => Valid.lss rfl rfl rfl) (by rfl) rfl ?_
      refine Runs_cnd rfl rfl (Grd.is rfl) [(51, _)] (fun hg => ⟨cnd_at rfl (by first | exact hg | exact hg.1 | exact hg.1.1 | exact hg.1.1.1), trivial⟩) (fun hg => Valid.movek (A := Is _) rfl rfl) (by rfl) rfl ?_
      refine Runs_cnd rfl rfl (Grd.cnd rfl) [] (fun hg => trivial) (fun hg => Valid.movek (A := Sl 1 _ _) rfl rfl) (by rfl) rfl ?_
      refine Runs_cnd rfl rfl (Grd.cnd rfl) [(53, _)] (fun hg => ⟨cnd_at rfl (by first | exact hg | exact hg.1 | exact hg.1.1 | exact hg.1.1.1), trivial⟩) (fun hg => Valid.len rfl Try.underlying22 (Reads.sl rfl)) (by rfl) rfl ?_
      refine Runs_cnd rfl rfl (Grd.cnd rfl) [] (fun hg => trivial) (fun hg => Valid.movek (A := Sl 1 _ _) rfl rfl) (by rfl) rfl ?_
      refine Runs_cnd rfl rfl (Grd.cnd rfl) [(55, _)] (fun hg => ⟨cnd_at rfl (by first | exact hg | exact hg.1 | exact hg.1.1 | exact hg.1.1.1), trivial⟩) (fun hg => Valid.len rfl Try.underlying22 (Reads.sl rfl)) (by rfl) rfl ?_
      refine Runs_cnd rfl rfl (Grd.cnd rfl) [(54, _), (56, _)] (fun hg => ⟨cnd_at rfl (by first | exact hg | exact hg.1 | exact hg.1.1 | exact hg.1.1.1), cnd_at rfl (by first | exact hg | exact hg.1 | exact hg.1.1 | exact hg.1.1.1), trivial⟩) (fun hg => Valid.geq rfl rfl rfl) (by rfl) rfl ?_
      refine Runs_cnd rfl rfl (Grd.is rfl) [(52, _)] (fun hg => ⟨cnd_at rfl (by first | exact hg | exact hg.1 | exact hg.1.1 | exact hg.1.1.1), trivial⟩) (fun hg => Valid.pickor rfl rfl rfl rfl (fun h => by first | exact h | exact ⟨hg, h⟩)) (by rfl) rfl ?_
      refine Runs_p rfl (Valid.pickand rfl rfl rfl (fun h => by first | exact h | exact ⟨hg, h⟩) rfl) rfl rfl ?_ -- law.go:124 pick
      refine Runs_p rfl (Valid.movek (A := Is _) rfl rfl) rfl rfl ?_ -- law.go:124 move
      refine Runs_cnd rfl rfl (Grd.is rfl) [] (fun hg => trivial) (fun hg => Valid.movek (A := Sl 1 _ _) rfl rfl) (by rfl) rfl ?_
      refine Runs_cnd rfl rfl (Grd.is rfl) [] (fun hg => trivial) (fun hg => Valid.movek (A := Sl 1 _ _) rfl rfl) (by rfl) rfl ?_
      refine Runs_cnd rfl rfl (Grd.is rfl) [(61, _), (62, _)] (fun hg => ⟨cnd_at rfl (by first | exact hg | exact hg.1 | exact hg.1.1 | exact hg.1.1.1), cnd_at rfl (by first | exact hg | exact hg.1 | exact hg.1.1 | exact hg.1.1.1), trivial⟩) (fun hg => Valid.call rfl (ints_s _ _ (by simp only [decide_eq_true_eq, Bool.and_eq_true, Bool.or_eq_true] at hg; omega) (by simp only [decide_eq_true_eq, Bool.and_eq_true, Bool.or_eq_true] at hg; omega)) ⟨argle_sl (Reads.sl rfl), argle_sl (Reads.sl rfl), trivial⟩) (by rfl) rfl ?_
      refine Runs_cnd rfl rfl (Grd.is rfl) [] (fun hg => trivial) (fun hg => Valid.movek (A := Is _) rfl rfl) (by rfl) rfl ?_
      refine Runs_cnd rfl rfl (Grd.is rfl) [] (fun hg => trivial) (fun hg => Valid.movek (A := Is _) rfl rfl) (by rfl) rfl ?_
      refine Runs_cnd rfl rfl (Grd.is rfl) [(64, _), (65, _)] (fun hg => ⟨cnd_at rfl (by first | exact hg | exact hg.1 | exact hg.1.1 | exact hg.1.1.1), cnd_at rfl (by first | exact hg | exact hg.1 | exact hg.1.1 | exact hg.1.1.1), trivial⟩) (fun hg => Valid.eql rfl rfl rfl) (by rfl) rfl ?_
      refine Runs_cnd rfl rfl (Grd.is rfl) [(63, _), (66, _)] (fun hg => ⟨cnd_at rfl (by first | exact hg | exact hg.1 | exact hg.1.1 | exact hg.1.1.1), cnd_at rfl (by first | exact hg | exact hg.1 | exact hg.1.1 | exact hg.1.1.1), trivial⟩) (fun hg => Valid.beql rfl rfl rfl Try.underlying4) (by rfl) rfl ?_
      refine Runs_p rfl (Valid.pickand rfl rfl rfl (fun h => by first | exact h | exact ⟨hg, h⟩) rfl) rfl rfl ?_ -- law.go:124 pick
      refine Runs_p rfl (Valid.assignk (A := Is _) rfl rfl) rfl rfl ?_ -- law.go:124 assign
      refine Runs_nil ?_
      refine thenQ_n ?_
      refine W_ret ?_
      refine finQ_r ?_
      refine ResOk.one rfl (RVal.is rfl rfl (congrArg Value.bool (short_ok _ _ _ ha.1 hb.1 (by rw [show x - 1 = 0 by omega] at hk; simpa [digs_zero] using hk))))
      done)

theorem most_ok (m : List Int) (n : Int) (hneg : m.any (fun x => decide (x < 0)) = false) : ((decV m n).2 = 0 ∧ ∃ o, decR m = some o ∧ (o.length : Int) ≤ n ∧ (decV m n).1 = o) ∨ ((decV m n).2 = 4 ∧ (decV m n).1 = []) := by
  cases hf : fitsO (decR m) n with
  | false => rw [decV_no hneg hf]; exact .inr ⟨rfl, rfl⟩
  | true =>
    obtain ⟨o, h1, h2⟩ := fits_ok hf
    rw [decV_ok hneg h1 h2]
    exact .inl ⟨rfl, o, h1, h2, rfl⟩
theorem most_bad (m : List Int) (n : Int) (hneg : m.any (fun x => decide (x < 0)) = false) (h : ¬ (decV m n).2 = 0) : (decV m n).2 = 4 ∧ (decV m n).1 = [] := by
  rcases most_ok m n hneg with h1 | h1
  · exact absurd h1.1 h
  · exact h1
theorem most_good (m : List Int) (n : Int) (hneg : m.any (fun x => decide (x < 0)) = false) (h : (decV m n).2 = 0) : ∃ o, decR m = some o ∧ (o.length : Int) ≤ n ∧ (decV m n).1 = o := by
  rcases most_ok m n hneg with h1 | h1
  · exact h1.2
  · rw [h1.1] at h; cases h
theorem most_s1 {m o o2 : List Int} {i j : Nat} {want n : Int} (ho1 : decR m = some o) (ho2 : (o.length : Int) ≤ n) (ho3 : decR (m.drop i) = some o2) (ho4 : want + o2.length = o.length) (hw : 0 ≤ want) (hj : runE m j = runE m i) (hj2 : runE m j = j) (hlt : j < m.length) :
    j + 1 ≤ m.length + 1 ∧ 0 ≤ want + (numR ((m.drop i).takeWhile lowP)).1 + 1 ∧ ∃ o o2, decR m = some o ∧ (o.length : Int) ≤ n ∧ decR (m.drop (j + 1)) = some o2 ∧ want + (numR ((m.drop i).takeWhile lowP)).1 + 1 + o2.length = o.length := by
  have hr := numR_range ((m.drop i).takeWhile lowP)
  obtain ⟨_, h | ⟨h1, o4, h2, h3⟩⟩ := dec_at ho3
  · omega
  · rw [← hj, hj2] at h2
    refine ⟨by omega, by omega, o, o4, ho1, ho2, h2, ?_⟩
    rw [h3] at ho4; simp at ho4; omega
theorem most_s2 {m o o2 : List Int} {i j : Nat} {want n : Int} (ho1 : decR m = some o) (ho2 : (o.length : Int) ≤ n) (ho3 : decR (m.drop i) = some o2) (ho4 : want + o2.length = o.length) (hw : 0 ≤ want) (hj : runE m j = runE m i) (hj2 : runE m j = j) (hle : j ≤ m.length) (hlt : ¬ j < m.length) :
    j + 1 ≤ m.length + 1 ∧ 0 ≤ want + (numR ((m.drop i).takeWhile lowP)).1 ∧ ∃ o o2, decR m = some o ∧ (o.length : Int) ≤ n ∧ decR (m.drop (j + 1)) = some o2 ∧ want + (numR ((m.drop i).takeWhile lowP)).1 + o2.length = o.length := by
  have hr := numR_range ((m.drop i).takeWhile lowP)
  obtain ⟨_, ⟨h, h3⟩ | ⟨h1, _⟩⟩ := dec_at ho3
  · refine ⟨by omega, by omega, o, [], ho1, ho2, by rw [List.drop_of_length_le (by omega), decR_nil], ?_⟩
    rw [h3] at ho4; simp at ho4 ⊢; omega
  · omega
theorem most_all {m o o2 : List Int} {i : Nat} {want n k : Int} (hneg : m.any (fun x => decide (x < 0)) = false) (ho1 : decR m = some o) (ho2 : (o.length : Int) ≤ n) (ho3 : decR (m.drop i) = some o2) (ho4 : want + o2.length = o.length) (hk : 0 ≤ k) (hi : m.length ≤ i) :
    ((((true && decide ((decV m (n + k)).2 = 0)) && decide ((decV m n).1 = (decV m (n + k)).1)) && decide (((decV m n).1.length : Int) = want)) && decide (want ≤ n)) = true := by
  rw [List.drop_of_length_le hi, decR_nil] at ho3; cases ho3
  rw [decV_ok hneg ho1 ho2, decV_ok hneg ho1 (by omega)]
  simp at ho4 ⊢; omega
theorem dec_in {m : List Int} {n : Int} : (decV m n).1.length ≤ n.toNat := by
  unfold decV
  split
  · simp
  · split
    · split
      · simp; omega
      · simp
    · simp

set_option maxRecDepth 100000 in
set_option maxHeartbeats 1000000 in
theorem most_s (raw : List Int) (hr : In64 raw) (hl : raw.length ≤ 9223372036854775807) (n0 k0 : Int) (wn0 : -9223372036854775808 ≤ n0 ∧ n0 ≤ 9223372036854775807) (wk0 : -9223372036854775808 ≤ k0 ∧ k0 ≤ 9223372036854775807) :
    FPure Try.prog 8 [Sl 1 raw.length (raw.map (Value.int .i64)), Is (.int .i64 n0), Is (.int .i64 k0)] (Is (.bool true)) := by
  refine FPure.of Try.func8 Try.ntmps8 rfl (by kernel_rfl) rfl rfl rfl ?_
  refine W_seq ?_
  refine W_regionE (c := 1) (c' := 2) (by kernel_rfl) rfl ?_
  refine Runs_p rfl (Valid.assignk (A := Is _) rfl rfl) rfl rfl ?_ -- law.go:128 assign
  refine Runs_nil ?_
  refine thenQ_n ?_
  refine W_seq ?_
  refine W_regionE (c := 2) (c' := 4) (by kernel_rfl) rfl ?_
  refine Runs_p rfl (Valid.call rfl (awake_s) trivial) rfl rfl ?_ -- law.go:129 call
  refine Runs_p rfl (Valid.assignk (A := Is _) rfl rfl) rfl rfl ?_ -- law.go:129 assign
  refine Runs_nil ?_
  refine thenQ_n ?_
  refine W_seq ?_
  refine W_regionE (c := 4) (c' := 7) (by kernel_rfl) rfl ?_
  refine Runs_p rfl (Valid.movek (A := Sl 1 _ _) rfl rfl) rfl rfl ?_ -- law.go:130 move
  refine Runs_p rfl (Valid.call rfl (few_s raw 60 5 hr (by omega) (by decide) (by decide) (by decide)) ⟨argle_sl (Reads.sl rfl), argle rfl, argle rfl, trivial⟩) rfl rfl ?_ -- law.go:130 call
  refine Runs_p rfl (Valid.assignk (A := Sl 1 _ _) rfl rfl) rfl rfl ?_ -- law.go:130 assign
  refine Runs_nil ?_
  refine thenQ_n ?_
  refine W_seq ?_
  refine W_regionE (c := 7) (c' := 10) (by kernel_rfl) rfl ?_
  refine Runs_p rfl (Valid.movek (A := Is _) rfl rfl) rfl rfl ?_ -- law.go:131 move
  refine Runs_p rfl (Valid.call rfl (pick_s _ _ (by omega) (by omega) (by omega) (by omega)) ⟨argle rfl, argle rfl, trivial⟩) rfl rfl ?_ -- law.go:131 call
  refine Runs_p rfl (Valid.assignk (A := Is _) rfl rfl) rfl rfl ?_ -- law.go:131 assign
  refine Runs_nil ?_
  refine thenQ_n ?_
  refine W_seq ?_
  refine W_regionE (c := 10) (c' := 18) (by kernel_rfl) rfl ?_
  refine Runs_p rfl (Valid.movek (A := Sl 1 _ _) rfl rfl) rfl rfl ?_ -- law.go:132 move
  refine Runs_p rfl (Valid.movek (A := Is _) rfl rfl) rfl rfl ?_ -- law.go:132 move
  refine Runs_p rfl (Valid.call rfl (dec_s (fewL raw 60 5) (pickV n0 400) (by have := few_len raw 60 5; omega) (few_in (by decide) (by decide)) (by have := pickV_range n0 400 (by decide); omega) (by have := pickV_range n0 400 (by decide); omega)) ⟨argle_sl (Reads.sl rfl), argle rfl, trivial⟩) rfl rfl ?_ -- law.go:132 call
  refine Runs_p rfl (Valid.movek (A := Tup [Sl 1 _ _, Is _]) rfl rfl) rfl rfl ?_ -- law.go:132 move
  refine Runs_p rfl (Valid.extract _ rfl rfl rfl) rfl rfl ?_ -- law.go:132 extract
  refine Runs_p rfl (Valid.extract _ rfl rfl rfl) rfl rfl ?_ -- law.go:132 extract
  refine Runs_p rfl (Valid.assignk (A := Sl 1 _ _) rfl rfl) rfl rfl ?_ -- law.go:132 assign
  refine Runs_p rfl (Valid.assignk (A := Is _) rfl rfl) rfl rfl ?_ -- law.go:132 assign
  refine Runs_nil ?_
  refine thenQ_n ?_
  refine W_seq ?_
  refine W_regionE (c := 18) (c' := 29) (by kernel_rfl) rfl ?_
  refine Runs_p rfl (Valid.movek (A := Sl 1 _ _) rfl rfl) rfl rfl ?_ -- law.go:133 move
  refine Runs_p rfl (Valid.movek (A := Is _) rfl rfl) rfl rfl ?_ -- law.go:133 move
  refine Runs_p rfl (Valid.movek (A := Is _) rfl rfl) rfl rfl ?_ -- law.go:133 move
  refine Runs_p rfl (Valid.call rfl (pick_s _ _ (by omega) (by omega) (by omega) (by omega)) ⟨argle rfl, argle rfl, trivial⟩) rfl rfl ?_ -- law.go:133 call
  refine Runs_p rfl (Valid.add rfl rfl rfl (room64 (by have := pickV_range n0 400 (by decide); have := pickV_range k0 400 (by decide); omega) (by have := pickV_range n0 400 (by decide); have := pickV_range k0 400 (by decide); omega))) rfl rfl ?_ -- law.go:133 binOp
  refine Runs_p rfl (Valid.call rfl (dec_s (fewL raw 60 5) (pickV n0 400 + pickV k0 400) (by have := few_len raw 60 5; omega) (few_in (by decide) (by decide)) (by have := pickV_range n0 400 (by decide); have := pickV_range k0 400 (by decide); omega) (by have := pickV_range n0 400 (by decide); have := pickV_range k0 400 (by decide); omega)) ⟨argle_sl (Reads.sl rfl), argle rfl, trivial⟩) rfl rfl ?_ -- law.go:133 call
  refine Runs_p rfl (Valid.movek (A := Tup [Sl 1 _ _, Is _]) rfl rfl) rfl rfl ?_ -- law.go:133 move
  refine Runs_p rfl (Valid.extract _ rfl rfl rfl) rfl rfl ?_ -- law.go:133 extract
  refine Runs_p rfl (Valid.extract _ rfl rfl rfl) rfl rfl ?_ -- law.go:133 extract
  refine Runs_p rfl (Valid.assignk (A := Sl 1 _ _) rfl rfl) rfl rfl ?_ -- law.go:133 assign
  refine Runs_p rfl (Valid.assignk (A := Is _) rfl rfl) rfl rfl ?_ -- law.go:133 assign
  refine Runs_nil ?_
  refine thenQ_n ?_
  refine W_seq ?_
  refine W_seq ?_
  refine W_regionE (c := 29) (c' := 31) (by kernel_rfl) rfl ?_
  refine Runs_p rfl (Valid.movek (A := Is _) rfl rfl) rfl rfl ?_ -- law.go:134 move
  refine Runs_p rfl (Valid.neq rfl rfl rfl) rfl rfl ?_ -- law.go:134 binOp
  refine Runs_nil ?_
  refine thenQ_n ?_
  refine W_cond _ rfl (fun hb1 => ?_) (fun hb1 => ?_)
  · try simp only [decide_eq_true_eq, ne_eq] at hb1
    all_goals (
      refine W_seq ?_
      refine W_regionE (c := 31) (c' := 42) (by kernel_rfl) rfl ?_
      refine Runs_p rfl (Valid.movek (A := Is _) rfl rfl) rfl rfl ?_ -- law.go:135 move
      refine Runs_p rfl (Valid.movek (A := Is _) rfl rfl) rfl rfl ?_ -- law.go:135 move
      refine Runs_cnd rfl rfl (Grd.is rfl) [] (fun hg => trivial) (fun hg => Valid.movek (A := Is _) rfl rfl) (by rfl) rfl ?_
      refine Runs_cnd rfl rfl (Grd.is rfl) [(43, _)] (fun hg => ⟨cnd_at rfl (by first | exact hg | exact hg.1 | exact hg.1.1 | exact hg.1.1.1), trivial⟩) (fun hg => Valid.eql rfl rfl rfl) (by rfl) rfl ?_
      refine Runs_p rfl (Valid.pickand rfl rfl rfl (fun h => by first | exact h | exact ⟨hg, h⟩) rfl) rfl rfl ?_ -- law.go:135 pick
      refine Runs_p rfl (Valid.movek (A := Is _) rfl rfl) rfl rfl ?_ -- law.go:135 move
      refine Runs_cnd rfl rfl (Grd.is rfl) [] (fun hg => trivial) (fun hg => Valid.movek (A := Sl 1 _ _) rfl rfl) (by rfl) rfl ?_
      refine Runs_cnd rfl rfl (Grd.is rfl) [(47, _)] (fun hg => ⟨cnd_at rfl (by first | exact hg | exact hg.1 | exact hg.1.1 | exact hg.1.1.1), trivial⟩) (fun hg => Valid.len rfl Try.underlying22 (Reads.sl rfl)) (by rfl) rfl ?_
      refine Runs_cnd rfl rfl (Grd.is rfl) [(48, _)] (fun hg => ⟨cnd_at rfl (by first | exact hg | exact hg.1 | exact hg.1.1 | exact hg.1.1.1), trivial⟩) (fun hg => Valid.eql rfl rfl rfl) (by rfl) rfl ?_
      refine Runs_p rfl (Valid.pickand rfl rfl rfl (fun h => by first | exact h | exact ⟨hg, h⟩) rfl) rfl rfl ?_ -- law.go:135 pick
      refine Runs_p rfl (Valid.assignk (A := Is _) rfl rfl) rfl rfl ?_ -- law.go:135 assign
      refine Runs_nil ?_
      refine thenQ_n ?_
      refine W_ret ?_
      refine thenQ_r ?_
      refine finQ_r ?_
      refine ResOk.one rfl (RVal.is rfl rfl (by first | exact absurd hat.1 (by assumption) | exact congrArg Value.bool (most_all (few_neg (by decide)) ho1 ho2 ho3 ho4 hk0.1 (by omega)) | (obtain ⟨h1, h2⟩ := most_bad (fewL raw 60 5) (pickV n0 400) (few_neg (by decide)) (by assumption); rw [h1, h2]; rfl)))
      done)
  · try simp only [decide_eq_false_iff_not, ne_eq] at hb1
    all_goals (
      refine W_skip ?_
      refine thenQ_n ?_
      refine W_seq ?_
      refine W_regionE (c := 31) (c' := 32) (by kernel_rfl) rfl ?_
      refine Runs_p rfl (Valid.assignk (A := Is _) rfl rfl) rfl rfl ?_ -- law.go:137 assign
      refine Runs_nil ?_
      refine thenQ_n ?_
      refine W_seq ?_
      refine W_seq ?_
      refine W_regionE (c := 32) (c' := 33) (by kernel_rfl) rfl ?_
      refine Runs_p rfl (Valid.assignk (A := Is _) rfl rfl) rfl rfl ?_ -- law.go:138 assign
      refine Runs_nil ?_
      refine thenQ_n ?_
      refine W_block ?_
      refine W_loopx (G := Nat × Int) (fun (g_ : Nat × Int) => match g_ with | ⟨i, want⟩ => i ≤ (fewL raw 60 5).length + 1 ∧ 0 ≤ want ∧ ∃ o o2, decR (fewL raw 60 5) = some o ∧ (o.length : Int) ≤ pickV n0 400 ∧ decR ((fewL raw 60 5).drop i) = some o2 ∧ want + o2.length = o.length) [(7, Is _), (8, Sl 1 _ _), (9, Is _), (10, Sl 1 _ _), (12, Sl 1 _ _), (13, Is _)] (fun (g_ : Nat × Int) => match g_ with | ⟨i, want⟩ => [(14, Is (.int .i64 want)), (15, Is (.int .i64 (i : Int)))]) [] (fun (g_ : Nat × Int) => match g_ with | ⟨i, want⟩ => []) 33 (fun (g_ : Nat × Int) => match g_ with | ⟨i, want⟩ => (fewL raw 60 5).length + 1 - i) (⟨0, 0⟩) [] (⟨by omega, by omega, by obtain ⟨o, h1, h2, _⟩ := most_good (fewL raw 60 5) (pickV n0 400) (few_neg (by decide)) (by omega); exact ⟨o, o, h1, h2, h1, by omega⟩⟩) ⟨⟨(leq_is rfl rfl (by first | rfl | (simp; done) | omega | (simp [toNat_add, toNat_add1, Nat.add_assoc]; done) | (simp [toNat_add, toNat_add1]; omega))), (leq_is rfl rfl (by first | rfl | (simp; done) | omega | (simp [toNat_add, toNat_add1, Nat.add_assoc]; done) | (simp [toNat_add, toNat_add1]; omega))), trivial⟩, ⟨(leq_is rfl rfl rfl), (leq_sl (Reads.sl rfl) rfl rfl rfl), (leq_is rfl rfl rfl), (leq_sl (Reads.sl rfl) rfl rfl rfl), (leq_sl (Reads.sl rfl) rfl rfl rfl), (leq_is rfl rfl rfl), trivial⟩, trivial, trivial, rfl, ⟨supg rfl, supg rfl, trivial⟩, ⟨supg rfl, supg rfl, supg rfl, supg rfl, supg rfl, supg rfl, trivial⟩, trivial, trivial, rfl, rfl⟩ ?_
      intro ⟨i, want⟩ hI1
      obtain ⟨hi1, hw, o, o2, ho1, ho2, ho3, ho4⟩ := hI1
      have hn0 := pickV_range n0 400 (by decide)
      have hk0 := pickV_range k0 400 (by decide)
      have hm0 := few_len raw 60 5
      have hat := dec_at ho3
      have hrn := numR_range (((fewL raw 60 5).drop i).takeWhile lowP)
      have hol : (numR (((fewL raw 60 5).drop i).takeWhile lowP)).1.toNat ≤ o2.length := by rcases hat.2 with ⟨_, e⟩ | ⟨_, o4, _, e⟩ <;> rw [e] <;> simp
      refine W_seq ?_
      refine W_seq ?_
      refine W_regionE (c := 33) (c' := 37) (by kernel_rfl) rfl ?_
      refine Runs_p rfl (Valid.movek (A := Is _) rfl rfl) rfl rfl ?_ -- law.go:138 move
      refine Runs_p rfl (Valid.movek (A := Sl 1 _ _) rfl rfl) rfl rfl ?_ -- law.go:138 move
      refine Runs_p rfl (Valid.len rfl Try.underlying22 (Reads.sl rfl)) rfl rfl ?_ -- law.go:138 call
      refine Runs_p rfl (Valid.lss rfl rfl rfl) rfl rfl ?_ -- law.go:138 binOp
      refine Runs_nil ?_
      refine thenQ_n ?_
      refine W_cond _ rfl (fun hb2 => ?_) (fun hb2 => ?_)
      · try simp only [decide_eq_true_eq] at hb2
        all_goals (
          refine W_skip ?_
          refine thenQ_n ?_
          refine W_block ?_
          refine W_seq ?_
          refine W_regionE (c := 37) (c' := 39) (by kernel_rfl) rfl ?_
          refine Runs_p rfl (Valid.movek (A := Is _) rfl rfl) rfl rfl ?_ -- law.go:139 move
          refine Runs_p rfl (Valid.assignk (A := Is _) rfl rfl) rfl rfl ?_ -- law.go:139 assign
          refine Runs_nil ?_
          refine thenQ_n ?_
          refine W_seq ?_
          refine W_block ?_
          refine W_loopx (G := Nat) (fun (j : Nat) => i ≤ j ∧ j ≤ (fewL raw 60 5).length ∧ runE (fewL raw 60 5) j = runE (fewL raw 60 5) i) [(7, Is _), (8, Sl 1 _ _), (9, Is _), (10, Sl 1 _ _), (12, Sl 1 _ _), (13, Is _), (14, Is _), (15, Is _)] (fun (j : Nat) => [(16, Is (.int .i64 (j : Int)))]) [] (fun (j : Nat) => []) 39 (fun (j : Nat) => (fewL raw 60 5).length - j) (i) [] (⟨by omega, by omega, rfl⟩) ⟨⟨(leq_is rfl rfl (by first | rfl | (simp; done) | omega | (simp [toNat_add, toNat_add1, Nat.add_assoc]; done) | (simp [toNat_add, toNat_add1]; omega))), trivial⟩, ⟨(leq_is rfl rfl rfl), (leq_sl (Reads.sl rfl) rfl rfl rfl), (leq_is rfl rfl rfl), (leq_sl (Reads.sl rfl) rfl rfl rfl), (leq_sl (Reads.sl rfl) rfl rfl rfl), (leq_is rfl rfl rfl), (leq_is rfl rfl rfl), (leq_is rfl rfl rfl), trivial⟩, trivial, trivial, rfl, ⟨supg rfl, trivial⟩, ⟨supg rfl, supg rfl, supg rfl, supg rfl, supg rfl, supg rfl, supg rfl, supg rfl, trivial⟩, trivial, trivial, rfl, rfl⟩ ?_
          intro j hI2
          obtain ⟨hj0, hj1, hj2⟩ := hI2
          refine W_seq ?_
          refine W_seq ?_
          refine W_regionE (c := 39) (c' := 50) (by kernel_rfl) rfl ?_
          refine Runs_p rfl (Valid.movek (A := Is _) rfl rfl) rfl rfl ?_ -- law.go:140 move
          refine Runs_p rfl (Valid.movek (A := Sl 1 _ _) rfl rfl) rfl rfl ?_ -- law.go:140 move
          refine Runs_p rfl (Valid.len rfl Try.underlying22 (Reads.sl rfl)) rfl rfl ?_ -- law.go:140 call
          refine Runs_p rfl (Valid.lss rfl rfl rfl) rfl rfl ?_ -- law.go:140 binOp
          refine Runs_p rfl (Valid.movek (A := Is _) rfl rfl) rfl rfl ?_ -- law.go:140 move
          refine Runs_cnd rfl rfl (Grd.is rfl) [] (fun hg => trivial) (fun hg => Valid.movek (A := Sl 1 _ _) rfl rfl) (by rfl) rfl ?_
          refine Runs_cnd rfl rfl (Grd.is rfl) [] (fun hg => trivial) (fun hg => Valid.movek (A := Is _) rfl rfl) (by rfl) rfl ?_
          refine Runs_cnd rfl rfl (Grd.is rfl) [(61, _), (62, _)] (fun hg => ⟨cnd_at rfl (by first | exact hg | exact hg.1 | exact hg.1.1 | exact hg.1.1.1), cnd_at rfl (by first | exact hg | exact hg.1 | exact hg.1.1 | exact hg.1.1.1), trivial⟩) (fun hg => Valid.eltaddr1 0 rfl Try.underlying22 sz3 (Reads.sl rfl) rfl (by simp only [decide_eq_true_eq] at hg; first | omega | (simp only [Int.toNat_natCast, toNat_add, toNat_add1, List.length_append, List.length_cons, List.length_nil, List.length_replicate]; omega)) (by first | rfl | simp)) (by rfl) rfl ?_
          refine Runs_cnd rfl rfl (Grd.is rfl) [(63, _)] (fun hg => ⟨cnd_at rfl (by first | exact hg | exact hg.1 | exact hg.1.1 | exact hg.1.1.1), trivial⟩) (fun hg => Valid.loadelt rfl ag3 rfl) (by rfl) rfl ?_
          refine Runs_cnd rfl rfl (Grd.is rfl) [(64, _)] (fun hg => ⟨cnd_at rfl (by first | exact hg | exact hg.1 | exact hg.1.1 | exact hg.1.1.1), trivial⟩) (fun hg => Valid.lss rfl rfl rfl) (by rfl) rfl ?_
          refine Runs_p rfl (Valid.pickand rfl rfl rfl (fun h => by first | exact h | exact ⟨hg, h⟩) rfl) rfl rfl ?_ -- law.go:140 pick
          refine Runs_nil ?_
          refine thenQ_n ?_
          refine W_cond _ rfl (fun hb3 => ?_) (fun hb3 => ?_)
          · try simp only [Int.toNat_natCast, decide_eq_true_eq, Bool.and_eq_true] at hb3
            all_goals (
              refine W_skip ?_
              refine thenQ_n ?_
              refine W_block ?_
              refine W_regionE (c := 50) (c' := 53) (by kernel_rfl) rfl ?_
              refine Runs_p rfl (Valid.movek (A := Is _) rfl rfl) rfl rfl ?_ -- law.go:141 move
              refine Runs_p rfl (Valid.add rfl rfl rfl (room64 (by first | omega | (simp only [Int.toNat_natCast, toNat_add, toNat_add1, List.length_append, List.length_cons, List.length_nil, List.length_replicate]; omega)) (by first | omega | (simp only [Int.toNat_natCast, toNat_add, toNat_add1, List.length_append, List.length_cons, List.length_nil, List.length_replicate]; omega)))) rfl rfl ?_ -- law.go:141 binOp
              refine Runs_p rfl (Valid.assignk (A := Is _) rfl rfl) rfl rfl ?_ -- law.go:141 assign
              refine Runs_nil ?_
              refine blockQ_n ?_
              refine LoopQ.next (j + 1) [] (⟨by omega, by omega, by rw [runE_step _ j (by omega) (by omega)]; exact hj2⟩) (by omega) ⟨⟨(leq_is rfl rfl (by first | rfl | (simp; done) | omega | (simp [toNat_add, toNat_add1, Nat.add_assoc]; done) | (simp [toNat_add, toNat_add1]; omega))), trivial⟩, ⟨(leq_is rfl rfl rfl), (leq_sl (Reads.sl rfl) rfl rfl rfl), (leq_is rfl rfl rfl), (leq_sl (Reads.sl rfl) rfl rfl rfl), (leq_sl (Reads.sl rfl) rfl rfl rfl), (leq_is rfl rfl rfl), (leq_is rfl rfl rfl), (leq_is rfl rfl rfl), trivial⟩, trivial, trivial, rfl, ⟨supg rfl, trivial⟩, ⟨supg rfl, supg rfl, supg rfl, supg rfl, supg rfl, supg rfl, supg rfl, supg rfl, trivial⟩, trivial, trivial, rfl, rfl⟩
              done)
          · try simp only [Int.toNat_natCast, decide_eq_false_iff_not, Bool.and_eq_false_iff] at hb3
            all_goals (
              refine W_exit ?_
              refine thenQ_e ?_
              refine loopQ_e ?_
              refine blockQ_x ?_
              refine thenQ_n ?_
              refine W_seq ?_
              refine W_regionE (c := 50) (c' := 60) (by kernel_rfl) rfl ?_
              refine Runs_p rfl (Valid.movek (A := Sl 1 _ _) rfl rfl) rfl rfl ?_ -- law.go:143 move
              refine Runs_p rfl (Valid.movek (A := Is _) rfl rfl) rfl rfl ?_ -- law.go:143 move
              refine Runs_p rfl (Valid.movek (A := Is _) rfl rfl) rfl rfl ?_ -- law.go:143 move
              refine Runs_p rfl (Valid.slice1 rfl Try.underlying22 sz3 (Reads.sl rfl) rfl rfl (by first | omega | (simp only [Int.toNat_natCast, toNat_add, toNat_add1, List.length_append, List.length_cons, List.length_nil, List.length_replicate]; omega))) rfl rfl ?_ -- law.go:143 slice
              refine Runs_p rfl (Valid.call rfl (num_seg (fewL raw 60 5) i _ _ _ rfl (by rw [← hj2, runE_stop (fewL raw 60 5) j (by omega)]) (by omega) rfl (by omega)) ⟨argle_sl (Reads.sl rfl), trivial⟩) rfl rfl ?_ -- law.go:143 call
              refine Runs_p rfl (Valid.movek (A := Tup [Is _, Is _]) rfl rfl) rfl rfl ?_ -- law.go:143 move
              refine Runs_p rfl (Valid.extract _ rfl rfl rfl) rfl rfl ?_ -- law.go:143 extract
              refine Runs_p rfl (Valid.extract _ rfl rfl rfl) rfl rfl ?_ -- law.go:143 extract
              refine Runs_p rfl (Valid.assignk (A := Is _) rfl rfl) rfl rfl ?_ -- law.go:143 assign
              refine Runs_p rfl (Valid.assignk (A := Is _) rfl rfl) rfl rfl ?_ -- law.go:143 assign
              refine Runs_nil ?_
              refine thenQ_n ?_
              refine W_seq ?_
              refine W_seq ?_
              refine W_regionE (c := 60) (c' := 62) (by kernel_rfl) rfl ?_
              refine Runs_p rfl (Valid.movek (A := Is _) rfl rfl) rfl rfl ?_ -- law.go:144 move
              refine Runs_p rfl (Valid.neq rfl rfl rfl) rfl rfl ?_ -- law.go:144 binOp
              refine Runs_nil ?_
              refine thenQ_n ?_
              refine W_cond _ rfl (fun hb4 => ?_) (fun hb4 => ?_)
              · try simp only [decide_eq_true_eq, ne_eq] at hb4
                all_goals (
                  refine W_seq ?_
                  refine W_regionE (c := 62) (c' := 63) (by kernel_rfl) rfl ?_
                  refine Runs_p rfl (Valid.assignk (A := Is _) rfl rfl) rfl rfl ?_ -- law.go:145 assign
                  refine Runs_nil ?_
                  refine thenQ_n ?_
                  refine W_ret ?_
                  refine thenQ_r ?_
                  refine blockQ_r ?_
                  refine loopQ_r ?_
                  refine blockQ_r ?_
                  refine thenQ_r ?_
                  refine finQ_r ?_
                  refine ResOk.one rfl (RVal.is rfl rfl (by first | exact absurd hat.1 (by assumption) | exact congrArg Value.bool (most_all (few_neg (by decide)) ho1 ho2 ho3 ho4 hk0.1 (by omega)) | (obtain ⟨h1, h2⟩ := most_bad (fewL raw 60 5) (pickV n0 400) (few_neg (by decide)) (by assumption); rw [h1, h2]; rfl)))
                  done)
              · try simp only [decide_eq_false_iff_not, ne_eq] at hb4
                all_goals (
                  refine W_skip ?_
                  refine thenQ_n ?_
                  refine W_seq ?_
                  refine W_regionE (c := 62) (c' := 66) (by kernel_rfl) rfl ?_
                  refine Runs_p rfl (Valid.movek (A := Is _) rfl rfl) rfl rfl ?_ -- law.go:147 move
                  refine Runs_p rfl (Valid.movek (A := Is _) rfl rfl) rfl rfl ?_ -- law.go:147 move
                  refine Runs_p rfl (Valid.add rfl rfl rfl (room64 (by first | omega | (simp only [Int.toNat_natCast, toNat_add, toNat_add1, List.length_append, List.length_cons, List.length_nil, List.length_replicate]; omega)) (by first | omega | (simp only [Int.toNat_natCast, toNat_add, toNat_add1, List.length_append, List.length_cons, List.length_nil, List.length_replicate]; omega)))) rfl rfl ?_ -- law.go:147 binOp
                  refine Runs_p rfl (Valid.assignk (A := Is _) rfl rfl) rfl rfl ?_ -- law.go:147 assign
                  refine Runs_nil ?_
                  refine thenQ_n ?_
                  refine W_seq ?_
                  refine W_seq ?_
                  refine W_regionE (c := 66) (c' := 70) (by kernel_rfl) rfl ?_
                  refine Runs_p rfl (Valid.movek (A := Is _) rfl rfl) rfl rfl ?_ -- law.go:148 move
                  refine Runs_p rfl (Valid.movek (A := Sl 1 _ _) rfl rfl) rfl rfl ?_ -- law.go:148 move
                  refine Runs_p rfl (Valid.len rfl Try.underlying22 (Reads.sl rfl)) rfl rfl ?_ -- law.go:148 call
                  refine Runs_p rfl (Valid.lss rfl rfl rfl) rfl rfl ?_ -- law.go:148 binOp
                  refine Runs_nil ?_
                  refine thenQ_n ?_
                  refine W_cond _ rfl (fun hb5 => ?_) (fun hb5 => ?_)
                  · try simp only [decide_eq_true_eq] at hb5
                    all_goals (
                      refine W_regionE (c := 70) (c' := 73) (by kernel_rfl) rfl ?_
                      refine Runs_p rfl (Valid.movek (A := Is _) rfl rfl) rfl rfl ?_ -- law.go:149 move
                      refine Runs_p rfl (Valid.add rfl rfl rfl (room64 (by first | omega | (simp only [Int.toNat_natCast, toNat_add, toNat_add1, List.length_append, List.length_cons, List.length_nil, List.length_replicate]; omega)) (by first | omega | (simp only [Int.toNat_natCast, toNat_add, toNat_add1, List.length_append, List.length_cons, List.length_nil, List.length_replicate]; omega)))) rfl rfl ?_ -- law.go:149 binOp
                      refine Runs_p rfl (Valid.assignk (A := Is _) rfl rfl) rfl rfl ?_ -- law.go:149 assign
                      refine Runs_nil ?_
                      refine thenQ_n ?_
                      refine W_regionE (c := 73) (c' := 76) (by kernel_rfl) rfl ?_
                      refine Runs_p rfl (Valid.movek (A := Is _) rfl rfl) rfl rfl ?_ -- law.go:151 move
                      refine Runs_p rfl (Valid.add rfl rfl rfl (room64 (by first | omega | (simp only [Int.toNat_natCast, toNat_add, toNat_add1, List.length_append, List.length_cons, List.length_nil, List.length_replicate]; omega)) (by first | omega | (simp only [Int.toNat_natCast, toNat_add, toNat_add1, List.length_append, List.length_cons, List.length_nil, List.length_replicate]; omega)))) rfl rfl ?_ -- law.go:151 binOp
                      refine Runs_p rfl (Valid.assignk (A := Is _) rfl rfl) rfl rfl ?_ -- law.go:151 assign
                      refine Runs_nil ?_
                      refine blockQ_n ?_
                      refine LoopQ.next (⟨j + 1, want + (numR (((fewL raw 60 5).drop i).takeWhile lowP)).1 + 1⟩) [] (by first | exact most_s1 ho1 ho2 ho3 ho4 hw hj2 (runE_stop (fewL raw 60 5) j (by omega)) (by omega) | exact most_s2 ho1 ho2 ho3 ho4 hw hj2 (runE_stop (fewL raw 60 5) j (by omega)) (by omega) (by omega)) (by dsimp only; omega) ⟨⟨(leq_is rfl rfl (by first | rfl | (simp; done) | omega | (simp [toNat_add, toNat_add1, Nat.add_assoc]; done) | (simp [toNat_add, toNat_add1]; omega))), (leq_is rfl rfl (by first | rfl | (simp; done) | omega | (simp [toNat_add, toNat_add1, Nat.add_assoc]; done) | (simp [toNat_add, toNat_add1]; omega))), trivial⟩, ⟨(leq_is rfl rfl rfl), (leq_sl (Reads.sl rfl) rfl rfl rfl), (leq_is rfl rfl rfl), (leq_sl (Reads.sl rfl) rfl rfl rfl), (leq_sl (Reads.sl rfl) rfl rfl rfl), (leq_is rfl rfl rfl), trivial⟩, trivial, trivial, rfl, ⟨supg rfl, supg rfl, trivial⟩, ⟨supg rfl, supg rfl, supg rfl, supg rfl, supg rfl, supg rfl, trivial⟩, trivial, trivial, rfl, rfl⟩
                      done)
                  · try simp only [decide_eq_false_iff_not] at hb5
                    all_goals (
                      refine W_skip ?_
                      refine thenQ_n ?_
                      refine W_regionE (c := 70) (c' := 73) (by kernel_rfl) rfl ?_
                      refine Runs_p rfl (Valid.movek (A := Is _) rfl rfl) rfl rfl ?_ -- law.go:151 move
                      refine Runs_p rfl (Valid.add rfl rfl rfl (room64 (by first | omega | (simp only [Int.toNat_natCast, toNat_add, toNat_add1, List.length_append, List.length_cons, List.length_nil, List.length_replicate]; omega)) (by first | omega | (simp only [Int.toNat_natCast, toNat_add, toNat_add1, List.length_append, List.length_cons, List.length_nil, List.length_replicate]; omega)))) rfl rfl ?_ -- law.go:151 binOp
                      refine Runs_p rfl (Valid.assignk (A := Is _) rfl rfl) rfl rfl ?_ -- law.go:151 assign
                      refine Runs_nil ?_
                      refine blockQ_n ?_
                      refine LoopQ.next (⟨j + 1, want + (numR (((fewL raw 60 5).drop i).takeWhile lowP)).1⟩) [] (by first | exact most_s1 ho1 ho2 ho3 ho4 hw hj2 (runE_stop (fewL raw 60 5) j (by omega)) (by omega) | exact most_s2 ho1 ho2 ho3 ho4 hw hj2 (runE_stop (fewL raw 60 5) j (by omega)) (by omega) (by omega)) (by dsimp only; omega) ⟨⟨(leq_is rfl rfl (by first | rfl | (simp; done) | omega | (simp [toNat_add, toNat_add1, Nat.add_assoc]; done) | (simp [toNat_add, toNat_add1]; omega))), (leq_is rfl rfl (by first | rfl | (simp; done) | omega | (simp [toNat_add, toNat_add1, Nat.add_assoc]; done) | (simp [toNat_add, toNat_add1]; omega))), trivial⟩, ⟨(leq_is rfl rfl rfl), (leq_sl (Reads.sl rfl) rfl rfl rfl), (leq_is rfl rfl rfl), (leq_sl (Reads.sl rfl) rfl rfl rfl), (leq_sl (Reads.sl rfl) rfl rfl rfl), (leq_is rfl rfl rfl), trivial⟩, trivial, trivial, rfl, ⟨supg rfl, supg rfl, trivial⟩, ⟨supg rfl, supg rfl, supg rfl, supg rfl, supg rfl, supg rfl, trivial⟩, trivial, trivial, rfl, rfl⟩
                      done)
                  done)
              done)
          done)
      · try simp only [decide_eq_false_iff_not] at hb2
        all_goals (
          refine W_exit ?_
          refine thenQ_e ?_
          refine loopQ_e ?_
          refine blockQ_x ?_
          refine thenQ_n ?_
          refine W_seq ?_
          refine W_regionE (c := 37) (c' := 59) (by kernel_rfl) rfl ?_
          refine Runs_p rfl (Valid.movek (A := Is _) rfl rfl) rfl rfl ?_ -- law.go:153 move
          refine Runs_p rfl (Valid.movek (A := Is _) rfl rfl) rfl rfl ?_ -- law.go:153 move
          refine Runs_cnd rfl rfl (Grd.is rfl) [] (fun hg => trivial) (fun hg => Valid.movek (A := Is _) rfl rfl) (by rfl) rfl ?_
          refine Runs_cnd rfl rfl (Grd.is rfl) [(92, _)] (fun hg => ⟨cnd_at rfl (by first | exact hg | exact hg.1 | exact hg.1.1 | exact hg.1.1.1), trivial⟩) (fun hg => Valid.eql rfl rfl rfl) (by rfl) rfl ?_
          refine Runs_p rfl (Valid.pickand rfl rfl rfl (fun h => by first | exact h | exact ⟨hg, h⟩) rfl) rfl rfl ?_ -- law.go:153 pick
          refine Runs_p rfl (Valid.movek (A := Is _) rfl rfl) rfl rfl ?_ -- law.go:153 move
          refine Runs_cnd rfl rfl (Grd.is rfl) [] (fun hg => trivial) (fun hg => Valid.movek (A := Sl 1 _ _) rfl rfl) (by rfl) rfl ?_
          refine Runs_cnd rfl rfl (Grd.is rfl) [] (fun hg => trivial) (fun hg => Valid.movek (A := Sl 1 _ _) rfl rfl) (by rfl) rfl ?_
          refine Runs_cnd rfl rfl (Grd.is rfl) [(96, _), (97, _)] (fun hg => ⟨cnd_at rfl (by first | exact hg | exact hg.1 | exact hg.1.1 | exact hg.1.1.1), cnd_at rfl (by first | exact hg | exact hg.1 | exact hg.1.1 | exact hg.1.1.1), trivial⟩) (fun hg => Valid.call rfl (ints_s _ _ (by simp only [decide_eq_true_eq, Bool.and_eq_true] at hg; have := dec_in (m := fewL raw 60 5) (n := pickV n0 400); omega) (by simp only [decide_eq_true_eq, Bool.and_eq_true] at hg; have := dec_in (m := fewL raw 60 5) (n := pickV n0 400 + pickV k0 400); omega)) ⟨argle_sl (Reads.sl rfl), argle_sl (Reads.sl rfl), trivial⟩) (by rfl) rfl ?_
          refine Runs_p rfl (Valid.pickand rfl rfl rfl (fun h => by first | exact h | exact ⟨hg, h⟩) rfl) rfl rfl ?_ -- law.go:153 pick
          refine Runs_p rfl (Valid.movek (A := Is _) rfl rfl) rfl rfl ?_ -- law.go:153 move
          refine Runs_cnd rfl rfl (Grd.is rfl) [] (fun hg => trivial) (fun hg => Valid.movek (A := Sl 1 _ _) rfl rfl) (by rfl) rfl ?_
          refine Runs_cnd rfl rfl (Grd.is rfl) [(101, _)] (fun hg => ⟨cnd_at rfl (by first | exact hg | exact hg.1 | exact hg.1.1 | exact hg.1.1.1), trivial⟩) (fun hg => Valid.len rfl Try.underlying22 (Reads.sl rfl)) (by rfl) rfl ?_
          refine Runs_cnd rfl rfl (Grd.is rfl) [] (fun hg => trivial) (fun hg => Valid.movek (A := Is _) rfl rfl) (by rfl) rfl ?_
          refine Runs_cnd rfl rfl (Grd.is rfl) [(102, _), (103, _)] (fun hg => ⟨cnd_at rfl (by first | exact hg | exact hg.1 | exact hg.1.1 | exact hg.1.1.1), cnd_at rfl (by first | exact hg | exact hg.1 | exact hg.1.1 | exact hg.1.1.1), trivial⟩) (fun hg => Valid.eql rfl rfl rfl) (by rfl) rfl ?_
          refine Runs_p rfl (Valid.pickand rfl rfl rfl (fun h => by first | exact h | exact ⟨hg, h⟩) rfl) rfl rfl ?_ -- law.go:153 pick
          refine Runs_p rfl (Valid.movek (A := Is _) rfl rfl) rfl rfl ?_ -- law.go:153 move
          refine Runs_cnd rfl rfl (Grd.is rfl) [] (fun hg => trivial) (fun hg => Valid.movek (A := Is _) rfl rfl) (by rfl) rfl ?_
          refine Runs_cnd rfl rfl (Grd.is rfl) [] (fun hg => trivial) (fun hg => Valid.movek (A := Is _) rfl rfl) (by rfl) rfl ?_
          refine Runs_cnd rfl rfl (Grd.is rfl) [(107, _), (108, _)] (fun hg => ⟨cnd_at rfl (by first | exact hg | exact hg.1 | exact hg.1.1 | exact hg.1.1.1), cnd_at rfl (by first | exact hg | exact hg.1 | exact hg.1.1 | exact hg.1.1.1), trivial⟩) (fun hg => Valid.leq rfl rfl rfl) (by rfl) rfl ?_
          refine Runs_p rfl (Valid.pickand rfl rfl rfl (fun h => by first | exact h | exact ⟨hg, h⟩) rfl) rfl rfl ?_ -- law.go:153 pick
          refine Runs_p rfl (Valid.assignk (A := Is _) rfl rfl) rfl rfl ?_ -- law.go:153 assign
          refine Runs_nil ?_
          refine thenQ_n ?_
          refine W_ret ?_
          refine finQ_r ?_
          refine ResOk.one rfl (RVal.is rfl rfl (by first | exact absurd hat.1 (by assumption) | exact congrArg Value.bool (most_all (few_neg (by decide)) ho1 ho2 ho3 ho4 hk0.1 (by omega)) | (obtain ⟨h1, h2⟩ := most_bad (fewL raw 60 5) (pickV n0 400) (few_neg (by decide)) (by assumption); rw [h1, h2]; rfl)))
          done)
      done)
end Zh
end Go.Proofs.Ytimpmdcebapfiaa
