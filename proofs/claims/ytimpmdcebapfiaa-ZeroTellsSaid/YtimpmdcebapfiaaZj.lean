/-
  WALKS of stage 6: the law that tells.
-/
import Derived.Test.YtimpmdcebapfiaaRows
import Derived.Test.YtimpmdcebapfiaaAbn
import Derived.Test.YtimpmdcebapfiaaZm
import Derived.Test.YtimpmdcebapfiaaZn
import Derived.Test.YtimpmdcebapfiaaZo
import Derived.Test.YtimpmdcebapfiaaZp
import Derived.Test.YtimpmdcebapfiaaZq
import Derived.Test.YtimpmdcebapfiaaZa
import Derived.Test.YtimpmdcebapfiaaZb
import Derived.Test.YtimpmdcebapfiaaZc
import Derived.Test.YtimpmdcebapfiaaZd
import Derived.Test.YtimpmdcebapfiaaZe
import Derived.Test.YtimpmdcebapfiaaZf
import Derived.Test.YtimpmdcebapfiaaZg
import Derived.Test.YtimpmdcebapfiaaZh
namespace Go.Proofs.Ytimpmdcebapfiaa
open Go.RowKit
namespace Zj
open Ab Zm Zn Zo Zp Zq Za Zb Zc Zd Ze Zf Zg Zh
theorem ag22 (w : World) : (isAgg 22).run Try.prog w = .ok false w := by kernel_rfl
theorem ag3 (w : World) : (isAgg 3).run Try.prog w = .ok false w := by kernel_rfl
theorem sz22 (w : World) : (sizeOf 22).run Try.prog w = .ok 1 w := by kernel_rfl
theorem sz3 (w : World) : (sizeOf 3).run Try.prog w = .ok 1 w := by kernel_rfl
theorem ti3 : TI Try.prog 3 1 8 := .mk' (z := (Value.int .i64 0)) (by kernel_rfl) rfl
def minF (x : Int) : Int := min x 1125899906842624
def someL (r : List Int) (k : Nat) : List Int := (r.take k).map minF
def tellX (r1 r2 : List Int) (k : Nat) : Nat → List Int
  | 0 => someL r1 k
  | 1 => fewL r2 60 2
  | _ => fewL r2 60 5
theorem some_snoc {r : List Int} {k : Nat} (h : k < r.length) : (someL r k).map I64 ++ [I64 (min (r.getD (k : Int).toNat 0) 1125899906842624)] = (someL r (k + 1)).map I64 := by
  unfold someL
  rw [take_snoc r k 0 h]; simp [minF]
theorem tell_in {r1 r2 : List Int} {k : Nat} (h : In64 r1) : ∀ j, In64 (tellX r1 r2 k j) := fun j => by
  match j with
  | 0 =>
    intro x hx
    obtain ⟨y, hy, rfl⟩ := List.mem_map.1 hx
    have := h y (List.mem_of_mem_take hy)
    unfold minF; omega
  | 1 => exact few_in (by decide) (by decide)
  | n + 2 => exact few_in (by decide) (by decide)
theorem tell_len {r1 r2 : List Int} {k : Nat} (h : k ≤ 60) : ∀ j, (tellX r1 r2 k j).length ≤ 60 := fun j => by
  match j with
  | 0 => show ((r1.take k).map minF).length ≤ 60; simp; omega
  | 1 => exact few_len r2 60 2
  | n + 2 => exact few_len r2 60 5
theorem enc_small {l : List Int} (h : l.length ≤ 60) : (encV l).1.length ≤ 1000 := by
  unfold encV
  split
  · simp
  · have := enc_0_len l; dsimp only; omega
def mostL (a b : Int) (i : Int) : Int := ([a, b] : List Int).getD i.toNat 0
theorem most_bd {x : Int} (k : Nat) (hx : -9223372036854775808 ≤ x) (hk : k < 2) : -9223372036854775808 ≤ ([min x 100000, pickV x 200] : List Int).getD (k : Int).toNat 0 ∧ ([min x 100000, pickV x 200] : List Int).getD (k : Int).toNat 0 ≤ 100000 := by
  have := pickV_range x 200 (by decide)
  match k, hk with
  | 0, _ => show _ ≤ min x 100000 ∧ min x 100000 ≤ _; omega
  | 1, _ => show _ ≤ pickV x 200 ∧ pickV x 200 ≤ _; omega
theorem dec_small {l : List Int} {m : Int} (h : m ≤ 100000) : (decV l m).1.length ≤ 100000 := by have := dec_in (m := l) (n := m); omega

theorem enc_len6 {r1 r2 : List Int} {q : Nat} {j : Nat} (h : q ≤ 60) : (encV (tellX r1 r2 q j)).1.length ≤ 1000000000000 := by
  have := enc_small (tell_len (r1 := r1) (r2 := r2) h j); omega
theorem dec_len6 {l : List Int} {m : Int} (h : m ≤ 100000) : (decV l m).1.length ≤ 1000000000000 := by have := dec_small (l := l) h; omega

set_option maxRecDepth 100000 in
set_option maxHeartbeats 1000000 in
theorem tells_law (n0 : Int) (wn0 : -9223372036854775808 ≤ n0 ∧ n0 ≤ 9223372036854775807) (r1 : List Int) (h1 : In64 r1) (lr1 : r1.length ≤ 9223372036854775807) (r2 : List Int) (h2 : In64 r2) (lr2 : r2.length ≤ 9223372036854775807) (b0 : Int) (wb0 : -9223372036854775808 ≤ b0 ∧ b0 ≤ 9223372036854775807) :
    FPure Try.prog 3 [Is (.int .i64 n0), Sl 1 r1.length (r1.map (Value.int .i64)), Sl 1 r2.length (r2.map (Value.int .i64)), Is (.int .i64 b0)] (Is (.bool true)) := by
  refine FPure.of Try.func3 Try.ntmps3 rfl (by kernel_rfl) rfl rfl rfl ?_
  refine W_seq ?_
  refine W_regionE (c := 1) (c' := 2) (by kernel_rfl) rfl ?_
  refine Runs_p rfl (Valid.assignk (A := Is _) rfl rfl) rfl rfl ?_ -- law.go:40 assign
  refine Runs_nil ?_
  refine thenQ_n ?_
  refine W_seq ?_
  refine W_regionE (c := 2) (c' := 4) (by kernel_rfl) rfl ?_
  refine Runs_p rfl (Valid.call rfl (awake_s) trivial) rfl rfl ?_ -- law.go:41 call
  refine Runs_p rfl (Valid.assignk (A := Is _) rfl rfl) rfl rfl ?_ -- law.go:41 assign
  refine Runs_nil ?_
  refine thenQ_n ?_
  refine W_seq ?_
  refine W_regionE (c := 4) (c' := 5) (by kernel_rfl) rfl ?_
  refine Runs_p rfl (Valid.assignk (A := Is (.slice none 0 0)) rfl rfl) rfl rfl ?_ -- law.go:42 assign
  refine Runs_nil ?_
  refine thenQ_n ?_
  refine W_seq ?_
  refine W_seq ?_
  refine W_regionE (c := 5) (c' := 6) (by kernel_rfl) rfl ?_
  refine Runs_p rfl (Valid.assignk (A := Is _) rfl rfl) rfl rfl ?_ -- law.go:43 assign
  refine Runs_nil ?_
  refine thenQ_n ?_
  refine W_block ?_
  refine W.ent ?_ (Ent.ownnil 10 3 1 rfl)
  refine W_loopx (G := Nat) (fun (q : Nat) => q ≤ r1.length ∧ q ≤ 60) [(0, Is _), (1, Sl 1 _ _), (2, Sl 1 _ _), (3, Is _), (9, Is _)] (fun (q : Nat) => [(10, Own 48 1 q ((someL r1 q).map I64)), (11, Is (.int .i64 (q : Int)))]) [] (fun (q : Nat) => [(48, .row 3 1 q ((someL r1 q).map I64))]) 7 (fun (q : Nat) => 60 - q) (0) [] (⟨by omega, by omega⟩) ⟨⟨(leq_own rfl rfl rfl (by first | rfl | exact some_snoc (by omega)) (by first | rfl | exact some_snoc (by omega))), (leq_is rfl rfl (by first | rfl | exact some_snoc (by omega))), trivial⟩, ⟨(leq_is rfl rfl rfl), (leq_sl (Reads.sl rfl) rfl rfl rfl), (leq_sl (Reads.sl rfl) rfl rfl rfl), (leq_is rfl rfl rfl), (leq_is rfl rfl rfl), trivial⟩, ⟨hp_row rfl (by first | rfl | exact some_snoc (by omega)) (by first | rfl | exact some_snoc (by omega)), trivial⟩, trivial, rfl, ⟨supg rfl, supg rfl, trivial⟩, ⟨supg rfl, supg rfl, supg rfl, supg rfl, supg rfl, trivial⟩, ⟨suph rfl rfl, trivial⟩, trivial, rfl, rfl⟩ ?_
  intro q hI1
  obtain ⟨hq1, hq2⟩ := hI1
  refine W_seq ?_
  refine W_seq ?_
  refine W_regionE (c := 7) (c' := 15) (by kernel_rfl) rfl ?_
  refine Runs_p rfl (Valid.movek (A := Is _) rfl rfl) rfl rfl ?_ -- law.go:43 move
  refine Runs_p rfl (Valid.movek (A := Sl 1 _ _) rfl rfl) rfl rfl ?_ -- law.go:43 move
  refine Runs_p rfl (Valid.len rfl Try.underlying22 (Reads.sl rfl)) rfl rfl ?_ -- law.go:43 call
  refine Runs_p rfl (Valid.lss rfl rfl rfl) rfl rfl ?_ -- law.go:43 binOp
  refine Runs_p rfl (Valid.movek (A := Is _) rfl rfl) rfl rfl ?_ -- law.go:43 move
  refine Runs_cnd rfl rfl (Grd.is rfl) [] (fun hg => trivial) (fun hg => Valid.movek (A := Is _) rfl rfl) (by rfl) rfl ?_
  refine Runs_cnd rfl rfl (Grd.is rfl) [(34, _)] (fun hg => ⟨cnd_at rfl (by first | exact hg | exact hg.1 | exact hg.1.1 | exact hg.1.1.1), trivial⟩) (fun hg => Valid.lss rfl rfl rfl) (by rfl) rfl ?_
  refine Runs_p rfl (Valid.pickand rfl rfl rfl (fun h => by first | exact h | exact ⟨hg, h⟩) rfl) rfl rfl ?_ -- law.go:43 pick
  refine Runs_nil ?_
  refine thenQ_n ?_
  refine W_cond _ rfl (fun hb1 => ?_) (fun hb1 => ?_)
  · try simp only [decide_eq_true_eq, Bool.and_eq_true] at hb1
    all_goals (
      refine W_skip ?_
      refine thenQ_n ?_
      refine W_seq ?_
      refine W_block ?_
      refine W_regionE (c := 15) (c' := 24) (by kernel_rfl) rfl ?_
      refine Runs_p rfl (Valid.movek (A := Own 48 1 _ _) rfl rfl) rfl rfl ?_ -- law.go:44 move
      refine Runs_p rfl (Valid.movek (A := Sl 1 _ _) rfl rfl) rfl rfl ?_ -- law.go:44 move
      refine Runs_p rfl (Valid.movek (A := Is _) rfl rfl) rfl rfl ?_ -- law.go:44 move
      refine Runs_p rfl (Valid.eltaddr1 0 rfl Try.underlying22 sz3 (Reads.sl rfl) rfl (by first | omega | (simp only [Int.toNat_natCast, toNat_add, toNat_add1, List.length_append, List.length_cons, List.length_nil, List.length_replicate]; omega)) (by first | rfl | simp)) rfl rfl ?_ -- law.go:44 indexAddr
      refine Runs_p rfl (Valid.loadelt rfl ag3 rfl) rfl rfl ?_ -- law.go:44 load
      refine Runs_p rfl (Valid.min rfl rfl rfl) rfl rfl ?_ -- law.go:44 call
      refine Runs_p rfl (Valid.lit (el := 3) [_] rfl rfl (fun _ => by kernel_rfl) rfl (by decide)) rfl rfl ?_ -- law.go:44 buildSlice
      refine Runs_w rfl (Valid.app rfl Try.underlying22 ti3 (by decide) rfl rfl (Reads.sl rfl) (by first | exact one_map (fun _ => rfl) | exact one_cons rfl one_nil | exact one_app (one_map (fun _ => rfl)) (one_cons rfl one_nil) | exact one_app (one_map (fun _ => rfl)) (one_map (fun _ => rfl)) | exact one_rep rfl | exact one_app (one_rep rfl) (one_map (fun _ => rfl)) | (intro u hu; simp at hu; rcases hu with rfl | hu <;> first | rfl | (subst hu; rfl))) (by first | (simp only [maxLen]; omega) | (simp only [maxLen, Int.toNat_natCast, toNat_add, toNat_add1, List.length_append, List.length_cons, List.length_nil, List.length_replicate]; omega)) (by first | omega | (simp only [Int.toNat_natCast, toNat_add, toNat_add1, List.length_append, List.length_cons, List.length_nil, List.length_replicate]; omega))) rfl rfl ?_ -- law.go:44 call
      refine Runs_p rfl (Valid.assignk (A := Own 176 1 _ _) rfl rfl) rfl rfl ?_ -- law.go:44 assign
      refine Runs_nil ?_
      refine blockQ_n ?_
      refine thenQ_n ?_
      refine W_regionE (c := 24) (c' := 27) (by kernel_rfl) rfl ?_
      refine Runs_p rfl (Valid.movek (A := Is _) rfl rfl) rfl rfl ?_ -- law.go:43 move
      refine Runs_p rfl (Valid.add rfl rfl rfl (room64 (by first | omega | (simp only [Int.toNat_natCast, toNat_add, toNat_add1, List.length_append, List.length_cons, List.length_nil, List.length_replicate]; omega)) (by first | omega | (simp only [Int.toNat_natCast, toNat_add, toNat_add1, List.length_append, List.length_cons, List.length_nil, List.length_replicate]; omega)))) rfl rfl ?_ -- law.go:43 binOp
      refine Runs_p rfl (Valid.assignk (A := Is _) rfl rfl) rfl rfl ?_ -- law.go:43 assign
      refine Runs_nil ?_
      refine LoopQ.next (q + 1) [(48, 176)] (⟨by omega, by omega⟩) (by omega) ⟨⟨(leq_own rfl rfl rfl (by first | rfl | exact some_snoc (by omega)) (by first | rfl | exact some_snoc (by omega))), (leq_is rfl rfl (by first | rfl | exact some_snoc (by omega))), trivial⟩, ⟨(leq_is rfl rfl rfl), (leq_sl (Reads.sl rfl) rfl rfl rfl), (leq_sl (Reads.sl rfl) rfl rfl rfl), (leq_is rfl rfl rfl), (leq_is rfl rfl rfl), trivial⟩, ⟨hp_row rfl (by first | rfl | exact some_snoc (by omega)) (by first | rfl | exact some_snoc (by omega)), trivial⟩, trivial, rfl, ⟨supg rfl, supg rfl, trivial⟩, ⟨supg rfl, supg rfl, supg rfl, supg rfl, supg rfl, trivial⟩, ⟨suph rfl rfl, trivial⟩, trivial, rfl, rfl⟩
      done)
  · try simp only [decide_eq_false_iff_not, Bool.and_eq_false_iff] at hb1
    all_goals (
      refine W_exit ?_
      refine thenQ_e ?_
      refine loopQ_e ?_
      refine blockQ_x ?_
      refine thenQ_n ?_
      refine W_seq ?_
      refine W_seq ?_
      refine W_regionE (c := 15) (c' := 23) (by kernel_rfl) rfl ?_
      refine Runs_p rfl (Valid.movek (A := Is _) rfl rfl) rfl rfl ?_ -- law.go:46 move
      refine Runs_p rfl (Valid.min rfl rfl rfl) rfl rfl ?_ -- law.go:46 call
      refine Runs_p rfl (Valid.call rfl (digits_s _ (by omega)) ⟨argle rfl, trivial⟩) rfl rfl ?_ -- law.go:46 call
      refine Runs_p rfl (Valid.movek (A := Is _) rfl rfl) rfl rfl ?_ -- law.go:46 move
      refine Runs_p rfl (Valid.min rfl rfl rfl) rfl rfl ?_ -- law.go:46 call
      refine Runs_p rfl (Valid.call rfl (digitsr_s _ (by omega)) ⟨argle rfl, trivial⟩) rfl rfl ?_ -- law.go:46 call
      refine Runs_p rfl (Valid.call rfl (ints_s _ _ (by have := digs_len (min n0 1125899906842624) (by omega); omega) (by have := digs_len (min n0 1125899906842624) (by omega); omega)) ⟨argle_sl (Reads.sl rfl), argle_sl (Reads.sl rfl), trivial⟩) rfl rfl ?_ -- law.go:46 call
      refine Runs_p rfl (Valid.not rfl rfl) rfl rfl ?_ -- law.go:46 unOp
      refine Runs_nil ?_
      refine thenQ_n ?_
      refine W_cond _ rfl (fun hb2 => ?_) (fun hb2 => ?_)
      · try simp only [decide_eq_false_iff_not, Bool.not_eq_true', not_true_eq_false] at hb2
        all_goals (
          refine W_seq ?_
          refine W_regionE (c := 23) (c' := 24) (by kernel_rfl) rfl ?_
          refine Runs_p rfl (Valid.assignk (A := Is _) rfl rfl) rfl rfl ?_ -- law.go:47 assign
          refine Runs_nil ?_
          refine thenQ_n ?_
          refine W_ret ?_
          refine thenQ_r ?_
          refine finQ_r ?_
          refine ResOk.one rfl (RVal.is rfl rfl (by first | rfl | (exfalso; omega) | (exfalso; simp at *; done)))
          done)
      · try simp only [decide_eq_true_eq, Bool.not_eq_false'] at hb2
        all_goals (
          refine W_skip ?_
          refine thenQ_n ?_
          refine W_seq ?_
          refine W_seq ?_
          refine W_regionE (c := 23) (c' := 31) (by kernel_rfl) rfl ?_
          refine Runs_p rfl (Valid.movek (A := Own 48 1 _ _) rfl rfl) rfl rfl ?_ -- law.go:49 move
          refine Runs_p rfl (Valid.movek (A := Sl 1 _ _) rfl rfl) rfl rfl ?_ -- law.go:49 move
          refine Runs_p rfl (Valid.call rfl (few_s r2 60 2 h2 (by omega) (by decide) (by decide) (by decide)) ⟨argle_sl (Reads.sl rfl), argle rfl, argle rfl, trivial⟩) rfl rfl ?_ -- law.go:49 call
          refine Runs_p rfl (Valid.movek (A := Sl 1 _ _) rfl rfl) rfl rfl ?_ -- law.go:49 move
          refine Runs_p rfl (Valid.call rfl (few_s r2 60 5 h2 (by omega) (by decide) (by decide) (by decide)) ⟨argle_sl (Reads.sl rfl), argle rfl, argle rfl, trivial⟩) rfl rfl ?_ -- law.go:49 call
          refine Runs_p rfl (Valid.litS3 (el := 22) (tellX r1 r2 q) rfl (Reads.own rfl) (Reads.sl rfl) (Reads.sl rfl) (by first | rfl | simp [tellX, someL]; done | (simp [tellX, someL]; omega)) (by first | rfl | simp [tellX, someL]; done | (simp [tellX, someL]; omega)) (by first | rfl | simp [tellX, someL]; done | (simp [tellX, someL]; omega)) (by first | rfl | simp [tellX, someL]; done | (simp [tellX, someL]; omega)) (by first | rfl | simp [tellX, someL]; done | (simp [tellX, someL]; omega)) (by first | rfl | simp [tellX, someL]; done | (simp [tellX, someL]; omega)) (fun _ _ _ _ _ _ _ _ _ _ => by kernel_rfl)) rfl rfl ?_ -- law.go:49 buildSlice
          refine Runs_p rfl (Valid.lenS rfl Try.underlying27 rfl) rfl rfl ?_ -- law.go:49 call
          refine Runs_p rfl (Valid.movek (A := Is _) rfl rfl) rfl rfl ?_ -- law.go:49 move
          refine Runs_nil ?_
          refine thenQ_n ?_
          refine W_block ?_
          refine W_loopx (G := Nat) (fun (k : Nat) => k ≤ 3) [(3, Is _), (9, Is _), (60, SlS 3 _), (61, Is _)] (fun (k : Nat) => [(62, Is (.int .i64 (k : Int)))]) [] (fun (k : Nat) => []) 31 (fun (k : Nat) => 3 - k) (0) [] (by first | trivial | omega | (simp; omega)) ⟨⟨(leq_is rfl rfl (by first | rfl | (simp; done) | omega | (simp [toNat_add, toNat_add1, Nat.add_assoc]; done) | (simp [toNat_add, toNat_add1]; omega))), trivial⟩, ⟨(leq_is rfl rfl rfl), (leq_is rfl rfl rfl), (leq_sls rfl rfl), (leq_is rfl rfl rfl), trivial⟩, trivial, trivial, rfl, ⟨supg rfl, trivial⟩, ⟨supg rfl, supg rfl, supg rfl, supg rfl, trivial⟩, trivial, trivial, rfl, rfl⟩ ?_
          intro k hI2
          refine W_seq ?_
          refine W_regionE (c := 31) (c' := 32) (by kernel_rfl) rfl ?_
          refine Runs_p rfl (Valid.lss rfl rfl rfl) rfl rfl ?_ -- law.go:49 binOp
          refine Runs_nil ?_
          refine thenQ_n ?_
          refine W_seq ?_
          refine W_cond _ rfl (fun hb3 => ?_) (fun hb3 => ?_)
          · try simp only [decide_eq_true_eq] at hb3
            all_goals (
              refine W_skip ?_
              refine thenQ_n ?_
              refine W_seq ?_
              refine W_block ?_
              refine W_seq ?_
              refine W_regionE (c := 32) (c' := 35) (by kernel_rfl) rfl ?_
              refine Runs_p rfl (Valid.eltS rfl Try.underlying27 sz22 rfl rfl (by first | omega | (simp only [Int.toNat_natCast, toNat_add, toNat_add1, List.length_append, List.length_cons, List.length_nil, List.length_replicate]; omega))) rfl rfl ?_ -- law.go:49 indexAddr
              refine Runs_p rfl (Valid.loadS rfl ag22 rfl) rfl rfl ?_ -- law.go:49 load
              refine Runs_p rfl (Valid.assignk (A := Sl 1 _ _) rfl rfl) rfl rfl ?_ -- law.go:49 assign
              refine Runs_nil ?_
              refine thenQ_n ?_
              refine W_seq ?_
              refine W_regionE (c := 35) (c' := 42) (by kernel_rfl) rfl ?_
              refine Runs_p rfl (Valid.movek (A := Sl 1 _ _) rfl rfl) rfl rfl ?_ -- law.go:50 move
              refine Runs_p rfl (Valid.call rfl (enc_s (tellX r1 r2 q ((k : Int)).toNat) (by have := tell_len (r1 := r1) (r2 := r2) hq2 (k : Int).toNat; omega)) ⟨argle_sl (Reads.sl rfl), trivial⟩) rfl rfl ?_ -- law.go:50 call
              refine Runs_p rfl (Valid.movek (A := Tup [Sl 1 _ _, Is _]) rfl rfl) rfl rfl ?_ -- law.go:50 move
              refine Runs_p rfl (Valid.extract _ rfl rfl rfl) rfl rfl ?_ -- law.go:50 extract
              refine Runs_p rfl (Valid.extract _ rfl rfl rfl) rfl rfl ?_ -- law.go:50 extract
              refine Runs_p rfl (Valid.assignk (A := Sl 1 _ _) rfl rfl) rfl rfl ?_ -- law.go:50 assign
              refine Runs_p rfl (Valid.assignk (A := Is _) rfl rfl) rfl rfl ?_ -- law.go:50 assign
              refine Runs_nil ?_
              refine thenQ_n ?_
              refine W_seq ?_
              refine W_regionE (c := 42) (c' := 49) (by kernel_rfl) rfl ?_
              refine Runs_p rfl (Valid.movek (A := Sl 1 _ _) rfl rfl) rfl rfl ?_ -- law.go:51 move
              refine Runs_p rfl (Valid.call rfl (encr_s (tellX r1 r2 q ((k : Int)).toNat) (by have := tell_len (r1 := r1) (r2 := r2) hq2 (k : Int).toNat; omega)) ⟨argle_sl (Reads.sl rfl), trivial⟩) rfl rfl ?_ -- law.go:51 call
              refine Runs_p rfl (Valid.movek (A := Tup [Sl 1 _ _, Is _]) rfl rfl) rfl rfl ?_ -- law.go:51 move
              refine Runs_p rfl (Valid.extract _ rfl rfl rfl) rfl rfl ?_ -- law.go:51 extract
              refine Runs_p rfl (Valid.extract _ rfl rfl rfl) rfl rfl ?_ -- law.go:51 extract
              refine Runs_p rfl (Valid.assignk (A := Sl 1 _ _) rfl rfl) rfl rfl ?_ -- law.go:51 assign
              refine Runs_p rfl (Valid.assignk (A := Is _) rfl rfl) rfl rfl ?_ -- law.go:51 assign
              refine Runs_nil ?_
              refine thenQ_n ?_
              refine W_seq ?_
              refine W_regionE (c := 49) (c' := 56) (by kernel_rfl) rfl ?_
              refine Runs_p rfl (Valid.movek (A := Sl 1 _ _) rfl rfl) rfl rfl ?_ -- law.go:52 move
              refine Runs_p rfl (Valid.call rfl (num_s (tellX r1 r2 q ((k : Int)).toNat) (by have := tell_len (r1 := r1) (r2 := r2) hq2 (k : Int).toNat; omega)) ⟨argle_sl (Reads.sl rfl), trivial⟩) rfl rfl ?_ -- law.go:52 call
              refine Runs_p rfl (Valid.movek (A := Tup [Is _, Is _]) rfl rfl) rfl rfl ?_ -- law.go:52 move
              refine Runs_p rfl (Valid.extract _ rfl rfl rfl) rfl rfl ?_ -- law.go:52 extract
              refine Runs_p rfl (Valid.extract _ rfl rfl rfl) rfl rfl ?_ -- law.go:52 extract
              refine Runs_p rfl (Valid.assignk (A := Is _) rfl rfl) rfl rfl ?_ -- law.go:52 assign
              refine Runs_p rfl (Valid.assignk (A := Is _) rfl rfl) rfl rfl ?_ -- law.go:52 assign
              refine Runs_nil ?_
              refine thenQ_n ?_
              refine W_seq ?_
              refine W_regionE (c := 56) (c' := 63) (by kernel_rfl) rfl ?_
              refine Runs_p rfl (Valid.movek (A := Sl 1 _ _) rfl rfl) rfl rfl ?_ -- law.go:53 move
              refine Runs_p rfl (Valid.call rfl (numr_s (tellX r1 r2 q ((k : Int)).toNat) (by have := tell_len (r1 := r1) (r2 := r2) hq2 (k : Int).toNat; omega)) ⟨argle_sl (Reads.sl rfl), trivial⟩) rfl rfl ?_ -- law.go:53 call
              refine Runs_p rfl (Valid.movek (A := Tup [Is _, Is _]) rfl rfl) rfl rfl ?_ -- law.go:53 move
              refine Runs_p rfl (Valid.extract _ rfl rfl rfl) rfl rfl ?_ -- law.go:53 extract
              refine Runs_p rfl (Valid.extract _ rfl rfl rfl) rfl rfl ?_ -- law.go:53 extract
              refine Runs_p rfl (Valid.assignk (A := Is _) rfl rfl) rfl rfl ?_ -- law.go:53 assign
              refine Runs_p rfl (Valid.assignk (A := Is _) rfl rfl) rfl rfl ?_ -- law.go:53 assign
              refine Runs_nil ?_
              refine thenQ_n ?_
              refine W_seq ?_
              refine W_seq ?_
              refine W_regionE (c := 63) (c' := 82) (by kernel_rfl) rfl ?_
              refine Runs_p rfl (Valid.movek (A := Is _) rfl rfl) rfl rfl ?_ -- law.go:54 move
              refine Runs_p rfl (Valid.movek (A := Is _) rfl rfl) rfl rfl ?_ -- law.go:54 move
              refine Runs_p rfl (Valid.neq rfl rfl rfl) rfl rfl ?_ -- law.go:54 binOp
              refine Runs_p rfl (Valid.movek (A := Is _) rfl rfl) rfl rfl ?_ -- law.go:54 move
              refine Runs_cnd rfl rfl (Grd.is rfl) [] (fun hg => trivial) (fun hg => Valid.movek (A := Sl 1 _ _) rfl rfl) (by rfl) rfl ?_
              refine Runs_cnd rfl rfl (Grd.is rfl) [] (fun hg => trivial) (fun hg => Valid.movek (A := Sl 1 _ _) rfl rfl) (by rfl) rfl ?_
              refine Runs_cnd rfl rfl (Grd.is rfl) [(90, _), (91, _)] (fun hg => ⟨cnd_at rfl (by first | exact hg | exact hg.1 | exact hg.1.1 | exact hg.1.1.1), cnd_at rfl (by first | exact hg | exact hg.1 | exact hg.1.1 | exact hg.1.1.1), trivial⟩) (fun hg => Valid.call rfl (ints_s _ _ (enc_len6 hq2) (enc_len6 hq2)) ⟨argle_sl (Reads.sl rfl), argle_sl (Reads.sl rfl), trivial⟩) (by rfl) rfl ?_
              refine Runs_cnd rfl rfl (Grd.is rfl) [(92, _)] (fun hg => ⟨cnd_at rfl (by first | exact hg | exact hg.1 | exact hg.1.1 | exact hg.1.1.1), trivial⟩) (fun hg => Valid.not rfl rfl) (by rfl) rfl ?_
              refine Runs_p rfl (Valid.pickor rfl rfl rfl rfl (fun h => by first | exact h | exact ⟨hg, h⟩)) rfl rfl ?_ -- law.go:54 pick
              refine Runs_p rfl (Valid.movek (A := Is _) rfl rfl) rfl rfl ?_ -- law.go:54 move
              refine Runs_cnd rfl rfl (Grd.is rfl) [] (fun hg => trivial) (fun hg => Valid.movek (A := Is _) rfl rfl) (by rfl) rfl ?_
              refine Runs_cnd rfl rfl (Grd.is rfl) [] (fun hg => trivial) (fun hg => Valid.movek (A := Is _) rfl rfl) (by rfl) rfl ?_
              refine Runs_cnd rfl rfl (Grd.is rfl) [(96, _), (97, _)] (fun hg => ⟨cnd_at rfl (by first | exact hg | exact hg.1 | exact hg.1.1 | exact hg.1.1.1), cnd_at rfl (by first | exact hg | exact hg.1 | exact hg.1.1 | exact hg.1.1.1), trivial⟩) (fun hg => Valid.neq rfl rfl rfl) (by rfl) rfl ?_
              refine Runs_p rfl (Valid.pickor rfl rfl rfl rfl (fun h => by first | exact h | exact ⟨hg, h⟩)) rfl rfl ?_ -- law.go:54 pick
              refine Runs_p rfl (Valid.movek (A := Is _) rfl rfl) rfl rfl ?_ -- law.go:54 move
              refine Runs_cnd rfl rfl (Grd.is rfl) [] (fun hg => trivial) (fun hg => Valid.movek (A := Is _) rfl rfl) (by rfl) rfl ?_
              refine Runs_cnd rfl rfl (Grd.is rfl) [] (fun hg => trivial) (fun hg => Valid.movek (A := Is _) rfl rfl) (by rfl) rfl ?_
              refine Runs_cnd rfl rfl (Grd.is rfl) [(101, _), (102, _)] (fun hg => ⟨cnd_at rfl (by first | exact hg | exact hg.1 | exact hg.1.1 | exact hg.1.1.1), cnd_at rfl (by first | exact hg | exact hg.1 | exact hg.1.1 | exact hg.1.1.1), trivial⟩) (fun hg => Valid.neq rfl rfl rfl) (by rfl) rfl ?_
              refine Runs_p rfl (Valid.pickor rfl rfl rfl rfl (fun h => by first | exact h | exact ⟨hg, h⟩)) rfl rfl ?_ -- law.go:54 pick
              refine Runs_nil ?_
              refine thenQ_n ?_
              refine W_cond _ rfl (fun hb4 => ?_) (fun hb4 => ?_)
              · try simp only [Int.toNat_natCast, decide_eq_true_eq, decide_eq_false_iff_not, Bool.or_eq_true, Bool.not_eq_true', not_true_eq_false, ne_eq] at hb4
                all_goals (
                  refine W_seq ?_
                  refine W_regionE (c := 82) (c' := 83) (by kernel_rfl) rfl ?_
                  refine Runs_p rfl (Valid.assignk (A := Is _) rfl rfl) rfl rfl ?_ -- law.go:55 assign
                  refine Runs_nil ?_
                  refine thenQ_n ?_
                  refine W_ret ?_
                  refine thenQ_r ?_
                  refine blockQ_r ?_
                  refine thenQ_r ?_
                  refine loopQ_r ?_
                  refine blockQ_r ?_
                  refine thenQ_r ?_
                  refine finQ_r ?_
                  refine ResOk.one rfl (RVal.is rfl rfl (by first | rfl | (exfalso; omega) | (exfalso; simp at *; done)))
                  done)
              · try simp only [Int.toNat_natCast, decide_eq_true_eq, decide_eq_false_iff_not, Bool.or_eq_false_iff, Bool.not_eq_false', not_true_eq_false, not_false_eq_true, ne_eq] at hb4
                all_goals (
                  refine W_skip ?_
                  refine thenQ_n ?_
                  refine W_seq ?_
                  refine W_regionE (c := 82) (c' := 89) (by kernel_rfl) rfl ?_
                  refine Runs_p rfl (Valid.movek (A := Is _) rfl rfl) rfl rfl ?_ -- law.go:57 move
                  refine Runs_p rfl (Valid.min rfl rfl rfl) rfl rfl ?_ -- law.go:57 call
                  refine Runs_p rfl (Valid.movek (A := Is _) rfl rfl) rfl rfl ?_ -- law.go:57 move
                  refine Runs_p rfl (Valid.call rfl (pick_s b0 200 (by omega) (by omega) (by decide) (by decide)) ⟨argle rfl, argle rfl, trivial⟩) rfl rfl ?_ -- law.go:57 call
                  refine Runs_p rfl (Valid.lit (el := 3) [_, _] rfl rfl (fun _ => by kernel_rfl) rfl (by decide)) rfl rfl ?_ -- law.go:57 buildSlice
                  refine Runs_p rfl (Valid.len rfl Try.underlying22 (Reads.sl rfl)) rfl rfl ?_ -- law.go:57 call
                  refine Runs_p rfl (Valid.movek (A := Is _) rfl rfl) rfl rfl ?_ -- law.go:57 move
                  refine Runs_nil ?_
                  refine thenQ_n ?_
                  refine W_block ?_
                  refine W_loopx (G := Nat) (fun (j : Nat) => j ≤ 2) [(3, Is _), (9, Is _), (13, Sl 1 _ _), (60, SlS 3 _), (61, Is _), (62, Is _), (109, Sl 1 2 (([min b0 100000, pickV b0 200] : List Int).map I64)), (110, Is _)] (fun (j : Nat) => [(111, Is (.int .i64 (j : Int)))]) [] (fun (j : Nat) => []) 89 (fun (j : Nat) => 2 - j) (0) [] (by first | trivial | omega | (simp; omega)) ⟨⟨(leq_is rfl rfl (by first | rfl | (simp; done) | omega | (simp [toNat_add, toNat_add1, Nat.add_assoc]; done) | (simp [toNat_add, toNat_add1]; omega))), trivial⟩, ⟨(leq_is rfl rfl rfl), (leq_is rfl rfl rfl), (leq_sl (Reads.sl rfl) rfl rfl rfl), (leq_sls rfl rfl), (leq_is rfl rfl rfl), (leq_is rfl rfl rfl), (leq_sl (Reads.sl rfl) rfl rfl rfl), (leq_is rfl rfl rfl), trivial⟩, trivial, trivial, rfl, ⟨supg rfl, trivial⟩, ⟨supg rfl, supg rfl, supg rfl, supg rfl, supg rfl, supg rfl, supg rfl, supg rfl, trivial⟩, trivial, trivial, rfl, rfl⟩ ?_
                  intro j hI3
                  refine W_seq ?_
                  refine W_regionE (c := 89) (c' := 90) (by kernel_rfl) rfl ?_
                  refine Runs_p rfl (Valid.lss rfl rfl rfl) rfl rfl ?_ -- law.go:57 binOp
                  refine Runs_nil ?_
                  refine thenQ_n ?_
                  refine W_seq ?_
                  refine W_cond _ rfl (fun hb5 => ?_) (fun hb5 => ?_)
                  · try simp only [decide_eq_true_eq] at hb5
                    all_goals (
                      refine W_skip ?_
                      refine thenQ_n ?_
                      refine W_seq ?_
                      refine W_block ?_
                      refine W_seq ?_
                      refine W_regionE (c := 90) (c' := 93) (by kernel_rfl) rfl ?_
                      refine Runs_p rfl (Valid.eltaddr1 0 rfl Try.underlying22 sz3 (Reads.sl rfl) rfl (by first | omega | (simp only [Int.toNat_natCast, toNat_add, toNat_add1, List.length_append, List.length_cons, List.length_nil, List.length_replicate]; omega)) (by first | rfl | simp)) rfl rfl ?_ -- law.go:57 indexAddr
                      refine Runs_p rfl (Valid.loadelt rfl ag3 rfl) rfl rfl ?_ -- law.go:57 load
                      refine Runs_p rfl (Valid.assignk (A := Is _) rfl rfl) rfl rfl ?_ -- law.go:57 assign
                      refine Runs_nil ?_
                      refine thenQ_n ?_
                      refine W_seq ?_
                      refine W_regionE (c := 93) (c' := 101) (by kernel_rfl) rfl ?_
                      refine Runs_p rfl (Valid.movek (A := Sl 1 _ _) rfl rfl) rfl rfl ?_ -- law.go:58 move
                      refine Runs_p rfl (Valid.movek (A := Is _) rfl rfl) rfl rfl ?_ -- law.go:58 move
                      refine Runs_p rfl (Valid.call rfl (dec_s (tellX r1 r2 q ((k : Int)).toNat) _ (by have := tell_len (r1 := r1) (r2 := r2) hq2 (k : Int).toNat; omega) (tell_in h1 _) (most_bd j wb0.1 (by omega)).1 (by have := (most_bd j wb0.1 (by omega)).2; omega)) ⟨argle_sl (Reads.sl rfl), argle rfl, trivial⟩) rfl rfl ?_ -- law.go:58 call
                      refine Runs_p rfl (Valid.movek (A := Tup [Sl 1 _ _, Is _]) rfl rfl) rfl rfl ?_ -- law.go:58 move
                      refine Runs_p rfl (Valid.extract _ rfl rfl rfl) rfl rfl ?_ -- law.go:58 extract
                      refine Runs_p rfl (Valid.extract _ rfl rfl rfl) rfl rfl ?_ -- law.go:58 extract
                      refine Runs_p rfl (Valid.assignk (A := Sl 1 _ _) rfl rfl) rfl rfl ?_ -- law.go:58 assign
                      refine Runs_p rfl (Valid.assignk (A := Is _) rfl rfl) rfl rfl ?_ -- law.go:58 assign
                      refine Runs_nil ?_
                      refine thenQ_n ?_
                      refine W_seq ?_
                      refine W_regionE (c := 101) (c' := 109) (by kernel_rfl) rfl ?_
                      refine Runs_p rfl (Valid.movek (A := Sl 1 _ _) rfl rfl) rfl rfl ?_ -- law.go:59 move
                      refine Runs_p rfl (Valid.movek (A := Is _) rfl rfl) rfl rfl ?_ -- law.go:59 move
                      refine Runs_p rfl (Valid.call rfl (decr_s (tellX r1 r2 q ((k : Int)).toNat) _ (by have := tell_len (r1 := r1) (r2 := r2) hq2 (k : Int).toNat; omega) (tell_in h1 _) (most_bd j wb0.1 (by omega)).1 (by have := (most_bd j wb0.1 (by omega)).2; omega)) ⟨argle_sl (Reads.sl rfl), argle rfl, trivial⟩) rfl rfl ?_ -- law.go:59 call
                      refine Runs_p rfl (Valid.movek (A := Tup [Sl 1 _ _, Is _]) rfl rfl) rfl rfl ?_ -- law.go:59 move
                      refine Runs_p rfl (Valid.extract _ rfl rfl rfl) rfl rfl ?_ -- law.go:59 extract
                      refine Runs_p rfl (Valid.extract _ rfl rfl rfl) rfl rfl ?_ -- law.go:59 extract
                      refine Runs_p rfl (Valid.assignk (A := Sl 1 _ _) rfl rfl) rfl rfl ?_ -- law.go:59 assign
                      refine Runs_p rfl (Valid.assignk (A := Is _) rfl rfl) rfl rfl ?_ -- law.go:59 assign
                      refine Runs_nil ?_
                      refine thenQ_n ?_
                      refine W_seq ?_
                      refine W_regionE (c := 109) (c' := 118) (by kernel_rfl) rfl ?_
                      refine Runs_p rfl (Valid.movek (A := Is _) rfl rfl) rfl rfl ?_ -- law.go:60 move
                      refine Runs_p rfl (Valid.movek (A := Is _) rfl rfl) rfl rfl ?_ -- law.go:60 move
                      refine Runs_p rfl (Valid.neq rfl rfl rfl) rfl rfl ?_ -- law.go:60 binOp
                      refine Runs_p rfl (Valid.movek (A := Is _) rfl rfl) rfl rfl ?_ -- law.go:60 move
                      refine Runs_cnd rfl rfl (Grd.is rfl) [] (fun hg => trivial) (fun hg => Valid.movek (A := Sl 1 _ _) rfl rfl) (by rfl) rfl ?_
                      refine Runs_cnd rfl rfl (Grd.is rfl) [] (fun hg => trivial) (fun hg => Valid.movek (A := Sl 1 _ _) rfl rfl) (by rfl) rfl ?_
                      refine Runs_cnd rfl rfl (Grd.is rfl) [(131, _), (132, _)] (fun hg => ⟨cnd_at rfl (by first | exact hg | exact hg.1 | exact hg.1.1 | exact hg.1.1.1), cnd_at rfl (by first | exact hg | exact hg.1 | exact hg.1.1 | exact hg.1.1.1), trivial⟩) (fun hg => Valid.call rfl (ints_s _ _ (dec_len6 (most_bd j wb0.1 (by (try simp only [Int.toNat_natCast, decide_eq_false_iff_not, not_true_eq_false, not_false_eq_true, ne_eq] at hg); omega)).2) (dec_len6 (most_bd j wb0.1 (by (try simp only [Int.toNat_natCast, decide_eq_false_iff_not, not_true_eq_false, not_false_eq_true, ne_eq] at hg); omega)).2)) ⟨argle_sl (Reads.sl rfl), argle_sl (Reads.sl rfl), trivial⟩) (by rfl) rfl ?_
                      refine Runs_cnd rfl rfl (Grd.is rfl) [(133, _)] (fun hg => ⟨cnd_at rfl (by first | exact hg | exact hg.1 | exact hg.1.1 | exact hg.1.1.1), trivial⟩) (fun hg => Valid.not rfl rfl) (by rfl) rfl ?_
                      refine Runs_p rfl (Valid.pickor rfl rfl rfl rfl (fun h => by first | exact h | exact ⟨hg, h⟩)) rfl rfl ?_ -- law.go:60 pick
                      refine Runs_nil ?_
                      refine thenQ_n ?_
                      refine W_cond _ rfl (fun hb6 => ?_) (fun hb6 => ?_)
                      · try simp only [Int.toNat_natCast, decide_eq_true_eq, decide_eq_false_iff_not, Bool.or_eq_true, Bool.not_eq_true', not_true_eq_false, ne_eq] at hb6
                        all_goals (
                          refine W_seq ?_
                          refine W_regionE (c := 118) (c' := 119) (by kernel_rfl) rfl ?_
                          refine Runs_p rfl (Valid.assignk (A := Is _) rfl rfl) rfl rfl ?_ -- law.go:61 assign
                          refine Runs_nil ?_
                          refine thenQ_n ?_
                          refine W_ret ?_
                          refine blockQ_r ?_
                          refine thenQ_r ?_
                          refine loopQ_r ?_
                          refine blockQ_r ?_
                          refine blockQ_r ?_
                          refine thenQ_r ?_
                          refine loopQ_r ?_
                          refine blockQ_r ?_
                          refine thenQ_r ?_
                          refine finQ_r ?_
                          refine ResOk.one rfl (RVal.is rfl rfl (by first | rfl | (exfalso; omega) | (exfalso; simp at *; done)))
                          done)
                      · try simp only [Int.toNat_natCast, decide_eq_true_eq, decide_eq_false_iff_not, Bool.or_eq_false_iff, Bool.not_eq_false', not_true_eq_false, not_false_eq_true, ne_eq] at hb6
                        all_goals (
                          refine W_skip ?_
                          refine blockQ_n ?_
                          refine thenQ_n ?_
                          refine W_regionE (c := 118) (c' := 120) (by kernel_rfl) rfl ?_
                          refine Runs_p rfl (Valid.add rfl rfl rfl (room64 (by first | omega | (simp only [Int.toNat_natCast, toNat_add, toNat_add1, List.length_append, List.length_cons, List.length_nil, List.length_replicate]; omega)) (by first | omega | (simp only [Int.toNat_natCast, toNat_add, toNat_add1, List.length_append, List.length_cons, List.length_nil, List.length_replicate]; omega)))) rfl rfl ?_ -- law.go:57 binOp
                          refine Runs_p rfl (Valid.movek (A := Is _) rfl rfl) rfl rfl ?_ -- law.go:57 move
                          refine Runs_nil ?_
                          refine LoopQ.next (j + 1) [] (by omega) (by omega) ⟨⟨(leq_is rfl rfl (by first | rfl | (simp; done) | omega | (simp [toNat_add, toNat_add1, Nat.add_assoc]; done) | (simp [toNat_add, toNat_add1]; omega))), trivial⟩, ⟨(leq_is rfl rfl rfl), (leq_is rfl rfl rfl), (leq_sl (Reads.sl rfl) rfl rfl rfl), (leq_sls rfl rfl), (leq_is rfl rfl rfl), (leq_is rfl rfl rfl), (leq_sl (Reads.sl rfl) rfl rfl rfl), (leq_is rfl rfl rfl), trivial⟩, trivial, trivial, rfl, ⟨supg rfl, trivial⟩, ⟨supg rfl, supg rfl, supg rfl, supg rfl, supg rfl, supg rfl, supg rfl, supg rfl, trivial⟩, trivial, trivial, rfl, rfl⟩
                          done)
                      done)
                  · try simp only [decide_eq_false_iff_not] at hb5
                    all_goals (
                      refine W_exit ?_
                      refine thenQ_e ?_
                      refine loopQ_e ?_
                      refine blockQ_x ?_
                      refine blockQ_n ?_
                      refine thenQ_n ?_
                      refine W_regionE (c := 90) (c' := 92) (by kernel_rfl) rfl ?_
                      refine Runs_p rfl (Valid.add rfl rfl rfl (room64 (by first | omega | (simp only [Int.toNat_natCast, toNat_add, toNat_add1, List.length_append, List.length_cons, List.length_nil, List.length_replicate]; omega)) (by first | omega | (simp only [Int.toNat_natCast, toNat_add, toNat_add1, List.length_append, List.length_cons, List.length_nil, List.length_replicate]; omega)))) rfl rfl ?_ -- law.go:49 binOp
                      refine Runs_p rfl (Valid.movek (A := Is _) rfl rfl) rfl rfl ?_ -- law.go:49 move
                      refine Runs_nil ?_
                      refine LoopQ.next (k + 1) [] (by omega) (by omega) ⟨⟨(leq_is rfl rfl (by first | rfl | (simp; done) | omega | (simp [toNat_add, toNat_add1, Nat.add_assoc]; done) | (simp [toNat_add, toNat_add1]; omega))), trivial⟩, ⟨(leq_is rfl rfl rfl), (leq_is rfl rfl rfl), (leq_sls rfl rfl), (leq_is rfl rfl rfl), trivial⟩, trivial, trivial, rfl, ⟨supg rfl, trivial⟩, ⟨supg rfl, supg rfl, supg rfl, supg rfl, trivial⟩, trivial, trivial, rfl, rfl⟩
                      done)
                  done)
              done)
          · try simp only [decide_eq_false_iff_not] at hb3
            all_goals (
              refine W_exit ?_
              refine thenQ_e ?_
              refine loopQ_e ?_
              refine blockQ_x ?_
              refine thenQ_n ?_
              refine W_seq ?_
              refine W_regionE (c := 32) (c' := 34) (by kernel_rfl) rfl ?_
              refine Runs_p rfl (Valid.movek (A := Is _) rfl rfl) rfl rfl ?_ -- law.go:65 move
              refine Runs_p rfl (Valid.assignk (A := Is _) rfl rfl) rfl rfl ?_ -- law.go:65 assign
              refine Runs_nil ?_
              refine thenQ_n ?_
              refine W_ret ?_
              refine finQ_r ?_
              refine ResOk.one rfl (RVal.is rfl rfl (by first | rfl | (exfalso; omega) | (exfalso; simp at *; done)))
              done)
          done)
      done)
end Zj
end Go.Proofs.Ytimpmdcebapfiaa
