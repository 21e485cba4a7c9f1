/-
  WALKS of stage 14: laws that ask nothing of turns.
-/
import Derived.Test.YtfelmdagolnpeaaRows
import Derived.Test.YtfelmdagolnpeaaCm
import Derived.Test.YtfelmdagolnpeaaVm
import Derived.Test.YtfelmdagolnpeaaVa
import Derived.Test.YtfelmdagolnpeaaVd
import Derived.Test.YtfelmdagolnpeaaVn
import Derived.Test.YtfelmdagolnpeaaVb
import Derived.Test.YtfelmdagolnpeaaVc
import Derived.Test.YtfelmdagolnpeaaVe
import Derived.Test.YtfelmdagolnpeaaVo
import Derived.Test.YtfelmdagolnpeaaVp
import Derived.Test.YtfelmdagolnpeaaVf
import Derived.Test.YtfelmdagolnpeaaVg
namespace Go.Proofs.Ytfelmdagolnpeaa
open Go.RowKit
namespace Vh
open Ab Cm Vm Va Vd Vn Vb Vc Ve Vo Vp Vf Vg
theorem ag3 (w : World) : (isAgg 3).run Try.prog w = .ok false w := by kernel_rfl
theorem ag4 (w : World) : (isAgg 4).run Try.prog w = .ok false w := by kernel_rfl
theorem ag9 (w : World) : (isAgg 9).run Try.prog w = .ok false w := by kernel_rfl
theorem sz3 (w : World) : (sizeOf 3).run Try.prog w = .ok 1 w := by kernel_rfl
theorem sz4 (w : World) : (sizeOf 4).run Try.prog w = .ok 1 w := by kernel_rfl
theorem sz9 (w : World) : (sizeOf 9).run Try.prog w = .ok 1 w := by kernel_rfl
theorem tzv4 : (Try.prog.info? 4).map (fun i => (i.zero, i.size, i.bytes)) = some (some ((Value.bool) false), 1, 1) := by kernel_rfl
theorem rback_v (s : ByteArray) (o : Int) (hs : s.size ≤ 1000000) (wo : -9223372036854775808 ≤ o ∧ o ≤ 9223372036854775807) : FPure Try.prog 18 [Is (.string s), Is (.int .i64 o)] (Tup [Is (.string (backR s o).1), Is (.int .i64 (backR s o).2)]) := by
  have h := rback_s s o hs wo
  rw [ref_back] at h
  exact h
theorem rints (s : ByteArray) (hs : s.size ≤ 1000000) : FPure Try.prog 11 [Sl 1 s.size ((vecL s).map (Value.int .i64)), Sl 1 s.size ((vecL s).map (Value.int .i64))] (Is (.bool true)) :=
  ints_t (l := vecL s) (m := vecL s) (vec_len s).symm rfl (vec_len s).symm rfl (by rw [vec_len]; omega) rfl
theorem go_size (one : ByteArray) (most : Int) : ∀ n out, (out.size : Int) ≤ most → ((goT one most n out).size : Int) ≤ most
  | 0, out, h => by rw [go_0 _ _ _ _ rfl]; exact h
  | n + 1, out, h => by
    rw [goT]
    split
    · exact go_size one most n _ (by rw [ByteArray.size_append]; omega)
    · exact h
theorem text_size (raw : List Int) (most times : Int) (h : 0 ≤ most) : ((textV raw most times).size : Int) ≤ most := go_size _ _ _ _ (by rw [oneT_size]; omega)
/-- the two texts of a law -/
def two (a b : ByteArray) : List ByteArray := [a, b]
theorem two_size (s : ByteArray) (raw : List Int) (m : Int) (h : 60 ≤ m) (i : Nat) (hi : i < 2) : (((two (s.extract 0 (min (s.size : Int) 60).toNat) (textV raw m 0)).getD i ByteArray.empty).size : Int) ≤ m := by
  match i, hi with
  | 0, _ =>
    show (((s.extract 0 (min (s.size : Int) 60).toNat).size : Nat) : Int) ≤ m
    rw [ByteArray.size_extract]; omega
  | 1, _ => exact text_size raw m 0 (by omega)
def hadL (v : List Int) (n : Nat) : Nat → List Bool
  | 0 => List.replicate n false
  | k + 1 => (hadL v n k).set (nx v k) true
  termination_by k => k
theorem had_0 (v : List Int) (n : Nat) : List.replicate (n : Int).toNat false = hadL v n 0 := by rw [hadL]; rfl
theorem had_1 (v : List Int) (n k : Nat) : (hadL v n k).set (v.getD (k : Int).toNat 0).toNat true = hadL v n (k + 1) := by rw [hadL]; rfl
theorem had_len (v : List Int) (n : Nat) : ∀ k, (hadL v n k).length = n
  | 0 => by rw [hadL, List.length_replicate]
  | k + 1 => by rw [hadL, List.length_set, had_len v n k]
theorem had_at (v : List Int) (n : Nat) : ∀ k x, (hadL v n k).getD x false = true → ∃ j, j < k ∧ nx v j = x
  | 0, x, h => by rw [hadL] at h; simp [List.getD_eq_getElem?_getD, List.getElem?_replicate] at h; split at h <;> simp at h
  | k + 1, x, h => by
    rw [hadL, List.getD_eq_getElem?_getD] at h
    by_cases e : nx v k = x
    · exact ⟨k, by omega, e⟩
    · rw [List.getElem?_set_ne e, ← List.getD_eq_getElem?_getD] at h
      obtain ⟨j, h1, h2⟩ := had_at v n k x h
      exact ⟨j, by omega, h2⟩
theorem had_new (s : ByteArray) (k : Nat) (hk : k < s.size) : (hadL (vecL s) s.size k).getD ((vecL s).getD k 0).toNat false = false := by
  cases h : (hadL (vecL s) s.size k).getD ((vecL s).getD k 0).toNat false with
  | false => rfl
  | true =>
    obtain ⟨j, h1, h2⟩ := had_at _ _ k _ h
    have := nx_inj (pm_vec s) (x := j) (y := k) (by rw [vec_len]; omega) (by rw [vec_len]; omega) h2
    omega
theorem vec_up2 (s : ByteArray) (p q : Nat) (hpq : p < q) (hq : q < s.size) : (bat s ((vecL s).getD p 0)).toNat < (bat s ((vecL s).getD q 0)).toNat ∨ ((bat s ((vecL s).getD p 0)).toNat = (bat s ((vecL s).getD q 0)).toNat ∧ (vecL s).getD p 0 < (vecL s).getD q 0) := by
  have h := vec_up s p q hpq hq
  have h1 := vec_in s p (by omega); have h2 := vec_in s q hq
  unfold byteA at h
  rwa [Int.toNat_of_nonneg h1.1, Int.toNat_of_nonneg h2.1] at h

set_option maxRecDepth 100000 in
set_option maxHeartbeats 1000000 in
theorem vector_law (s : ByteArray) (hs : s.size ≤ 9223372036854775807) (raw : List Int) (hraw : In64 raw) (lraw : raw.length ≤ 9223372036854775807) :
    FPure Try.prog 6 [Is (.string s), Sl 1 raw.length (raw.map (Value.int .i64))] (Is (.bool true)) := by
  refine FPure.of Try.func6 Try.ntmps6 rfl (by kernel_rfl) rfl rfl rfl ?_
  refine W_seq ?_
  refine W_regionE (c := 1) (c' := 2) (by kernel_rfl) rfl ?_
  refine Runs_p rfl (Valid.assignk (A := Is _) rfl rfl) rfl rfl ?_ -- law.go:107 assign
  refine Runs_nil ?_
  refine thenQ_n ?_
  refine W_seq ?_
  refine W_regionE (c := 2) (c' := 4) (by kernel_rfl) rfl ?_
  refine Runs_p rfl (Valid.call rfl (awake_s) trivial) rfl rfl ?_ -- law.go:108 call
  refine Runs_p rfl (Valid.assignk (A := Is _) rfl rfl) rfl rfl ?_ -- law.go:108 assign
  refine Runs_nil ?_
  refine thenQ_n ?_
  refine W_seq ?_
  refine W_seq ?_
  refine W_drawE (c := 4) (c' := 14) (by kernel_rfl) rfl ?_
  refine Runs_p rfl (Valid.movek (A := Is _) rfl rfl) rfl rfl ?_ -- law.go:109 move
  refine Runs_p rfl (Valid.movek (A := Is _) rfl rfl) rfl rfl ?_ -- law.go:109 move
  refine Runs_p rfl (Valid.slen rfl Try.underlying9 rfl) rfl rfl ?_ -- law.go:109 call
  refine Runs_p rfl (Valid.min rfl rfl rfl) rfl rfl ?_ -- law.go:109 call
  refine Runs_p rfl (Valid.ssliceto rfl Try.underlying9 rfl rfl (by first | omega | (simp only [Int.toNat_natCast, toNat_add, toNat_add1, List.length_append, List.length_cons, List.length_nil, List.length_replicate]; omega))) rfl rfl ?_ -- law.go:109 slice
  refine Runs_p rfl (Valid.movek (A := Sl 1 _ _) rfl rfl) rfl rfl ?_ -- law.go:109 move
  refine Runs_p rfl (Valid.call rfl (text_s raw 100 0 hraw lraw (by decide) (by decide) (by decide)) ⟨argle_sl (Reads.sl rfl), argle rfl, argle rfl, trivial⟩) rfl rfl ?_ -- law.go:109 call
  refine Runs_p rfl (Valid.lit (el := 9) ((two (s.extract 0 (min (s.size : Int) 60).toNat) (textV raw 100 0)).map Value.string) rfl rfl (fun _ => by kernel_rfl) rfl (by decide)) rfl rfl ?_ -- law.go:109 buildSlice
  refine Runs_p rfl (Valid.len rfl Try.underlying25 (Reads.sl rfl)) rfl rfl ?_ -- law.go:109 call
  refine Runs_p rfl (Valid.movek (A := Is _) rfl rfl) rfl rfl ?_ -- law.go:109 move
  refine Runs_nil ?_
  refine ⟨_, _, rfl, rfl, by kernel_rfl, ?_⟩
  refine thenQ_n ?_
  refine W_block ?_
  refine W_loopx (G := Nat) (fun (k : Nat) => k ≤ 2) [(5, Is _), (19, Sl 1 2 ((two (s.extract 0 (min (s.size : Int) 60).toNat) (textV raw 100 0)).map Value.string)), (20, Is _)] (fun (k : Nat) => [(21, Is (.int .i64 (k : Int)))]) [] (fun (k : Nat) => []) 14 (fun (k : Nat) => 2 - k) (0) [] (by first | trivial | omega | (simp; omega)) ⟨⟨(leq_is rfl rfl (by first | rfl | (simp; done) | omega | (simp [toNat_add, toNat_add1, Nat.add_assoc]; done) | (simp [toNat_add, toNat_add1]; omega))), trivial⟩, ⟨(leq_is rfl rfl rfl), (leq_sl (Reads.sl rfl) rfl rfl rfl), (leq_is rfl rfl rfl), trivial⟩, trivial, trivial, rfl, ⟨supg rfl, trivial⟩, ⟨supg rfl, supg rfl, supg rfl, trivial⟩, trivial, trivial, rfl, rfl⟩ ?_
  intro k hI1
  refine W_seq ?_
  refine W_regionE (c := 14) (c' := 15) (by kernel_rfl) rfl ?_
  refine Runs_p rfl (Valid.lss rfl rfl rfl) rfl rfl ?_ -- law.go:109 binOp
  refine Runs_nil ?_
  refine thenQ_n ?_
  refine W_seq ?_
  refine W_cond _ rfl (fun hb1 => ?_) (fun hb1 => ?_)
  · try simp only [decide_eq_true_eq] at hb1
    all_goals (
      refine W_skip ?_
      refine thenQ_n ?_
      refine W_seq ?_
      refine W_block ?_
      refine W_seq ?_
      refine W_regionE (c := 15) (c' := 18) (by kernel_rfl) rfl ?_
      refine Runs_p rfl (Valid.eltaddr1 ByteArray.empty rfl Try.underlying25 sz9 (Reads.sl rfl) rfl (by first | omega | (simp only [Int.toNat_natCast, toNat_add, toNat_add1, List.length_append, List.length_cons, List.length_nil, List.length_replicate]; omega)) (by first | rfl | simp)) rfl rfl ?_ -- law.go:109 indexAddr
      refine Runs_p rfl (Valid.loadelt rfl ag9 rfl) rfl rfl ?_ -- law.go:109 load
      refine Runs_p rfl (Valid.assignk (A := Is _) rfl rfl) rfl rfl ?_ -- law.go:109 assign
      refine Runs_nil ?_
      refine thenQ_n ?_
      refine W_seq ?_
      have hxs := two_size s raw 100 (by decide) (k : Int).toNat (by omega)
      generalize ((two (s.extract 0 (min (s.size : Int) 60).toNat) (textV raw 100 0))).getD (k : Int).toNat ByteArray.empty = x at hxs ⊢
      refine W_regionE (c := 18) (c' := 21) (by kernel_rfl) rfl ?_
      refine Runs_p rfl (Valid.movek (A := Is _) rfl rfl) rfl rfl ?_ -- law.go:110 move
      refine Runs_p rfl (Valid.call rfl (vec_s _ (by omega)) ⟨argle rfl, trivial⟩) rfl rfl ?_ -- law.go:110 call
      refine Runs_p rfl (Valid.assignk (A := Sl 1 _ _) rfl rfl) rfl rfl ?_ -- law.go:110 assign
      refine Runs_nil ?_
      refine thenQ_n ?_
      refine W_seq ?_
      refine W_seq ?_
      refine W_regionE (c := 21) (c' := 26) (by kernel_rfl) rfl ?_
      refine Runs_p rfl (Valid.movek (A := Sl 1 _ _) rfl rfl) rfl rfl ?_ -- law.go:111 move
      refine Runs_p rfl (Valid.len rfl Try.underlying22 (Reads.sl rfl)) rfl rfl ?_ -- law.go:111 call
      refine Runs_p rfl (Valid.movek (A := Is _) rfl rfl) rfl rfl ?_ -- law.go:111 move
      refine Runs_p rfl (Valid.slen rfl Try.underlying9 rfl) rfl rfl ?_ -- law.go:111 call
      refine Runs_p rfl (Valid.neq rfl rfl rfl) rfl rfl ?_ -- law.go:111 binOp
      refine Runs_nil ?_
      refine thenQ_n ?_
      refine W_cond _ rfl (fun hb2 => ?_) (fun hb2 => ?_)
      · try simp only [decide_eq_true_eq, not_true_eq_false, ne_eq] at hb2
        all_goals (
          exfalso
          omega
          
          done)
      · try simp only [decide_eq_false_iff_not, not_true_eq_false, not_false_eq_true, ne_eq] at hb2
        all_goals (
          refine W_skip ?_
          refine thenQ_n ?_
          refine W_seq ?_
          refine W_regionE (c := 26) (c' := 30) (by kernel_rfl) rfl ?_
          refine Runs_p rfl (Valid.movek (A := Is _) rfl rfl) rfl rfl ?_ -- law.go:114 move
          refine Runs_p rfl (Valid.slen rfl Try.underlying9 rfl) rfl rfl ?_ -- law.go:114 call
          refine Runs_w rfl (Valid.makevar (Value.bool) false rfl Try.underlying37 tzv4 rfl rfl rfl (by first | omega | (simp only [Int.toNat_natCast, toNat_add, toNat_add1, List.length_append, List.length_cons, List.length_nil, List.length_replicate]; omega)) (by first | omega | (simp only [Int.toNat_natCast, toNat_add, toNat_add1, List.length_append, List.length_cons, List.length_nil, List.length_replicate]; omega)) (by first | omega | (simp only [Int.toNat_natCast, toNat_add, toNat_add1, List.length_append, List.length_cons, List.length_nil, List.length_replicate]; omega))) rfl rfl ?_ -- law.go:114 makeSlice
          refine Runs_p rfl (Valid.assignk (A := Mrow 224 _) rfl rfl) rfl rfl ?_ -- law.go:114 assign
          refine Runs_nil ?_
          refine thenQ_n ?_
          refine W_seq ?_
          refine W_regionE (c := 30) (c' := 31) (by kernel_rfl) rfl ?_
          refine Runs_p rfl (Valid.assignk (A := Is _) rfl rfl) rfl rfl ?_ -- law.go:115 assign
          refine Runs_nil ?_
          refine thenQ_n ?_
          refine W_block ?_
          refine W_loopx (G := Nat) (fun (i : Nat) => i ≤ x.size) [(5, Is _), (7, Is _), (8, Sl 1 x.size ((vecL x).map (Value.int .i64))), (9, Mrow 224 _), (19, Sl 1 _ _), (20, Is _), (21, Is _)] (fun (i : Nat) => [(10, Is (.int .i64 (i : Int)))]) [] (fun (i : Nat) => [(224, .var 4 (Arr (Value.bool) (hadL (vecL x) x.size i)))]) 31 (fun (i : Nat) => x.size - i) (0) [] (by first | trivial | omega | (simp; omega)) ⟨⟨(leq_is rfl rfl (by first | rfl | exact had_0 _ _)), trivial⟩, ⟨(leq_is rfl rfl rfl), (leq_is rfl rfl rfl), (leq_sl (Reads.sl rfl) rfl rfl rfl), (leq_mrow rfl rfl rfl rfl), (leq_sl (Reads.sl rfl) rfl rfl rfl), (leq_is rfl rfl rfl), (leq_is rfl rfl rfl), trivial⟩, ⟨hp_arr rfl (by first | rfl | exact had_0 _ _), trivial⟩, trivial, rfl, ⟨supg rfl, trivial⟩, ⟨supg rfl, supg rfl, supg rfl, supg rfl, supg rfl, supg rfl, supg rfl, trivial⟩, ⟨suph_arr rfl, trivial⟩, trivial, rfl, rfl⟩ ?_
          intro i hI2
          have hvi := vec_vals x (i : Int).toNat
          have hvi2 := vec_vals x i
          have hvp := vec_vals x ((i : Int) - 1).toNat
          have hhl := had_len (vecL x) x.size i
          have hnw := had_new x i
          have hup := vec_up2 x ((i : Int) - 1).toNat i
          refine W_seq ?_
          refine W_seq ?_
          refine W_regionE (c := 31) (c' := 35) (by kernel_rfl) rfl ?_
          refine Runs_p rfl (Valid.movek (A := Is _) rfl rfl) rfl rfl ?_ -- law.go:115 move
          refine Runs_p rfl (Valid.movek (A := Sl 1 _ _) rfl rfl) rfl rfl ?_ -- law.go:115 move
          refine Runs_p rfl (Valid.len rfl Try.underlying22 (Reads.sl rfl)) rfl rfl ?_ -- law.go:115 call
          refine Runs_p rfl (Valid.lss rfl rfl rfl) rfl rfl ?_ -- law.go:115 binOp
          refine Runs_nil ?_
          refine thenQ_n ?_
          refine W_cond _ rfl (fun hb3 => ?_) (fun hb3 => ?_)
          · try simp only [decide_eq_true_eq] at hb3
            all_goals (
              refine W_skip ?_
              refine thenQ_n ?_
              refine W_seq ?_
              refine W_block ?_
              refine W_seq ?_
              refine W_seq ?_
              refine W_regionE (c := 35) (c' := 58) (by kernel_rfl) rfl ?_
              refine Runs_p rfl (Valid.movek (A := Sl 1 _ _) rfl rfl) rfl rfl ?_ -- law.go:116 move
              refine Runs_p rfl (Valid.movek (A := Is _) rfl rfl) rfl rfl ?_ -- law.go:116 move
              refine Runs_p rfl (Valid.eltaddr1 0 rfl Try.underlying22 sz3 (Reads.sl rfl) rfl (by first | omega | (simp only [Int.toNat_natCast, toNat_add, toNat_add1, List.length_append, List.length_cons, List.length_nil, List.length_replicate]; omega)) (vec_len _).symm) rfl rfl ?_ -- law.go:116 indexAddr
              refine Runs_p rfl (Valid.loadelt rfl ag3 rfl) rfl rfl ?_ -- law.go:116 load
              refine Runs_p rfl (Valid.lss rfl rfl rfl) rfl rfl ?_ -- law.go:116 binOp
              refine Runs_p rfl (Valid.movek (A := Is _) rfl rfl) rfl rfl ?_ -- law.go:116 move
              refine Runs_cnd rfl rfl (Grd.is rfl) [] (fun hg => trivial) (fun hg => Valid.movek (A := Sl 1 _ _) rfl rfl) (by rfl) rfl ?_
              refine Runs_cnd rfl rfl (Grd.is rfl) [] (fun hg => trivial) (fun hg => Valid.movek (A := Is _) rfl rfl) (by rfl) rfl ?_
              refine Runs_cnd rfl rfl (Grd.is rfl) [(47, _), (48, _)] (fun hg => ⟨cnd_at rfl (by first | exact hg | exact hg.1 | exact hg.1.1 | exact hg.1.1.1), cnd_at rfl (by first | exact hg | exact hg.1 | exact hg.1.1 | exact hg.1.1.1), trivial⟩) (fun hg => Valid.eltaddr1 0 rfl Try.underlying22 sz3 (Reads.sl rfl) rfl (by (try simp only [Int.toNat_natCast, decide_eq_false_iff_not] at hg); first | omega | (simp only [Int.toNat_natCast, toNat_add, toNat_add1, List.length_append, List.length_cons, List.length_nil, List.length_replicate]; omega)) (vec_len _).symm) (by rfl) rfl ?_
              refine Runs_cnd rfl rfl (Grd.is rfl) [(49, _)] (fun hg => ⟨cnd_at rfl (by first | exact hg | exact hg.1 | exact hg.1.1 | exact hg.1.1.1), trivial⟩) (fun hg => Valid.loadelt rfl ag3 rfl) (by rfl) rfl ?_
              refine Runs_cnd rfl rfl (Grd.is rfl) [] (fun hg => trivial) (fun hg => Valid.movek (A := Is _) rfl rfl) (by rfl) rfl ?_
              refine Runs_cnd rfl rfl (Grd.is rfl) [(51, _)] (fun hg => ⟨cnd_at rfl (by first | exact hg | exact hg.1 | exact hg.1.1 | exact hg.1.1.1), trivial⟩) (fun hg => Valid.slen rfl Try.underlying9 rfl) (by rfl) rfl ?_
              refine Runs_cnd rfl rfl (Grd.is rfl) [(50, _), (52, _)] (fun hg => ⟨cnd_at rfl (by first | exact hg | exact hg.1 | exact hg.1.1 | exact hg.1.1.1), cnd_at rfl (by first | exact hg | exact hg.1 | exact hg.1.1 | exact hg.1.1.1), trivial⟩) (fun hg => Valid.geq rfl rfl rfl) (by rfl) rfl ?_
              refine Runs_p rfl (Valid.pickor rfl rfl rfl rfl (fun h => by first | exact h | exact ⟨hg, h⟩)) rfl rfl ?_ -- law.go:116 pick
              refine Runs_p rfl (Valid.movek (A := Is _) rfl rfl) rfl rfl ?_ -- law.go:116 move
              refine Runs_cnds (t := 9) rfl rfl (Grd.is rfl) [] (fun hg => trivial) (fun hg => Valid.movek (A := Mrow 224 _) rfl rfl) (by simp [Op.operands]) rfl rfl ?_
              refine Runs_cnd rfl rfl (Grd.is rfl) [] (fun hg => trivial) (fun hg => Valid.movek (A := Sl 1 _ _) rfl rfl) (by rfl) rfl ?_
              refine Runs_cnd rfl rfl (Grd.is rfl) [] (fun hg => trivial) (fun hg => Valid.movek (A := Is _) rfl rfl) (by rfl) rfl ?_
              refine Runs_cnd rfl rfl (Grd.is rfl) [(57, _), (58, _)] (fun hg => ⟨cnd_at rfl (by first | exact hg | exact hg.1 | exact hg.1.1 | exact hg.1.1.1), cnd_at rfl (by first | exact hg | exact hg.1 | exact hg.1.1 | exact hg.1.1.1), trivial⟩) (fun hg => Valid.eltaddr1 0 rfl Try.underlying22 sz3 (Reads.sl rfl) rfl (by (try simp only [Int.toNat_natCast, decide_eq_false_iff_not, Bool.or_eq_false_iff] at hg); first | omega | (simp only [Int.toNat_natCast, toNat_add, toNat_add1, List.length_append, List.length_cons, List.length_nil, List.length_replicate]; omega)) (vec_len _).symm) (by rfl) rfl ?_
              refine Runs_cnd rfl rfl (Grd.is rfl) [(59, _)] (fun hg => ⟨cnd_at rfl (by first | exact hg | exact hg.1 | exact hg.1.1 | exact hg.1.1.1), trivial⟩) (fun hg => Valid.loadelt rfl ag3 rfl) (by rfl) rfl ?_
              refine Runs_cnds (t := 56) rfl rfl (Grd.is rfl) [(56, _), (60, _)] (fun hg => ⟨cnd_at rfl (by first | exact hg | exact hg.1 | exact hg.1.1 | exact hg.1.1.1), cnd_at rfl (by first | exact hg | exact hg.1 | exact hg.1.1 | exact hg.1.1.1), trivial⟩) (fun hg => Valid.idxM1 rfl Try.underlying37 sz4 rfl rfl (by (try simp only [Int.toNat_natCast, decide_eq_false_iff_not, Bool.or_eq_false_iff] at hg); first | omega | (simp only [Int.toNat_natCast, toNat_add, toNat_add1, List.length_append, List.length_cons, List.length_nil, List.length_replicate]; omega))) (by simp [Op.operands]) rfl rfl ?_
              refine Runs_cnd rfl rfl (Grd.is rfl) [(61, _)] (fun hg => ⟨cnd_at rfl (by first | exact hg | exact hg.1 | exact hg.1.1 | exact hg.1.1.1), trivial⟩) (fun hg => Valid.loadarr false rfl ag4 rfl rfl (by first | omega | (simp only [Int.toNat_natCast, toNat_add, toNat_add1, List.length_append, List.length_cons, List.length_nil, List.length_replicate]; omega))) (by rfl) rfl ?_
              refine Runs_p rfl (Valid.pickor rfl rfl rfl rfl (fun h => by first | exact h | exact ⟨hg, h⟩)) rfl rfl ?_ -- law.go:116 pick
              refine Runs_nil ?_
              refine thenQ_n ?_
              refine W_cond _ rfl (fun hb4 => ?_) (fun hb4 => ?_)
              · try simp only [Int.toNat_natCast, decide_eq_true_eq, Bool.or_eq_true] at hb4
                all_goals (
                  exfalso
                  have h1 := hnw (by omega)
                  simp only [h1] at hb4
                  rcases hb4 with (h | h) | h
                  · omega
                  · omega
                  · cases h
                  
                  done)
              · try simp only [Int.toNat_natCast, decide_eq_false_iff_not, Bool.or_eq_false_iff] at hb4
                all_goals (
                  refine W_skip ?_
                  refine thenQ_n ?_
                  refine W_seq ?_
                  refine W_regionE (c := 58) (c' := 65) (by kernel_rfl) rfl ?_
                  refine Runs_p rfl (Valid.movek (A := Mrow 224 _) rfl rfl) rfl rfl ?_ -- law.go:119 move
                  refine Runs_p rfl (Valid.movek (A := Sl 1 _ _) rfl rfl) rfl rfl ?_ -- law.go:119 move
                  refine Runs_p rfl (Valid.movek (A := Is _) rfl rfl) rfl rfl ?_ -- law.go:119 move
                  refine Runs_p rfl (Valid.eltaddr1 0 rfl Try.underlying22 sz3 (Reads.sl rfl) rfl (by first | omega | (simp only [Int.toNat_natCast, toNat_add, toNat_add1, List.length_append, List.length_cons, List.length_nil, List.length_replicate]; omega)) (vec_len _).symm) rfl rfl ?_ -- law.go:119 indexAddr
                  refine Runs_p rfl (Valid.loadelt rfl ag3 rfl) rfl rfl ?_ -- law.go:119 load
                  refine Runs_p rfl (Valid.idxM1 rfl Try.underlying37 sz4 rfl rfl (by first | omega | (simp only [Int.toNat_natCast, toNat_add, toNat_add1, List.length_append, List.length_cons, List.length_nil, List.length_replicate]; omega))) rfl rfl ?_ -- law.go:119 indexAddr
                  refine Runs_op rfl (Valid.storearr _ rfl sz4 rfl rfl (by first | omega | (simp only [Int.toNat_natCast, toNat_add, toNat_add1, List.length_append, List.length_cons, List.length_nil, List.length_replicate]; omega)) rfl (One.is rfl rfl rfl)) rfl ?_ -- law.go:119 store
                  refine Runs_nil ?_
                  refine thenQ_n ?_
                  refine W_seq ?_
                  refine W_drawE (c := 65) (c' := 111) (by kernel_rfl) rfl ?_
                  refine Runs_p rfl (Valid.movek (A := Is _) rfl rfl) rfl rfl ?_ -- law.go:120 move
                  refine Runs_p rfl (Valid.gtr rfl rfl rfl) rfl rfl ?_ -- law.go:120 binOp
                  refine Runs_p rfl (Valid.movek (A := Is _) rfl rfl) rfl rfl ?_ -- law.go:120 move
                  refine Runs_cnd rfl rfl (Grd.is rfl) [] (fun hg => trivial) (fun hg => Valid.movek (A := Is _) rfl rfl) (by rfl) rfl ?_
                  refine Runs_cnd rfl rfl (Grd.is rfl) [] (fun hg => trivial) (fun hg => Valid.movek (A := Sl 1 _ _) rfl rfl) (by rfl) rfl ?_
                  refine Runs_cnd rfl rfl (Grd.is rfl) [] (fun hg => trivial) (fun hg => Valid.movek (A := Is _) rfl rfl) (by rfl) rfl ?_
                  refine Runs_cnd rfl rfl (Grd.is rfl) [(75, _)] (fun hg => ⟨cnd_at rfl (by first | exact hg | exact hg.1 | exact hg.1.1 | exact hg.1.1.1), trivial⟩) (fun hg => Valid.sub rfl rfl rfl (room64 (by (try simp only [decide_eq_true_eq] at hg); first | omega | (simp only [Int.toNat_natCast, toNat_add, toNat_add1, List.length_append, List.length_cons, List.length_nil, List.length_replicate]; omega)) (by (try simp only [decide_eq_true_eq] at hg); first | omega | (simp only [Int.toNat_natCast, toNat_add, toNat_add1, List.length_append, List.length_cons, List.length_nil, List.length_replicate]; omega)))) (by rfl) rfl ?_
                  refine Runs_cnd rfl rfl (Grd.is rfl) [(74, _), (76, _)] (fun hg => ⟨cnd_at rfl (by first | exact hg | exact hg.1 | exact hg.1.1 | exact hg.1.1.1), cnd_at rfl (by first | exact hg | exact hg.1 | exact hg.1.1 | exact hg.1.1.1), trivial⟩) (fun hg => Valid.eltaddr1 0 rfl Try.underlying22 sz3 (Reads.sl rfl) rfl (by (try simp only [decide_eq_true_eq] at hg); first | omega | (simp only [Int.toNat_natCast, toNat_add, toNat_add1, List.length_append, List.length_cons, List.length_nil, List.length_replicate]; omega)) (vec_len _).symm) (by rfl) rfl ?_
                  refine Runs_cnd rfl rfl (Grd.is rfl) [(77, _)] (fun hg => ⟨cnd_at rfl (by first | exact hg | exact hg.1 | exact hg.1.1 | exact hg.1.1.1), trivial⟩) (fun hg => Valid.loadelt rfl ag3 rfl) (by rfl) rfl ?_
                  refine Runs_cnd rfl rfl (Grd.is rfl) [(73, _), (78, _)] (fun hg => ⟨cnd_at rfl (by first | exact hg | exact hg.1 | exact hg.1.1 | exact hg.1.1.1), cnd_at rfl (by first | exact hg | exact hg.1 | exact hg.1.1 | exact hg.1.1.1), trivial⟩) (fun hg => Valid.sindex rfl Try.underlying9 rfl rfl (by (try simp only [decide_eq_true_eq] at hg); first | omega | (simp only [Int.toNat_natCast, toNat_add, toNat_add1, List.length_append, List.length_cons, List.length_nil, List.length_replicate]; omega))) (by rfl) rfl ?_
                  refine Runs_cnd rfl rfl (Grd.is rfl) [] (fun hg => trivial) (fun hg => Valid.movek (A := Is _) rfl rfl) (by rfl) rfl ?_
                  refine Runs_cnd rfl rfl (Grd.is rfl) [] (fun hg => trivial) (fun hg => Valid.movek (A := Sl 1 _ _) rfl rfl) (by rfl) rfl ?_
                  refine Runs_cnd rfl rfl (Grd.is rfl) [] (fun hg => trivial) (fun hg => Valid.movek (A := Is _) rfl rfl) (by rfl) rfl ?_
                  refine Runs_cnd rfl rfl (Grd.is rfl) [(81, _), (82, _)] (fun hg => ⟨cnd_at rfl (by first | exact hg | exact hg.1 | exact hg.1.1 | exact hg.1.1.1), cnd_at rfl (by first | exact hg | exact hg.1 | exact hg.1.1 | exact hg.1.1.1), trivial⟩) (fun hg => Valid.eltaddr1 0 rfl Try.underlying22 sz3 (Reads.sl rfl) rfl (by (try simp only [decide_eq_true_eq] at hg); first | omega | (simp only [Int.toNat_natCast, toNat_add, toNat_add1, List.length_append, List.length_cons, List.length_nil, List.length_replicate]; omega)) (vec_len _).symm) (by rfl) rfl ?_
                  refine Runs_cnd rfl rfl (Grd.is rfl) [(83, _)] (fun hg => ⟨cnd_at rfl (by first | exact hg | exact hg.1 | exact hg.1.1 | exact hg.1.1.1), trivial⟩) (fun hg => Valid.loadelt rfl ag3 rfl) (by rfl) rfl ?_
                  refine Runs_cnd rfl rfl (Grd.is rfl) [(80, _), (84, _)] (fun hg => ⟨cnd_at rfl (by first | exact hg | exact hg.1 | exact hg.1.1 | exact hg.1.1.1), cnd_at rfl (by first | exact hg | exact hg.1 | exact hg.1.1 | exact hg.1.1.1), trivial⟩) (fun hg => Valid.sindex rfl Try.underlying9 rfl rfl (by (try simp only [decide_eq_true_eq] at hg); first | omega | (simp only [Int.toNat_natCast, toNat_add, toNat_add1, List.length_append, List.length_cons, List.length_nil, List.length_replicate]; omega))) (by rfl) rfl ?_
                  refine Runs_cnd rfl rfl (Grd.is rfl) [(79, _), (85, _)] (fun hg => ⟨cnd_at rfl (by first | exact hg | exact hg.1 | exact hg.1.1 | exact hg.1.1.1), cnd_at rfl (by first | exact hg | exact hg.1 | exact hg.1.1 | exact hg.1.1.1), trivial⟩) (fun hg => Valid.gtr rfl rfl rfl) (by rfl) rfl ?_
                  refine Runs_cnd rfl rfl (Grd.is rfl) [(86, _)] (fun hg => ⟨cnd_at rfl (by first | exact hg | exact hg.1 | exact hg.1.1 | exact hg.1.1.1), trivial⟩) (fun hg => Valid.movek (A := Is _) rfl rfl) (by rfl) rfl ?_
                  refine Runs_cnd rfl rfl (Grd.cnd rfl) [] (fun hg => trivial) (fun hg => Valid.movek (A := Is _) rfl rfl) (by rfl) rfl ?_
                  refine Runs_cnd rfl rfl (Grd.cnd rfl) [] (fun hg => trivial) (fun hg => Valid.movek (A := Sl 1 _ _) rfl rfl) (by rfl) rfl ?_
                  refine Runs_cnd rfl rfl (Grd.cnd rfl) [] (fun hg => trivial) (fun hg => Valid.movek (A := Is _) rfl rfl) (by rfl) rfl ?_
                  refine Runs_cnd rfl rfl (Grd.cnd rfl) [(90, _)] (fun hg => ⟨cnd_at rfl (by first | exact hg | exact hg.1 | exact hg.1.1 | exact hg.1.1.1), trivial⟩) (fun hg => Valid.sub rfl rfl rfl (room64 (by (try simp only [Int.toNat_natCast, decide_eq_true_eq, decide_eq_false_iff_not] at hg); first | omega | (simp only [Int.toNat_natCast, toNat_add, toNat_add1, List.length_append, List.length_cons, List.length_nil, List.length_replicate]; omega)) (by (try simp only [Int.toNat_natCast, decide_eq_true_eq, decide_eq_false_iff_not] at hg); first | omega | (simp only [Int.toNat_natCast, toNat_add, toNat_add1, List.length_append, List.length_cons, List.length_nil, List.length_replicate]; omega)))) (by rfl) rfl ?_
                  refine Runs_cnd rfl rfl (Grd.cnd rfl) [(89, _), (91, _)] (fun hg => ⟨cnd_at rfl (by first | exact hg | exact hg.1 | exact hg.1.1 | exact hg.1.1.1), cnd_at rfl (by first | exact hg | exact hg.1 | exact hg.1.1 | exact hg.1.1.1), trivial⟩) (fun hg => Valid.eltaddr1 0 rfl Try.underlying22 sz3 (Reads.sl rfl) rfl (by (try simp only [Int.toNat_natCast, decide_eq_true_eq, decide_eq_false_iff_not] at hg); first | omega | (simp only [Int.toNat_natCast, toNat_add, toNat_add1, List.length_append, List.length_cons, List.length_nil, List.length_replicate]; omega)) (vec_len _).symm) (by rfl) rfl ?_
                  refine Runs_cnd rfl rfl (Grd.cnd rfl) [(92, _)] (fun hg => ⟨cnd_at rfl (by first | exact hg | exact hg.1 | exact hg.1.1 | exact hg.1.1.1), trivial⟩) (fun hg => Valid.loadelt rfl ag3 rfl) (by rfl) rfl ?_
                  refine Runs_cnd rfl rfl (Grd.cnd rfl) [(88, _), (93, _)] (fun hg => ⟨cnd_at rfl (by first | exact hg | exact hg.1 | exact hg.1.1 | exact hg.1.1.1), cnd_at rfl (by first | exact hg | exact hg.1 | exact hg.1.1 | exact hg.1.1.1), trivial⟩) (fun hg => Valid.sindex rfl Try.underlying9 rfl rfl (by (try simp only [Int.toNat_natCast, decide_eq_true_eq, decide_eq_false_iff_not] at hg); first | omega | (simp only [Int.toNat_natCast, toNat_add, toNat_add1, List.length_append, List.length_cons, List.length_nil, List.length_replicate]; omega))) (by rfl) rfl ?_
                  refine Runs_cnd rfl rfl (Grd.cnd rfl) [] (fun hg => trivial) (fun hg => Valid.movek (A := Is _) rfl rfl) (by rfl) rfl ?_
                  refine Runs_cnd rfl rfl (Grd.cnd rfl) [] (fun hg => trivial) (fun hg => Valid.movek (A := Sl 1 _ _) rfl rfl) (by rfl) rfl ?_
                  refine Runs_cnd rfl rfl (Grd.cnd rfl) [] (fun hg => trivial) (fun hg => Valid.movek (A := Is _) rfl rfl) (by rfl) rfl ?_
                  refine Runs_cnd rfl rfl (Grd.cnd rfl) [(96, _), (97, _)] (fun hg => ⟨cnd_at rfl (by first | exact hg | exact hg.1 | exact hg.1.1 | exact hg.1.1.1), cnd_at rfl (by first | exact hg | exact hg.1 | exact hg.1.1 | exact hg.1.1.1), trivial⟩) (fun hg => Valid.eltaddr1 0 rfl Try.underlying22 sz3 (Reads.sl rfl) rfl (by (try simp only [Int.toNat_natCast, decide_eq_true_eq, decide_eq_false_iff_not] at hg); first | omega | (simp only [Int.toNat_natCast, toNat_add, toNat_add1, List.length_append, List.length_cons, List.length_nil, List.length_replicate]; omega)) (vec_len _).symm) (by rfl) rfl ?_
                  refine Runs_cnd rfl rfl (Grd.cnd rfl) [(98, _)] (fun hg => ⟨cnd_at rfl (by first | exact hg | exact hg.1 | exact hg.1.1 | exact hg.1.1.1), trivial⟩) (fun hg => Valid.loadelt rfl ag3 rfl) (by rfl) rfl ?_
                  refine Runs_cnd rfl rfl (Grd.cnd rfl) [(95, _), (99, _)] (fun hg => ⟨cnd_at rfl (by first | exact hg | exact hg.1 | exact hg.1.1 | exact hg.1.1.1), cnd_at rfl (by first | exact hg | exact hg.1 | exact hg.1.1 | exact hg.1.1.1), trivial⟩) (fun hg => Valid.sindex rfl Try.underlying9 rfl rfl (by (try simp only [Int.toNat_natCast, decide_eq_true_eq, decide_eq_false_iff_not] at hg); first | omega | (simp only [Int.toNat_natCast, toNat_add, toNat_add1, List.length_append, List.length_cons, List.length_nil, List.length_replicate]; omega))) (by rfl) rfl ?_
                  refine Runs_cnd rfl rfl (Grd.cnd rfl) [(94, _), (100, _)] (fun hg => ⟨cnd_at rfl (by first | exact hg | exact hg.1 | exact hg.1.1 | exact hg.1.1.1), cnd_at rfl (by first | exact hg | exact hg.1 | exact hg.1.1 | exact hg.1.1.1), trivial⟩) (fun hg => Valid.eql rfl rfl rfl) (by rfl) rfl ?_
                  refine Runs_cnd rfl rfl (Grd.cnd rfl) [(101, _)] (fun hg => ⟨cnd_at rfl (by first | exact hg | exact hg.1 | exact hg.1.1 | exact hg.1.1.1), trivial⟩) (fun hg => Valid.movek (A := Is _) rfl rfl) (by rfl) rfl ?_
                  refine Runs_cnd rfl rfl (Grd.cnd rfl) [] (fun hg => trivial) (fun hg => Valid.movek (A := Sl 1 _ _) rfl rfl) (by rfl) rfl ?_
                  refine Runs_cnd rfl rfl (Grd.cnd rfl) [] (fun hg => trivial) (fun hg => Valid.movek (A := Is _) rfl rfl) (by rfl) rfl ?_
                  refine Runs_cnd rfl rfl (Grd.cnd rfl) [(104, _)] (fun hg => ⟨cnd_at rfl (by first | exact hg | exact hg.1 | exact hg.1.1 | exact hg.1.1.1), trivial⟩) (fun hg => Valid.sub rfl rfl rfl (room64 (by (try simp only [Int.toNat_natCast, decide_eq_true_eq, decide_eq_false_iff_not] at hg); first | omega | (simp only [Int.toNat_natCast, toNat_add, toNat_add1, List.length_append, List.length_cons, List.length_nil, List.length_replicate]; omega)) (by (try simp only [Int.toNat_natCast, decide_eq_true_eq, decide_eq_false_iff_not] at hg); first | omega | (simp only [Int.toNat_natCast, toNat_add, toNat_add1, List.length_append, List.length_cons, List.length_nil, List.length_replicate]; omega)))) (by rfl) rfl ?_
                  refine Runs_cnd rfl rfl (Grd.cnd rfl) [(103, _), (105, _)] (fun hg => ⟨cnd_at rfl (by first | exact hg | exact hg.1 | exact hg.1.1 | exact hg.1.1.1), cnd_at rfl (by first | exact hg | exact hg.1 | exact hg.1.1 | exact hg.1.1.1), trivial⟩) (fun hg => Valid.eltaddr1 0 rfl Try.underlying22 sz3 (Reads.sl rfl) rfl (by (try simp only [Int.toNat_natCast, decide_eq_true_eq, decide_eq_false_iff_not] at hg); first | omega | (simp only [Int.toNat_natCast, toNat_add, toNat_add1, List.length_append, List.length_cons, List.length_nil, List.length_replicate]; omega)) (vec_len _).symm) (by rfl) rfl ?_
                  refine Runs_cnd rfl rfl (Grd.cnd rfl) [(106, _)] (fun hg => ⟨cnd_at rfl (by first | exact hg | exact hg.1 | exact hg.1.1 | exact hg.1.1.1), trivial⟩) (fun hg => Valid.loadelt rfl ag3 rfl) (by rfl) rfl ?_
                  refine Runs_cnd rfl rfl (Grd.cnd rfl) [] (fun hg => trivial) (fun hg => Valid.movek (A := Sl 1 _ _) rfl rfl) (by rfl) rfl ?_
                  refine Runs_cnd rfl rfl (Grd.cnd rfl) [] (fun hg => trivial) (fun hg => Valid.movek (A := Is _) rfl rfl) (by rfl) rfl ?_
                  refine Runs_cnd rfl rfl (Grd.cnd rfl) [(108, _), (109, _)] (fun hg => ⟨cnd_at rfl (by first | exact hg | exact hg.1 | exact hg.1.1 | exact hg.1.1.1), cnd_at rfl (by first | exact hg | exact hg.1 | exact hg.1.1 | exact hg.1.1.1), trivial⟩) (fun hg => Valid.eltaddr1 0 rfl Try.underlying22 sz3 (Reads.sl rfl) rfl (by (try simp only [Int.toNat_natCast, decide_eq_true_eq, decide_eq_false_iff_not] at hg); first | omega | (simp only [Int.toNat_natCast, toNat_add, toNat_add1, List.length_append, List.length_cons, List.length_nil, List.length_replicate]; omega)) (vec_len _).symm) (by rfl) rfl ?_
                  refine Runs_cnd rfl rfl (Grd.cnd rfl) [(110, _)] (fun hg => ⟨cnd_at rfl (by first | exact hg | exact hg.1 | exact hg.1.1 | exact hg.1.1.1), trivial⟩) (fun hg => Valid.loadelt rfl ag3 rfl) (by rfl) rfl ?_
                  refine Runs_cnd rfl rfl (Grd.cnd rfl) [(107, _), (111, _)] (fun hg => ⟨cnd_at rfl (by first | exact hg | exact hg.1 | exact hg.1.1 | exact hg.1.1.1), cnd_at rfl (by first | exact hg | exact hg.1 | exact hg.1.1 | exact hg.1.1.1), trivial⟩) (fun hg => Valid.gtr rfl rfl rfl) (by rfl) rfl ?_
                  refine Runs_cnd rfl rfl (Grd.cnd rfl) [(102, _)] (fun hg => ⟨cnd_at rfl (by first | exact hg | exact hg.1 | exact hg.1.1 | exact hg.1.1.1), trivial⟩) (fun hg => Valid.pickand rfl rfl rfl (fun h => by first | exact h | exact ⟨hg, h⟩) rfl) (by rfl) rfl ?_
                  refine Runs_cnd rfl rfl (Grd.is rfl) [(87, _)] (fun hg => ⟨cnd_at rfl (by first | exact hg | exact hg.1 | exact hg.1.1 | exact hg.1.1.1), trivial⟩) (fun hg => Valid.pickor rfl rfl rfl rfl (fun h => by first | exact h | exact ⟨hg, h⟩)) (by rfl) rfl ?_
                  refine Runs_p rfl (Valid.pickand rfl rfl rfl (fun h => by first | exact h | exact ⟨hg, h⟩) rfl) rfl rfl ?_ -- law.go:120 pick
                  refine Runs_nil ?_
                  refine ⟨_, _, rfl, rfl, by kernel_rfl, ?_⟩
                  refine thenQ_n ?_
                  refine W_cond _ rfl (fun hb5 => ?_) (fun hb5 => ?_)
                  · try simp only [Int.toNat_natCast, decide_eq_true_eq, Bool.and_eq_true, Bool.or_eq_true] at hb5
                    all_goals (
                      exfalso
                      have h1 := hup (by omega) (by omega)
                      omega
                      
                      done)
                  · try simp only [Int.toNat_natCast, decide_eq_false_iff_not, Bool.and_eq_false_iff, Bool.or_eq_false_iff] at hb5
                    all_goals (
                      refine W_skip ?_
                      refine blockQ_n ?_
                      refine thenQ_n ?_
                      refine W_regionE (c := 111) (c' := 114) (by kernel_rfl) rfl ?_
                      refine Runs_p rfl (Valid.movek (A := Is _) rfl rfl) rfl rfl ?_ -- law.go:115 move
                      refine Runs_p rfl (Valid.add rfl rfl rfl (room64 (by first | omega | (simp only [Int.toNat_natCast, toNat_add, toNat_add1, List.length_append, List.length_cons, List.length_nil, List.length_replicate]; omega)) (by first | omega | (simp only [Int.toNat_natCast, toNat_add, toNat_add1, List.length_append, List.length_cons, List.length_nil, List.length_replicate]; omega)))) rfl rfl ?_ -- law.go:115 binOp
                      refine Runs_p rfl (Valid.assignk (A := Is _) rfl rfl) rfl rfl ?_ -- law.go:115 assign
                      refine Runs_nil ?_
                      refine LoopQ.next (i + 1) [] (by first | trivial | omega | (simp; omega)) (by first | omega | (dsimp only; omega)) ⟨⟨(leq_is rfl rfl (by first | rfl | exact had_1 _ _ _)), trivial⟩, ⟨(leq_is rfl rfl rfl), (leq_is rfl rfl rfl), (leq_sl (Reads.sl rfl) rfl rfl rfl), (leq_mrow rfl rfl rfl rfl), (leq_sl (Reads.sl rfl) rfl rfl rfl), (leq_is rfl rfl rfl), (leq_is rfl rfl rfl), trivial⟩, ⟨hp_arr rfl (by first | rfl | exact had_1 _ _ _), trivial⟩, trivial, rfl, ⟨supg rfl, trivial⟩, ⟨supg rfl, supg rfl, supg rfl, supg rfl, supg rfl, supg rfl, supg rfl, trivial⟩, ⟨suph_arr rfl, trivial⟩, trivial, rfl, rfl⟩
                      done)
                  done)
              done)
          · try simp only [decide_eq_false_iff_not] at hb3
            all_goals (
              refine W_exit ?_
              refine thenQ_e ?_
              refine loopQ_e ?_
              refine blockQ_x ?_
              refine blockQ_n ?_
              refine thenQ_n ?_
              refine W_regionE (c := 35) (c' := 37) (by kernel_rfl) rfl ?_
              refine Runs_p rfl (Valid.add rfl rfl rfl (room64 (by first | omega | (simp only [Int.toNat_natCast, toNat_add, toNat_add1, List.length_append, List.length_cons, List.length_nil, List.length_replicate]; omega)) (by first | omega | (simp only [Int.toNat_natCast, toNat_add, toNat_add1, List.length_append, List.length_cons, List.length_nil, List.length_replicate]; omega)))) rfl rfl ?_ -- law.go:109 binOp
              refine Runs_p rfl (Valid.movek (A := Is _) rfl rfl) rfl rfl ?_ -- law.go:109 move
              refine Runs_nil ?_
              refine LoopQ.next (k + 1) [] (by omega) (by omega) ⟨⟨(leq_is rfl rfl (by first | rfl | (simp; done) | omega | (simp [toNat_add, toNat_add1, Nat.add_assoc]; done) | (simp [toNat_add, toNat_add1]; omega))), trivial⟩, ⟨(leq_is rfl rfl rfl), (leq_sl (Reads.sl rfl) rfl rfl rfl), (leq_is rfl rfl rfl), trivial⟩, trivial, trivial, rfl, ⟨supg rfl, trivial⟩, ⟨supg rfl, supg rfl, supg rfl, trivial⟩, trivial, trivial, rfl, rfl⟩
              done)
          done)
      done)
  · try simp only [decide_eq_false_iff_not] at hb1
    all_goals (
      refine W_exit ?_
      refine thenQ_e ?_
      refine loopQ_e ?_
      refine blockQ_x ?_
      refine thenQ_n ?_
      refine W_seq ?_
      refine W_regionE (c := 15) (c' := 17) (by kernel_rfl) rfl ?_
      refine Runs_p rfl (Valid.movek (A := Is _) rfl rfl) rfl rfl ?_ -- law.go:125 move
      refine Runs_p rfl (Valid.assignk (A := Is _) rfl rfl) rfl rfl ?_ -- law.go:125 assign
      refine Runs_nil ?_
      refine thenQ_n ?_
      refine W_ret ?_
      refine finQ_r ?_
      refine ResOk.one rfl (RVal.is rfl rfl (rfl))
      done)
end Vh
end Go.Proofs.Ytfelmdagolnpeaa
