/-
  WALKS of stage 10: the law WeighEven.
-/
import Derived.Test.YtepncgcpjbgbnaaRows
import Derived.Test.YtepncgcpjbgbnaaMgc
import Derived.Test.YtepncgcpjbgbnaaWa
import Derived.Test.YtepncgcpjbgbnaaWb
import Derived.Test.YtepncgcpjbgbnaaWm
import Derived.Test.YtepncgcpjbgbnaaWc
import Derived.Test.YtepncgcpjbgbnaaWd
import Derived.Test.YtepncgcpjbgbnaaWe
import Derived.Test.YtepncgcpjbgbnaaWf
import Derived.Test.YtepncgcpjbgbnaaWg
import Derived.Test.YtepncgcpjbgbnaaOa
import Derived.Test.YtepncgcpjbgbnaaOb
import Derived.Test.YtepncgcpjbgbnaaOc
import Derived.Test.YtepncgcpjbgbnaaOd
import Derived.Test.YtepncgcpjbgbnaaOf
import Derived.Test.YtepncgcpjbgbnaaOi
import Derived.Test.YtepncgcpjbgbnaaWh
import Derived.Test.YtepncgcpjbgbnaaCm
import Derived.Test.YtepncgcpjbgbnaaWi
import Derived.Test.YtepncgcpjbgbnaaWl
import Derived.Test.YtepncgcpjbgbnaaWj
namespace Go.Proofs.Ytepncgcpjbgbnaa
open Go.RowKit
namespace Wr
open Ab Wa Wb Wm Wc Wd We Wf Wg Oa Ob Oc Od Of Oi Wh Cm Wi Wl Wj
theorem ag3 (w : World) : (isAgg 3).run Try.prog w = .ok false w := by kernel_rfl
theorem sz3 (w : World) : (sizeOf 3).run Try.prog w = .ok 1 w := by kernel_rfl
theorem ti3 : TI Try.prog 3 1 8 := .mk' (z := (Value.int .i64 0)) (by kernel_rfl) rfl
theorem even_f {n : Nat} {x m : Int} (h2 : 2 ≤ n) (hn : n ≤ 258) (hx : okW x) (hm : 9 ≤ m) (hm2 : m ≤ 20) :
    ∃ (l : List Int) (e : Nat), lnV (List.replicate n x) m = (l, 0) ∧ l.length = n ∧ 1 ≤ e ∧ e ≤ 9 ∧ 2 ^ (e - 1) < n ∧ n ≤ 2 ^ e ∧ (∀ i, i < n → l.getD i 0 = (e : Int) ∨ (l.getD i 0 = (e : Int) - 1 ∧ n ≠ 2 ^ e)) := by
  have hl : (List.replicate n x).length = n := List.length_replicate
  obtain ⟨v, v1, v2, v3, _, v5⟩ := lenW_is (w := List.replicate n x) (most := m) (by omega) (by omega) hm
  have hat : ∀ i, i < n → (List.replicate n x).getD i 0 = x := fun i hi => by
    rw [List.getD_eq_getElem?_getD, List.getElem?_replicate, if_pos hi]; rfl
  have hal : ∀ y ∈ v, ∀ z ∈ v, y = z := fun y hy z hz => by
    obtain ⟨i, hi, rfl⟩ := List.mem_iff_getElem.1 hy
    obtain ⟨k, hk, rfl⟩ := List.mem_iff_getElem.1 hz
    have := v5 i k (by omega) (by omega) (by rw [hat i (by omega), hat k (by omega)])
    rwa [List.getD_eq_getElem?_getD, List.getD_eq_getElem?_getD, List.getElem?_eq_getElem hi, List.getElem?_eq_getElem hk] at this
  obtain ⟨e, e1, e2, e3, e4, e5⟩ := Dw_flat v1.nn (by omega) (fun y hy z hz u hu => by
    have := hal y hy z hz; have := v1 u hu; omega)
  have he9 : e ≤ 9 := by
    by_cases c : 10 ≤ e
    · have := Nat.pow_le_pow_right (n := 2) (by decide) (show 9 ≤ e - 1 by omega)
      omega
    · omega
  refine ⟨joinV v, e, ?_, by rw [joinV_len (by omega)]; omega, e1, he9, by omega, by omega, fun i hi => ?_⟩
  · rw [lnV_y ⟨by omega, by omega, hm, hm2, fun y hy => by rw [List.eq_of_mem_replicate hy]; exact hx⟩, v3]
  · have h3 := e2 i (by omega)
    rw [joinV_at v1.nn (by omega) (by omega)]
    by_cases c : Dw v i = e
    · left; omega
    · right
      refine ⟨by omega, fun h => c (e5 (by omega) i (by omega))⟩
theorem pw_i (d : Nat) : (1 : Int) * 2 ^ d = ((2 ^ d : Nat) : Int) := by simp
theorem pw_9 {d : Nat} (h : d ≤ 9) : 2 ^ d ≤ 512 := by
  have := Nat.pow_le_pow_right (n := 2) (by decide) h
  omega
theorem pw_room {d : Nat} (h : d ≤ 9) : Room .i64 (1 * 2 ^ (d : Int).toNat) := by
  have := pw_9 h
  rw [Int.toNat_natCast, pw_i]
  generalize 2 ^ d = x at *
  exact room64 (by omega) (by omega)
theorem rep_s {k : Nat} {x : Int} : List.replicate k (Value.int .i64 x) ++ [Value.int .i64 x] = List.replicate (k + 1) (Value.int .i64 x) := List.replicate_succ'.symm

set_option maxRecDepth 100000 in
set_option maxHeartbeats 1000000 in
theorem even_w (many : Int) (wmany : -9223372036854775808 ≤ many ∧ many ≤ 9223372036854775807) (weight : Int) (wweight : -9223372036854775808 ≤ weight ∧ weight ≤ 9223372036854775807) (most : Int) (wmost : -9223372036854775808 ≤ most ∧ most ≤ 9223372036854775807) :
    FPure Try.prog 7 [Is (.int .i64 (many : Int)), Is (.int .i64 (weight : Int)), Is (.int .i64 (most : Int))] (Is (.bool true)) := by
  refine FPure.of Try.func7 Try.ntmps7 rfl (by kernel_rfl) rfl rfl rfl ?_
  refine W_seq ?_
  refine W_regionE (c := 1) (c' := 2) (by kernel_rfl) rfl ?_
  refine Runs_p rfl (Valid.assignk (A := Is _) rfl rfl) rfl rfl ?_ -- law.go:125 assign
  refine Runs_nil ?_
  refine thenQ_n ?_
  refine W_seq ?_
  refine W_regionE (c := 2) (c' := 4) (by kernel_rfl) rfl ?_
  refine Runs_p rfl (Valid.call rfl (awake10_s) trivial) rfl rfl ?_ -- law.go:126 call
  refine Runs_p rfl (Valid.assignk (A := Is _) rfl rfl) rfl rfl ?_ -- law.go:126 assign
  refine Runs_nil ?_
  refine thenQ_n ?_
  refine W_seq ?_
  have hp1 := pickV_range many 257 (by decide)
  have hp2 := pickV_range weight 1048577 (by decide)
  have hp3 := pickV_range most 12 (by decide)
  obtain ⟨n, hn⟩ : ∃ n : Nat, 2 + pickV many 257 = (n : Int) := ⟨(2 + pickV many 257).toNat, by omega⟩
  have hx : okW (pickV weight 1048577) := by unfold okW; omega
  refine W_regionE (c := 4) (c' := 8) (by kernel_rfl) rfl ?_
  refine Runs_p rfl (Valid.movek (A := Is _) rfl rfl) rfl rfl ?_ -- law.go:127 move
  refine Runs_p rfl (Valid.call rfl (pick10_s _ _ wmany.1 wmany.2 (by decide) (by decide)) ⟨argle rfl, argle rfl, trivial⟩) rfl rfl ?_ -- law.go:127 call
  refine Runs_p rfl (Valid.add rfl rfl rfl (room64 (by first | omega | (simp only [Int.toNat_natCast, toNat_add, toNat_add1, List.length_append, List.length_cons, List.length_nil, List.length_replicate]; omega)) (by first | omega | (simp only [Int.toNat_natCast, toNat_add, toNat_add1, List.length_append, List.length_cons, List.length_nil, List.length_replicate]; omega)))) rfl rfl ?_ -- law.go:127 binOp
  refine Runs_p rfl (Valid.assignk (A := Is _) rfl rfl) rfl rfl ?_ -- law.go:127 assign
  refine Runs_nil ?_
  refine thenQ_n ?_
  refine W_seq ?_
  rw [hn]
  obtain ⟨l, e, hln, hll, he1, he9, hlo, hhi, hle⟩ := even_f (n := n) (x := pickV weight 1048577) (m := 9 + pickV most 12) (by omega) (by omega) hx (by omega) (by omega)
  refine W_regionE (c := 8) (c' := 9) (by kernel_rfl) rfl ?_
  refine Runs_p rfl (Valid.assignk (A := Is (.slice none 0 0)) rfl rfl) rfl rfl ?_ -- law.go:128 assign
  refine Runs_nil ?_
  refine thenQ_n ?_
  refine W_seq ?_
  refine W_seq ?_
  refine W_regionE (c := 9) (c' := 10) (by kernel_rfl) rfl ?_
  refine Runs_p rfl (Valid.assignk (A := Is _) rfl rfl) rfl rfl ?_ -- law.go:129 assign
  refine Runs_nil ?_
  refine thenQ_n ?_
  refine W_block ?_
  refine W.ent ?_ (Ent.ownnil 9 3 1 rfl)
  refine W_loopx (G := Nat) (fun (k : Nat) => k ≤ n) [(1, Is _), (2, Is _), (7, Is _), (8, Is _)] (fun (k : Nat) => [(10, Is (.int .i64 (k : Int))), (9, Ab.Own 80 1 k (List.replicate k (Value.int .i64 (pickV weight 1048577))))]) [] (fun (k : Nat) => [(80, .row 3 1 k (List.replicate k (Value.int .i64 (pickV weight 1048577))))]) 11 (fun (k : Nat) => n - k) (0) [] (by first | trivial | omega | (simp; omega)) ⟨⟨(leq_is rfl rfl (by first | rfl)), (leq_own rfl rfl rfl (by first | rfl) (by first | rfl)), trivial⟩, ⟨(leq_is rfl rfl rfl), (leq_is rfl rfl rfl), (leq_is rfl rfl rfl), (leq_is rfl rfl rfl), trivial⟩, ⟨hp_row rfl (by first | rfl) (by first | rfl), trivial⟩, trivial, rfl, ⟨supg rfl, supg rfl, trivial⟩, ⟨supg rfl, supg rfl, supg rfl, supg rfl, trivial⟩, ⟨suph rfl rfl, trivial⟩, trivial, rfl, rfl⟩ ?_
  intro k hI1
  refine W_seq ?_
  refine W_seq ?_
  refine W_regionE (c := 11) (c' := 14) (by kernel_rfl) rfl ?_
  refine Runs_p rfl (Valid.movek (A := Is _) rfl rfl) rfl rfl ?_ -- law.go:129 move
  refine Runs_p rfl (Valid.movek (A := Is _) rfl rfl) rfl rfl ?_ -- law.go:129 move
  refine Runs_p rfl (Valid.lss rfl rfl rfl) rfl rfl ?_ -- law.go:129 binOp
  refine Runs_nil ?_
  refine thenQ_n ?_
  refine W_cond _ rfl (fun hb1 => ?_) (fun hb1 => ?_)
  · try simp only [decide_eq_true_eq] at hb1
    all_goals (
      refine W_skip ?_
      refine thenQ_n ?_
      refine W_seq ?_
      refine W_block ?_
      refine W_regionE (c := 14) (c' := 20) (by kernel_rfl) rfl ?_
      refine Runs_p rfl (Valid.movek (A := Ab.Own 80 1 _ _) rfl rfl) rfl rfl ?_ -- law.go:130 move
      refine Runs_p rfl (Valid.movek (A := Is _) rfl rfl) rfl rfl ?_ -- law.go:130 move
      refine Runs_p rfl (Valid.call rfl (pick10_s _ _ wweight.1 wweight.2 (by decide) (by decide)) ⟨argle rfl, argle rfl, trivial⟩) rfl rfl ?_ -- law.go:130 call
      refine Runs_p rfl (Valid.lit (el := 3) [_] rfl rfl (fun _ => by kernel_rfl) rfl (by decide)) rfl rfl ?_ -- law.go:130 buildSlice
      refine Runs_w rfl (Valid.app rfl Try.underlying22 ti3 (by decide) rfl rfl (Reads.sl rfl) (by first | exact one_map (fun _ => rfl) | exact one_cons rfl one_nil | exact one_app (one_map (fun _ => rfl)) (one_cons rfl one_nil) | exact one_app (one_map (fun _ => rfl)) (one_map (fun _ => rfl)) | exact one_rep rfl | exact one_app (one_rep rfl) (one_map (fun _ => rfl)) | (intro u hu; simp at hu; rcases hu with rfl | hu <;> first | rfl | (subst hu; rfl))) (by first | (simp only [maxLen]; omega) | (simp only [maxLen, Int.toNat_natCast, toNat_add, toNat_add1, List.length_append, List.length_cons, List.length_nil, List.length_replicate]; omega)) (by first | omega | (simp only [Int.toNat_natCast, toNat_add, toNat_add1, List.length_append, List.length_cons, List.length_nil, List.length_replicate]; omega))) rfl rfl ?_ -- law.go:130 call
      refine Runs_p rfl (Valid.assignk (A := Ab.Own 144 1 _ _) rfl rfl) rfl rfl ?_ -- law.go:130 assign
      refine Runs_nil ?_
      refine blockQ_n ?_
      refine thenQ_n ?_
      refine W_regionE (c := 20) (c' := 23) (by kernel_rfl) rfl ?_
      refine Runs_p rfl (Valid.movek (A := Is _) rfl rfl) rfl rfl ?_ -- law.go:129 move
      refine Runs_p rfl (Valid.add rfl rfl rfl (room64 (by first | omega | (simp only [Int.toNat_natCast, toNat_add, toNat_add1, List.length_append, List.length_cons, List.length_nil, List.length_replicate]; omega)) (by first | omega | (simp only [Int.toNat_natCast, toNat_add, toNat_add1, List.length_append, List.length_cons, List.length_nil, List.length_replicate]; omega)))) rfl rfl ?_ -- law.go:129 binOp
      refine Runs_p rfl (Valid.assignk (A := Is _) rfl rfl) rfl rfl ?_ -- law.go:129 assign
      refine Runs_nil ?_
      refine LoopQ.next (k + 1) [(80, 144)] (by omega) (by omega) ⟨⟨(leq_is rfl rfl (by first | rfl | exact rep_s | omega | (simp; done))), (leq_own rfl rfl rfl (by first | rfl | exact rep_s | omega | (simp; done)) (by first | rfl | exact rep_s | omega | (simp; done))), trivial⟩, ⟨(leq_is rfl rfl rfl), (leq_is rfl rfl rfl), (leq_is rfl rfl rfl), (leq_is rfl rfl rfl), trivial⟩, ⟨hp_row rfl (by first | rfl | exact rep_s | omega | (simp; done)) (by first | rfl | exact rep_s | omega | (simp; done)), trivial⟩, trivial, rfl, ⟨supg rfl, supg rfl, trivial⟩, ⟨supg rfl, supg rfl, supg rfl, supg rfl, trivial⟩, ⟨suph rfl rfl, trivial⟩, trivial, rfl, rfl⟩
      done)
  · try simp only [decide_eq_false_iff_not] at hb1
    all_goals (
      refine W_exit ?_
      refine thenQ_e ?_
      refine loopQ_e ?_
      refine blockQ_x ?_
      refine thenQ_n ?_
      refine W_seq ?_
      obtain rfl : k = n := by omega
      refine W_regionE (c := 14) (c' := 24) (by kernel_rfl) rfl ?_
      refine Runs_p rfl (Valid.movek (A := Ab.Own 80 1 _ _) rfl rfl) rfl rfl ?_ -- law.go:132 move
      refine Runs_p rfl (Valid.movek (A := Is _) rfl rfl) rfl rfl ?_ -- law.go:132 move
      refine Runs_p rfl (Valid.call rfl (pick10_s _ _ wmost.1 wmost.2 (by decide) (by decide)) ⟨argle rfl, argle rfl, trivial⟩) rfl rfl ?_ -- law.go:132 call
      refine Runs_p rfl (Valid.add rfl rfl rfl (room64 (by first | omega | (simp only [Int.toNat_natCast, toNat_add, toNat_add1, List.length_append, List.length_cons, List.length_nil, List.length_replicate]; omega)) (by first | omega | (simp only [Int.toNat_natCast, toNat_add, toNat_add1, List.length_append, List.length_cons, List.length_nil, List.length_replicate]; omega)))) rfl rfl ?_ -- law.go:132 binOp
      refine Runs_p rfl (Valid.call rfl (ln_t (w := List.replicate k (pickV weight 1048577)) (l := l) (by simp) (by simp) (by simp; omega) hln rfl rfl) ⟨argle_sl (Reads.own rfl), argle rfl, trivial⟩) rfl rfl ?_ -- law.go:132 call
      refine Runs_p rfl (Valid.movek (A := Tup [Sl 1 _ _, Is _]) rfl rfl) rfl rfl ?_ -- law.go:132 move
      refine Runs_p rfl (Valid.extract _ rfl rfl rfl) rfl rfl ?_ -- law.go:132 extract
      refine Runs_p rfl (Valid.extract _ rfl rfl rfl) rfl rfl ?_ -- law.go:132 extract
      refine Runs_p rfl (Valid.assignk (A := Sl 1 _ _) rfl rfl) rfl rfl ?_ -- law.go:132 assign
      refine Runs_p rfl (Valid.assignk (A := Is _) rfl rfl) rfl rfl ?_ -- law.go:132 assign
      refine Runs_nil ?_
      refine thenQ_n ?_
      refine W_seq ?_
      refine W_seq ?_
      refine W_regionE (c := 24) (c' := 32) (by kernel_rfl) rfl ?_
      refine Runs_p rfl (Valid.movek (A := Is _) rfl rfl) rfl rfl ?_ -- law.go:133 move
      refine Runs_p rfl (Valid.neq rfl rfl rfl) rfl rfl ?_ -- law.go:133 binOp
      refine Runs_p rfl (Valid.movek (A := Is _) rfl rfl) rfl rfl ?_ -- law.go:133 move
      refine Runs_cnd rfl rfl (Grd.is rfl) [] (fun hg => trivial) (fun hg => Valid.movek (A := Sl 1 _ _) rfl rfl) (by rfl) rfl ?_
      refine Runs_cnd rfl rfl (Grd.is rfl) [(40, _)] (fun hg => ⟨cnd_at rfl (by first | exact hg | exact hg.1 | exact hg.1.1 | exact hg.1.1.1), trivial⟩) (fun hg => Valid.len rfl Try.underlying22 (Reads.sl rfl)) (by rfl) rfl ?_
      refine Runs_cnd rfl rfl (Grd.is rfl) [] (fun hg => trivial) (fun hg => Valid.movek (A := Is _) rfl rfl) (by rfl) rfl ?_
      refine Runs_cnd rfl rfl (Grd.is rfl) [(41, _), (42, _)] (fun hg => ⟨cnd_at rfl (by first | exact hg | exact hg.1 | exact hg.1.1 | exact hg.1.1.1), cnd_at rfl (by first | exact hg | exact hg.1 | exact hg.1.1 | exact hg.1.1.1), trivial⟩) (fun hg => Valid.neq rfl rfl rfl) (by rfl) rfl ?_
      refine Runs_p rfl (Valid.pickor rfl rfl rfl rfl (fun h => by first | exact h | exact ⟨hg, h⟩)) rfl rfl ?_ -- law.go:133 pick
      refine Runs_nil ?_
      refine thenQ_n ?_
      refine W_cond _ rfl (fun hb2 => ?_) (fun hb2 => ?_)
      · try simp only [decide_eq_true_eq, Bool.or_eq_true, not_true_eq_false, ne_eq] at hb2
        all_goals (
          exfalso
          first | omega | (simp at hb2; omega)
          
          done)
      · try simp only [decide_eq_false_iff_not, Bool.or_eq_false_iff, not_true_eq_false, not_false_eq_true, ne_eq] at hb2
        all_goals (
          refine W_skip ?_
          refine thenQ_n ?_
          refine W_seq ?_
          refine W_regionE (c := 32) (c' := 33) (by kernel_rfl) rfl ?_
          refine Runs_p rfl (Valid.assignk (A := Is _) rfl rfl) rfl rfl ?_ -- law.go:136 assign
          refine Runs_nil ?_
          refine thenQ_n ?_
          refine W_seq ?_
          refine W_block ?_
          refine W_loopx (G := Nat) (fun (d : Nat) => d ≤ e) [(7, Is _), (8, Is _), (11, Sl 1 _ _)] (fun (d : Nat) => [(13, Is (.int .i64 (d : Int)))]) [] (fun (d : Nat) => []) 33 (fun (d : Nat) => e - d) (0) [] (by first | trivial | omega | (simp; omega)) ⟨⟨(leq_is rfl rfl (by first | rfl)), trivial⟩, ⟨(leq_is rfl rfl rfl), (leq_is rfl rfl rfl), (leq_sl (Reads.sl rfl) rfl rfl rfl), trivial⟩, trivial, trivial, rfl, ⟨supg rfl, trivial⟩, ⟨supg rfl, supg rfl, supg rfl, trivial⟩, trivial, trivial, rfl, rfl⟩ ?_
          intro d hI2
          have hpi := pw_i d
          have hp9 := pw_9 (d := d) (by omega)
          refine W_seq ?_
          refine W_seq ?_
          have hp9 := pw_9 (d := d) (by omega)
          have hpi := pw_i d
          refine W_regionE (c := 33) (c' := 37) (by kernel_rfl) rfl ?_
          refine Runs_p rfl (Valid.movek (A := Is _) rfl rfl) rfl rfl ?_ -- law.go:137 move
          refine Runs_p rfl (Valid.shl rfl rfl rfl (by first | omega | (simp only [Int.toNat_natCast]; omega)) (by show (d : Int).toNat ≤ 64; omega) (pw_room (by omega))) rfl rfl ?_ -- law.go:137 binOp
          refine Runs_p rfl (Valid.movek (A := Is _) rfl rfl) rfl rfl ?_ -- law.go:137 move
          refine Runs_p rfl (Valid.lss rfl rfl rfl) rfl rfl ?_ -- law.go:137 binOp
          refine Runs_nil ?_
          refine thenQ_n ?_
          refine W_cond _ rfl (fun hb3 => ?_) (fun hb3 => ?_)
          · try simp only [Int.toNat_natCast, decide_eq_true_eq] at hb3
            all_goals (
              refine W_skip ?_
              refine thenQ_n ?_
              refine W_block ?_
              refine W_regionE (c := 37) (c' := 40) (by kernel_rfl) rfl ?_
              refine Runs_p rfl (Valid.movek (A := Is _) rfl rfl) rfl rfl ?_ -- law.go:138 move
              refine Runs_p rfl (Valid.add rfl rfl rfl (room64 (by first | omega | (simp only [Int.toNat_natCast, toNat_add, toNat_add1, List.length_append, List.length_cons, List.length_nil, List.length_replicate]; omega)) (by first | omega | (simp only [Int.toNat_natCast, toNat_add, toNat_add1, List.length_append, List.length_cons, List.length_nil, List.length_replicate]; omega)))) rfl rfl ?_ -- law.go:138 binOp
              refine Runs_p rfl (Valid.assignk (A := Is _) rfl rfl) rfl rfl ?_ -- law.go:138 assign
              refine Runs_nil ?_
              refine blockQ_n ?_
              refine LoopQ.next (d + 1) [] (by rw [hpi] at hb3; by_cases c : d = e; (· rw [c] at hb3; omega); (· omega)) (by rw [hpi] at hb3; by_cases c : d = e; (· rw [c] at hb3; omega); (· omega)) ⟨⟨(leq_is rfl rfl (by first | rfl)), trivial⟩, ⟨(leq_is rfl rfl rfl), (leq_is rfl rfl rfl), (leq_sl (Reads.sl rfl) rfl rfl rfl), trivial⟩, trivial, trivial, rfl, ⟨supg rfl, trivial⟩, ⟨supg rfl, supg rfl, supg rfl, trivial⟩, trivial, trivial, rfl, rfl⟩
              done)
          · try simp only [Int.toNat_natCast, decide_eq_false_iff_not] at hb3
            all_goals (
              refine W_exit ?_
              refine thenQ_e ?_
              refine loopQ_e ?_
              refine blockQ_x ?_
              refine thenQ_n ?_
              refine W_seq ?_
              refine W_seq ?_
              have hde : d = e := by
                rw [hpi] at hb3
                by_cases c : d < e
                · have := Nat.pow_le_pow_right (n := 2) (by decide) (show d ≤ e - 1 by omega)
                  omega
                · omega
              subst hde
              refine W_regionE (c := 37) (c' := 38) (by kernel_rfl) rfl ?_
              refine Runs_p rfl (Valid.assignk (A := Is _) rfl rfl) rfl rfl ?_ -- law.go:140 assign
              refine Runs_nil ?_
              refine thenQ_n ?_
              refine W_block ?_
              refine W_loopx (G := Nat) (fun (q : Nat) => q ≤ l.length) [(7, Is _), (8, Is _), (11, Sl 1 _ _), (13, Is _)] (fun (q : Nat) => [(14, Is (.int .i64 (q : Int)))]) [] (fun (q : Nat) => []) 38 (fun (q : Nat) => l.length - q) (0) [] (by first | trivial | omega | (simp; omega)) ⟨⟨(leq_is rfl rfl (by first | rfl)), trivial⟩, ⟨(leq_is rfl rfl rfl), (leq_is rfl rfl rfl), (leq_sl (Reads.sl rfl) rfl rfl rfl), (leq_is rfl rfl rfl), trivial⟩, trivial, trivial, rfl, ⟨supg rfl, trivial⟩, ⟨supg rfl, supg rfl, supg rfl, supg rfl, trivial⟩, trivial, trivial, rfl, rfl⟩ ?_
              intro q hI3
              refine W_seq ?_
              refine W_seq ?_
              refine W_regionE (c := 38) (c' := 41) (by kernel_rfl) rfl ?_
              refine Runs_p rfl (Valid.movek (A := Is _) rfl rfl) rfl rfl ?_ -- law.go:140 move
              refine Runs_p rfl (Valid.movek (A := Is _) rfl rfl) rfl rfl ?_ -- law.go:140 move
              refine Runs_p rfl (Valid.lss rfl rfl rfl) rfl rfl ?_ -- law.go:140 binOp
              refine Runs_nil ?_
              refine thenQ_n ?_
              refine W_cond _ rfl (fun hb4 => ?_) (fun hb4 => ?_)
              · try simp only [decide_eq_true_eq] at hb4
                all_goals (
                  refine W_skip ?_
                  refine thenQ_n ?_
                  refine W_seq ?_
                  refine W_block ?_
                  refine W_seq ?_
                  have hlq := hle q (by omega)
                  have hgq : l.getD (q : Int).toNat 0 = l.getD q 0 := rfl
                  refine W_regionE (c := 41) (c' := 62) (by kernel_rfl) rfl ?_
                  refine Runs_p rfl (Valid.movek (A := Sl 1 _ _) rfl rfl) rfl rfl ?_ -- law.go:141 move
                  refine Runs_p rfl (Valid.movek (A := Is _) rfl rfl) rfl rfl ?_ -- law.go:141 move
                  refine Runs_p rfl (Valid.eltaddr1 0 rfl Try.underlying22 sz3 (Reads.sl rfl) rfl (by first | omega | (simp only [Int.toNat_natCast, toNat_add, toNat_add1, List.length_append, List.length_cons, List.length_nil, List.length_replicate]; omega)) (by first | rfl | simp)) rfl rfl ?_ -- law.go:141 indexAddr
                  refine Runs_p rfl (Valid.loadelt rfl ag3 rfl) rfl rfl ?_ -- law.go:141 load
                  refine Runs_p rfl (Valid.movek (A := Is _) rfl rfl) rfl rfl ?_ -- law.go:141 move
                  refine Runs_p rfl (Valid.neq rfl rfl rfl) rfl rfl ?_ -- law.go:141 binOp
                  refine Runs_p rfl (Valid.movek (A := Is _) rfl rfl) rfl rfl ?_ -- law.go:141 move
                  refine Runs_cnd rfl rfl (Grd.is rfl) [] (fun hg => trivial) (fun hg => Valid.movek (A := Sl 1 _ _) rfl rfl) (by rfl) rfl ?_
                  refine Runs_cnd rfl rfl (Grd.is rfl) [] (fun hg => trivial) (fun hg => Valid.movek (A := Is _) rfl rfl) (by rfl) rfl ?_
                  refine Runs_cnd rfl rfl (Grd.is rfl) [(63, _), (64, _)] (fun hg => ⟨cnd_at rfl (by first | exact hg | exact hg.1 | exact hg.1.1 | exact hg.1.1.1), cnd_at rfl (by first | exact hg | exact hg.1 | exact hg.1.1 | exact hg.1.1.1), trivial⟩) (fun hg => Valid.eltaddr1 0 rfl Try.underlying22 sz3 (Reads.sl rfl) rfl (by (try simp only [Int.toNat_natCast, decide_eq_true_eq, ne_eq] at hg); first | omega | (simp only [Int.toNat_natCast, toNat_add, toNat_add1, List.length_append, List.length_cons, List.length_nil, List.length_replicate]; omega)) (by first | rfl | simp)) (by rfl) rfl ?_
                  refine Runs_cnd rfl rfl (Grd.is rfl) [(65, _)] (fun hg => ⟨cnd_at rfl (by first | exact hg | exact hg.1 | exact hg.1.1 | exact hg.1.1.1), trivial⟩) (fun hg => Valid.loadelt rfl ag3 rfl) (by rfl) rfl ?_
                  refine Runs_cnd rfl rfl (Grd.is rfl) [] (fun hg => trivial) (fun hg => Valid.movek (A := Is _) rfl rfl) (by rfl) rfl ?_
                  refine Runs_cnd rfl rfl (Grd.is rfl) [(67, _)] (fun hg => ⟨cnd_at rfl (by first | exact hg | exact hg.1 | exact hg.1.1 | exact hg.1.1.1), trivial⟩) (fun hg => Valid.sub rfl rfl rfl (room64 (by (try simp only [Int.toNat_natCast, decide_eq_true_eq, ne_eq] at hg); first | omega | (simp only [Int.toNat_natCast, toNat_add, toNat_add1, List.length_append, List.length_cons, List.length_nil, List.length_replicate]; omega)) (by (try simp only [Int.toNat_natCast, decide_eq_true_eq, ne_eq] at hg); first | omega | (simp only [Int.toNat_natCast, toNat_add, toNat_add1, List.length_append, List.length_cons, List.length_nil, List.length_replicate]; omega)))) (by rfl) rfl ?_
                  refine Runs_cnd rfl rfl (Grd.is rfl) [(66, _), (68, _)] (fun hg => ⟨cnd_at rfl (by first | exact hg | exact hg.1 | exact hg.1.1 | exact hg.1.1.1), cnd_at rfl (by first | exact hg | exact hg.1 | exact hg.1.1 | exact hg.1.1.1), trivial⟩) (fun hg => Valid.neq rfl rfl rfl) (by rfl) rfl ?_
                  refine Runs_cnd rfl rfl (Grd.is rfl) [(69, _)] (fun hg => ⟨cnd_at rfl (by first | exact hg | exact hg.1 | exact hg.1.1 | exact hg.1.1.1), trivial⟩) (fun hg => Valid.movek (A := Is _) rfl rfl) (by rfl) rfl ?_
                  refine Runs_cnd rfl rfl (Grd.cnd rfl) [] (fun hg => trivial) (fun hg => Valid.movek (A := Is _) rfl rfl) (by rfl) rfl ?_
                  refine Runs_cnd rfl rfl (Grd.cnd rfl) [(71, _)] (fun hg => ⟨cnd_at rfl (by first | exact hg | exact hg.1 | exact hg.1.1 | exact hg.1.1.1), trivial⟩) (fun hg => Valid.shl rfl rfl rfl (by first | omega | (simp only [Int.toNat_natCast]; omega)) (by show (d : Int).toNat ≤ 64; omega) (pw_room (by omega))) (by rfl) rfl ?_
                  refine Runs_cnd rfl rfl (Grd.cnd rfl) [] (fun hg => trivial) (fun hg => Valid.movek (A := Is _) rfl rfl) (by rfl) rfl ?_
                  refine Runs_cnd rfl rfl (Grd.cnd rfl) [(72, _), (73, _)] (fun hg => ⟨cnd_at rfl (by first | exact hg | exact hg.1 | exact hg.1.1 | exact hg.1.1.1), cnd_at rfl (by first | exact hg | exact hg.1 | exact hg.1.1 | exact hg.1.1.1), trivial⟩) (fun hg => Valid.eql rfl rfl rfl) (by rfl) rfl ?_
                  refine Runs_cnd rfl rfl (Grd.is rfl) [(70, _)] (fun hg => ⟨cnd_at rfl (by first | exact hg | exact hg.1 | exact hg.1.1 | exact hg.1.1.1), trivial⟩) (fun hg => Valid.pickor rfl rfl rfl rfl (fun h => by first | exact h | exact ⟨hg, h⟩)) (by rfl) rfl ?_
                  refine Runs_p rfl (Valid.pickand rfl rfl rfl (fun h => by first | exact h | exact ⟨hg, h⟩) rfl) rfl rfl ?_ -- law.go:141 pick
                  refine Runs_nil ?_
                  refine thenQ_n ?_
                  refine W_cond _ rfl (fun hb5 => ?_) (fun hb5 => ?_)
                  · try simp only [Int.toNat_natCast, decide_eq_true_eq, Bool.and_eq_true, Bool.or_eq_true, ne_eq] at hb5
                    all_goals (
                      exfalso
                      first | omega | (simp at hb5; omega)
                      
                      done)
                  · try simp only [Int.toNat_natCast, decide_eq_false_iff_not, Bool.and_eq_false_iff, Bool.or_eq_false_iff, ne_eq] at hb5
                    all_goals (
                      refine W_skip ?_
                      refine blockQ_n ?_
                      refine thenQ_n ?_
                      refine W_regionE (c := 62) (c' := 65) (by kernel_rfl) rfl ?_
                      refine Runs_p rfl (Valid.movek (A := Is _) rfl rfl) rfl rfl ?_ -- law.go:140 move
                      refine Runs_p rfl (Valid.add rfl rfl rfl (room64 (by first | omega | (simp only [Int.toNat_natCast, toNat_add, toNat_add1, List.length_append, List.length_cons, List.length_nil, List.length_replicate]; omega)) (by first | omega | (simp only [Int.toNat_natCast, toNat_add, toNat_add1, List.length_append, List.length_cons, List.length_nil, List.length_replicate]; omega)))) rfl rfl ?_ -- law.go:140 binOp
                      refine Runs_p rfl (Valid.assignk (A := Is _) rfl rfl) rfl rfl ?_ -- law.go:140 assign
                      refine Runs_nil ?_
                      refine LoopQ.next (q + 1) [] (by omega) (by omega) ⟨⟨(leq_is rfl rfl (by first | rfl)), trivial⟩, ⟨(leq_is rfl rfl rfl), (leq_is rfl rfl rfl), (leq_sl (Reads.sl rfl) rfl rfl rfl), (leq_is rfl rfl rfl), trivial⟩, trivial, trivial, rfl, ⟨supg rfl, trivial⟩, ⟨supg rfl, supg rfl, supg rfl, supg rfl, trivial⟩, trivial, trivial, rfl, rfl⟩
                      done)
                  done)
              · try simp only [decide_eq_false_iff_not] at hb4
                all_goals (
                  refine W_exit ?_
                  refine thenQ_e ?_
                  refine loopQ_e ?_
                  refine blockQ_x ?_
                  refine thenQ_n ?_
                  refine W_seq ?_
                  refine W_regionE (c := 41) (c' := 43) (by kernel_rfl) rfl ?_
                  refine Runs_p rfl (Valid.movek (A := Is _) rfl rfl) rfl rfl ?_ -- law.go:145 move
                  refine Runs_p rfl (Valid.assignk (A := Is _) rfl rfl) rfl rfl ?_ -- law.go:145 assign
                  refine Runs_nil ?_
                  refine thenQ_n ?_
                  refine W_ret ?_
                  refine finQ_r ?_
                  refine ResOk.one rfl (RVal.is rfl rfl (by first | rfl | (exfalso; simp at hb1; done) | (exfalso; simp at hb2; done) | (exfalso; simp at hb3; done) | (exfalso; simp at hb4; done) | (exfalso; simp at hb5; done) | (exfalso; simp at hb6; done) | (exfalso; simp at hb7; done) | (exfalso; simp at hb8; done) | (exfalso; simp at hb9; done) | (exfalso; simp at hb10; done) | (exfalso; simp at hb11; done) | (exfalso; simp at hb12; done) | (exfalso; simp at hb13; done)))
                  done)
              done)
          done)
      done)
end Wr
end Go.Proofs.Ytepncgcpjbgbnaa
