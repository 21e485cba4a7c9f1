/-
  WALKS of stage 11: lists of lists; as the document counts.
-/
import Derived.Test.YtdcenocljnlipaaRows
import Derived.Test.YtdcenocljnlipaaMgc
import Derived.Test.YtdcenocljnlipaaWa
import Derived.Test.YtdcenocljnlipaaWb
import Derived.Test.YtdcenocljnlipaaWm
import Derived.Test.YtdcenocljnlipaaWc
import Derived.Test.YtdcenocljnlipaaWd
import Derived.Test.YtdcenocljnlipaaWe
import Derived.Test.YtdcenocljnlipaaWf
import Derived.Test.YtdcenocljnlipaaWg
import Derived.Test.YtdcenocljnlipaaWk
import Derived.Test.YtdcenocljnlipaaOa
import Derived.Test.YtdcenocljnlipaaOb
import Derived.Test.YtdcenocljnlipaaOc
import Derived.Test.YtdcenocljnlipaaOd
import Derived.Test.YtdcenocljnlipaaOf
import Derived.Test.YtdcenocljnlipaaOi
import Derived.Test.YtdcenocljnlipaaWh
import Derived.Test.YtdcenocljnlipaaCm
import Derived.Test.YtdcenocljnlipaaKa
import Derived.Test.YtdcenocljnlipaaKb
import Derived.Test.YtdcenocljnlipaaKl
namespace Go.Proofs.Ytdcenocljnlipaa
open Go.RowKit
namespace Kc
open Ab Wa Wb Wm Wc Wd We Wf Wg Wk Oa Ob Oc Od Of Oi Wh Cm Ka Kb Kl
theorem ag22 (w : World) : (isAgg 22).run Try.prog w = .ok false w := by kernel_rfl
theorem ag3 (w : World) : (isAgg 3).run Try.prog w = .ok false w := by kernel_rfl
theorem sz22 (w : World) : (sizeOf 22).run Try.prog w = .ok 1 w := by kernel_rfl
theorem sz3 (w : World) : (sizeOf 3).run Try.prog w = .ok 1 w := by kernel_rfl
set_option maxRecDepth 100000 in
set_option maxHeartbeats 1000000 in
theorem pick11_s (c n : Int) (h1 : -9223372036854775808 ≤ c) (h2 : c ≤ 9223372036854775807) (h3 : 0 < n) (_h4 : n ≤ 9223372036854775807) :
    FPure Try.prog 9 [Is (.int .i64 c), Is (.int .i64 n)] (Is (.int .i64 (pickV c n))) := by
  refine FPure.of Try.func9 Try.ntmps9 rfl (by kernel_rfl) rfl rfl rfl ?_
  refine W_seq ?_
  refine W_regionE (c := 1) (c' := 2) (by kernel_rfl) rfl ?_
  refine Runs_p rfl (Valid.assignk (A := Is _) rfl rfl) rfl rfl ?_
  refine Runs_nil ?_
  refine thenQ_n ?_
  refine W_seq ?_
  refine W_seq ?_
  refine W_regionE (c := 2) (c' := 4) (by kernel_rfl) rfl ?_
  refine Runs_p rfl (Valid.movek (A := Is _) rfl rfl) rfl rfl ?_
  refine Runs_p rfl (Valid.lss rfl rfl rfl) rfl rfl ?_
  refine Runs_nil ?_
  refine thenQ_n ?_
  refine W_cond _ rfl (fun hb1 => ?_) (fun hb1 => ?_)
  · try simp only [decide_eq_true_eq] at hb1
    all_goals (
      refine W_regionE (c := 4) (c' := 8) (by kernel_rfl) rfl ?_
      refine Runs_p rfl (Valid.movek (A := Is _) rfl rfl) rfl rfl ?_
      refine Runs_p rfl (Valid.add rfl rfl rfl (room64 (by omega) (by omega))) rfl rfl ?_
      refine Runs_p rfl (Valid.neg rfl rfl (room64 (by omega) (by omega))) rfl rfl ?_
      refine Runs_p rfl (Valid.assignk (A := Is _) rfl rfl) rfl rfl ?_
      refine Runs_nil ?_
      refine thenQ_n ?_
      refine W_seq ?_
      refine W_regionE (c := 8) (c' := 12) (by kernel_rfl) rfl ?_
      refine Runs_p rfl (Valid.movek (A := Is _) rfl rfl) rfl rfl ?_
      refine Runs_p rfl (Valid.movek (A := Is _) rfl rfl) rfl rfl ?_
      refine Runs_p rfl (Valid.rem rfl rfl rfl (by omega) (by omega)) rfl rfl ?_
      refine Runs_p rfl (Valid.assignk (A := Is _) rfl rfl) rfl rfl ?_
      refine Runs_nil ?_
      refine thenQ_n ?_
      refine W_ret ?_
      refine finQ_r ?_
      refine ResOk.one rfl (RVal.is rfl rfl (by simp only [pickV]; split <;> first | rfl | omega))
      done)
  · try simp only [decide_eq_false_iff_not] at hb1
    all_goals (
      refine W_skip ?_
      refine thenQ_n ?_
      refine W_seq ?_
      refine W_regionE (c := 4) (c' := 8) (by kernel_rfl) rfl ?_
      refine Runs_p rfl (Valid.movek (A := Is _) rfl rfl) rfl rfl ?_
      refine Runs_p rfl (Valid.movek (A := Is _) rfl rfl) rfl rfl ?_
      refine Runs_p rfl (Valid.rem rfl rfl rfl (by omega) (by omega)) rfl rfl ?_
      refine Runs_p rfl (Valid.assignk (A := Is _) rfl rfl) rfl rfl ?_
      refine Runs_nil ?_
      refine thenQ_n ?_
      refine W_ret ?_
      refine finQ_r ?_
      refine ResOk.one rfl (RVal.is rfl rfl (by simp only [pickV]; split <;> first | rfl | omega))
      done)

theorem ltake_s (a b : List (List Int)) (k : Nat) (h1 : k < a.length) (h2 : k < b.length) (h : a.take k = b.take k) (he : a.getD k [] = b.getD k []) : a.take (k + 1) = b.take (k + 1) := by
  rw [List.take_succ_eq_append_getElem h1, List.take_succ_eq_append_getElem h2, h]
  rw [List.getD_eq_getElem?_getD, List.getD_eq_getElem?_getD, List.getElem?_eq_getElem h1, List.getElem?_eq_getElem h2] at he
  rw [show a[k] = b[k] from he]
theorem l_eq {a b : List (List Int)} {i : Nat} (h : a.take i = b.take i) (hl : a.length = b.length) (hi : a.length ≤ i) : a = b := by
  rwa [List.take_of_length_le hi, List.take_of_length_le (by omega)] at h
theorem l_ne {a b : List (List Int)} {i : Nat} (h : a.getD i [] ≠ b.getD i []) : a ≠ b := fun e => h (by rw [e])
theorem i_eq {x y : List Int} {k : Nat} (h : x.take k = y.take k) (hl : x.length = y.length) (hi : x.length ≤ k) : x = y := by
  rwa [List.take_of_length_le hi, List.take_of_length_le (by omega)] at h

set_option maxRecDepth 100000 in
set_option maxHeartbeats 1000000 in
theorem lists_s (a b : List (List Int)) (ha : a.length ≤ 1000000000) (hb : b.length ≤ 1000000000) (hx : ∀ x ∈ a, x.length ≤ 1000000000) (hy : ∀ x ∈ b, x.length ≤ 1000000000) :
    FPure Try.prog 12 [SlA 1 a.length (a.map Fl), SlA 1 b.length (b.map Fl)] (Is (.bool (decide (a = b)))) := by
  refine FPure.of Try.func12 Try.ntmps12 rfl (by kernel_rfl) rfl rfl rfl ?_
  refine W_seq ?_
  refine W_regionE (c := 1) (c' := 2) (by kernel_rfl) rfl ?_
  refine Runs_p rfl (Valid.assignk (A := Is _) rfl rfl) rfl rfl ?_
  refine Runs_nil ?_
  refine thenQ_n ?_
  refine W_seq ?_
  refine W_seq ?_
  refine W_regionE (c := 2) (c' := 7) (by kernel_rfl) rfl ?_
  refine Runs_p rfl (Valid.movek (A := SlA 1 _ _) rfl rfl) rfl rfl ?_
  refine Runs_p rfl (Valid.lenA rfl Try.underlying27 (ReadsA.sla rfl)) rfl rfl ?_
  refine Runs_p rfl (Valid.movek (A := SlA 1 _ _) rfl rfl) rfl rfl ?_
  refine Runs_p rfl (Valid.lenA rfl Try.underlying27 (ReadsA.sla rfl)) rfl rfl ?_
  refine Runs_p rfl (Valid.neq rfl rfl rfl) rfl rfl ?_
  refine Runs_nil ?_
  refine thenQ_n ?_
  refine W_cond _ rfl (fun hb1 => ?_) (fun hb1 => ?_)
  · try simp only [decide_eq_true_eq, ne_eq] at hb1
    all_goals (
      refine W_seq ?_
      refine W_regionE (c := 7) (c' := 8) (by kernel_rfl) rfl ?_
      refine Runs_p rfl (Valid.assignk (A := Is _) rfl rfl) rfl rfl ?_
      refine Runs_nil ?_
      refine thenQ_n ?_
      refine W_ret ?_
      refine thenQ_r ?_
      refine finQ_r ?_
      refine ResOk.one rfl (RVal.is rfl rfl (by first | (rw [decide_eq_true (l_eq hi2 (by omega) (by omega))]; done) | (rw [decide_eq_false (fun e => by subst e; omega)]; done) | (rw [decide_eq_false (l_ne (i := i) (fun e => by rw [e] at *; omega))]; done) | (rw [decide_eq_false (l_ne (i := i) (ne_of_at _ _ k (by first | assumption | omega)))]; done)))
      done)
  · try simp only [decide_eq_false_iff_not, ne_eq] at hb1
    all_goals (
      refine W_skip ?_
      refine thenQ_n ?_
      refine W_seq ?_
      refine W_seq ?_
      refine W_regionE (c := 7) (c' := 8) (by kernel_rfl) rfl ?_
      refine Runs_p rfl (Valid.assignk (A := Is _) rfl rfl) rfl rfl ?_
      refine Runs_nil ?_
      refine thenQ_n ?_
      refine W_block ?_
      refine W_loopx (G := Nat) (fun (i : Nat) => i ≤ a.length ∧ a.take i = b.take i) [(0, SlA 1 _ _), (1, SlA 1 _ _)] (fun (i : Nat) => [(5, Is (.int .i64 (i : Int)))]) [] (fun (i : Nat) => []) 8 (fun (i : Nat) => a.length - i) (0) [] (⟨by omega, rfl⟩) ⟨⟨(leq_is rfl rfl (by first | rfl)), trivial⟩, ⟨(leq_sla (ReadsA.sla rfl) rfl rfl rfl), (leq_sla (ReadsA.sla rfl) rfl rfl rfl), trivial⟩, trivial, trivial, rfl, ⟨supg rfl, trivial⟩, ⟨supg rfl, supg rfl, trivial⟩, trivial, trivial, rfl, rfl⟩ ?_
      intro i hI1
      obtain ⟨hi1, hi2⟩ := hI1
      refine W_seq ?_
      refine W_seq ?_
      refine W_regionE (c := 8) (c' := 12) (by kernel_rfl) rfl ?_
      refine Runs_p rfl (Valid.movek (A := Is _) rfl rfl) rfl rfl ?_
      refine Runs_p rfl (Valid.movek (A := SlA 1 _ _) rfl rfl) rfl rfl ?_
      refine Runs_p rfl (Valid.lenA rfl Try.underlying27 (ReadsA.sla rfl)) rfl rfl ?_
      refine Runs_p rfl (Valid.lss rfl rfl rfl) rfl rfl ?_
      refine Runs_nil ?_
      refine thenQ_n ?_
      refine W_cond _ rfl (fun hb2 => ?_) (fun hb2 => ?_)
      · try simp only [decide_eq_true_eq] at hb2
        all_goals (
          refine W_skip ?_
          refine thenQ_n ?_
          refine W_seq ?_
          refine W_block ?_
          refine W_seq ?_
          refine W_seq ?_
          have hxi : (a.getD (i : Int).toNat []).length ≤ 1000000000 := hx _ (by rw [Int.toNat_natCast, List.getD_eq_getElem?_getD, List.getElem?_eq_getElem (by omega)]; exact List.getElem_mem _)
          have hyi : (b.getD (i : Int).toNat []).length ≤ 1000000000 := hy _ (by rw [Int.toNat_natCast, List.getD_eq_getElem?_getD, List.getElem?_eq_getElem (by omega)]; exact List.getElem_mem _)
          have hgi : (a.getD (i : Int).toNat []).length = (a.getD i []).length := rfl
          have hgj : (b.getD (i : Int).toNat []).length = (b.getD i []).length := rfl
          refine W_drawE (c := 12) (c' := 23) (by kernel_rfl) rfl ?_
          refine Runs_p rfl (Valid.movek (A := SlA 1 _ _) rfl rfl) rfl rfl ?_
          refine Runs_p rfl (Valid.movek (A := Is _) rfl rfl) rfl rfl ?_
          refine Runs_p rfl (Valid.eltM (F := Fl) [] rfl Try.underlying27 sz22 (ReadsA.sla rfl) rfl (by omega) rfl) rfl rfl ?_
          refine Runs_p rfl (Valid.loadeltSl rfl ag22 rfl rfl) rfl rfl ?_
          refine Runs_p rfl (Valid.len rfl Try.underlying22 (Reads.sl rfl)) rfl rfl ?_
          refine Runs_p rfl (Valid.movek (A := SlA 1 _ _) rfl rfl) rfl rfl ?_
          refine Runs_p rfl (Valid.movek (A := Is _) rfl rfl) rfl rfl ?_
          refine Runs_p rfl (Valid.eltM (F := Fl) [] rfl Try.underlying27 sz22 (ReadsA.sla rfl) rfl (by omega) rfl) rfl rfl ?_
          refine Runs_p rfl (Valid.loadeltSl rfl ag22 rfl rfl) rfl rfl ?_
          refine Runs_p rfl (Valid.len rfl Try.underlying22 (Reads.sl rfl)) rfl rfl ?_
          refine Runs_p rfl (Valid.neq rfl rfl rfl) rfl rfl ?_
          refine Runs_nil ?_
          refine ⟨_, _, rfl, rfl, by kernel_rfl, ?_⟩
          refine thenQ_n ?_
          refine W_cond _ rfl (fun hb3 => ?_) (fun hb3 => ?_)
          · try simp only [Int.toNat_natCast, decide_eq_true_eq, ne_eq] at hb3
            all_goals (
              refine W_seq ?_
              refine W_regionE (c := 23) (c' := 24) (by kernel_rfl) rfl ?_
              refine Runs_p rfl (Valid.assignk (A := Is _) rfl rfl) rfl rfl ?_
              refine Runs_nil ?_
              refine thenQ_n ?_
              refine W_ret ?_
              refine thenQ_r ?_
              refine blockQ_r ?_
              refine thenQ_r ?_
              refine loopQ_r ?_
              refine blockQ_r ?_
              refine thenQ_r ?_
              refine finQ_r ?_
              refine ResOk.one rfl (RVal.is rfl rfl (by first | (rw [decide_eq_true (l_eq hi2 (by omega) (by omega))]; done) | (rw [decide_eq_false (fun e => by subst e; omega)]; done) | (rw [decide_eq_false (l_ne (i := i) (fun e => by rw [e] at *; omega))]; done) | (rw [decide_eq_false (l_ne (i := i) (ne_of_at _ _ k (by first | assumption | omega)))]; done)))
              done)
          · try simp only [Int.toNat_natCast, decide_eq_false_iff_not, ne_eq] at hb3
            all_goals (
              refine W_skip ?_
              refine thenQ_n ?_
              refine W_seq ?_
              refine W_regionE (c := 23) (c' := 24) (by kernel_rfl) rfl ?_
              refine Runs_p rfl (Valid.assignk (A := Is _) rfl rfl) rfl rfl ?_
              refine Runs_nil ?_
              refine thenQ_n ?_
              refine W_block ?_
              refine W_loopx (G := Nat) (fun (k : Nat) => k ≤ (a.getD i []).length ∧ (a.getD i []).take k = (b.getD i []).take k) [(0, SlA 1 _ _), (1, SlA 1 _ _), (5, Is _)] (fun (k : Nat) => [(6, Is (.int .i64 (k : Int)))]) [] (fun (k : Nat) => []) 24 (fun (k : Nat) => (a.getD i []).length - k) (0) [] (⟨by omega, rfl⟩) ⟨⟨(leq_is rfl rfl (by first | rfl)), trivial⟩, ⟨(leq_sla (ReadsA.sla rfl) rfl rfl rfl), (leq_sla (ReadsA.sla rfl) rfl rfl rfl), (leq_is rfl rfl rfl), trivial⟩, trivial, trivial, rfl, ⟨supg rfl, trivial⟩, ⟨supg rfl, supg rfl, supg rfl, trivial⟩, trivial, trivial, rfl, rfl⟩ ?_
              intro k hI2
              obtain ⟨hk1, hk2⟩ := hI2
              refine W_seq ?_
              refine W_seq ?_
              refine W_regionE (c := 24) (c' := 31) (by kernel_rfl) rfl ?_
              refine Runs_p rfl (Valid.movek (A := Is _) rfl rfl) rfl rfl ?_
              refine Runs_p rfl (Valid.movek (A := SlA 1 _ _) rfl rfl) rfl rfl ?_
              refine Runs_p rfl (Valid.movek (A := Is _) rfl rfl) rfl rfl ?_
              refine Runs_p rfl (Valid.eltM (F := Fl) [] rfl Try.underlying27 sz22 (ReadsA.sla rfl) rfl (by omega) rfl) rfl rfl ?_
              refine Runs_p rfl (Valid.loadeltSl rfl ag22 rfl rfl) rfl rfl ?_
              refine Runs_p rfl (Valid.len rfl Try.underlying22 (Reads.sl rfl)) rfl rfl ?_
              refine Runs_p rfl (Valid.lss rfl rfl rfl) rfl rfl ?_
              refine Runs_nil ?_
              refine thenQ_n ?_
              refine W_cond _ rfl (fun hb4 => ?_) (fun hb4 => ?_)
              · try simp only [Int.toNat_natCast, decide_eq_true_eq] at hb4
                all_goals (
                  refine W_skip ?_
                  refine thenQ_n ?_
                  refine W_seq ?_
                  refine W_block ?_
                  refine W_seq ?_
                  refine W_drawE (c := 31) (c' := 46) (by kernel_rfl) rfl ?_
                  refine Runs_p rfl (Valid.movek (A := SlA 1 _ _) rfl rfl) rfl rfl ?_
                  refine Runs_p rfl (Valid.movek (A := Is _) rfl rfl) rfl rfl ?_
                  refine Runs_p rfl (Valid.eltM (F := Fl) [] rfl Try.underlying27 sz22 (ReadsA.sla rfl) rfl (by omega) rfl) rfl rfl ?_
                  refine Runs_p rfl (Valid.loadeltSl rfl ag22 rfl rfl) rfl rfl ?_
                  refine Runs_p rfl (Valid.movek (A := Is _) rfl rfl) rfl rfl ?_
                  refine Runs_p rfl (Valid.eltaddr1 0 rfl Try.underlying22 sz3 (Reads.sl rfl) rfl (by omega) rfl) rfl rfl ?_
                  refine Runs_p rfl (Valid.loadelt rfl ag3 rfl) rfl rfl ?_
                  refine Runs_p rfl (Valid.movek (A := SlA 1 _ _) rfl rfl) rfl rfl ?_
                  refine Runs_p rfl (Valid.movek (A := Is _) rfl rfl) rfl rfl ?_
                  refine Runs_p rfl (Valid.eltM (F := Fl) [] rfl Try.underlying27 sz22 (ReadsA.sla rfl) rfl (by omega) rfl) rfl rfl ?_
                  refine Runs_p rfl (Valid.loadeltSl rfl ag22 rfl rfl) rfl rfl ?_
                  refine Runs_p rfl (Valid.movek (A := Is _) rfl rfl) rfl rfl ?_
                  refine Runs_p rfl (Valid.eltaddr1 0 rfl Try.underlying22 sz3 (Reads.sl rfl) rfl (by omega) rfl) rfl rfl ?_
                  refine Runs_p rfl (Valid.loadelt rfl ag3 rfl) rfl rfl ?_
                  refine Runs_p rfl (Valid.neq rfl rfl rfl) rfl rfl ?_
                  refine Runs_nil ?_
                  refine ⟨_, _, rfl, rfl, by kernel_rfl, ?_⟩
                  refine thenQ_n ?_
                  refine W_cond _ rfl (fun hb5 => ?_) (fun hb5 => ?_)
                  · try simp only [Int.toNat_natCast, decide_eq_true_eq, ne_eq] at hb5
                    all_goals (
                      refine W_seq ?_
                      refine W_regionE (c := 46) (c' := 47) (by kernel_rfl) rfl ?_
                      refine Runs_p rfl (Valid.assignk (A := Is _) rfl rfl) rfl rfl ?_
                      refine Runs_nil ?_
                      refine thenQ_n ?_
                      refine W_ret ?_
                      refine blockQ_r ?_
                      refine thenQ_r ?_
                      refine loopQ_r ?_
                      refine blockQ_r ?_
                      refine blockQ_r ?_
                      refine thenQ_r ?_
                      refine loopQ_r ?_
                      refine blockQ_r ?_
                      refine thenQ_r ?_
                      refine finQ_r ?_
                      refine ResOk.one rfl (RVal.is rfl rfl (by first | (rw [decide_eq_true (l_eq hi2 (by omega) (by omega))]; done) | (rw [decide_eq_false (fun e => by subst e; omega)]; done) | (rw [decide_eq_false (l_ne (i := i) (fun e => by rw [e] at *; omega))]; done) | (rw [decide_eq_false (l_ne (i := i) (ne_of_at _ _ k (by first | assumption | omega)))]; done)))
                      done)
                  · try simp only [Int.toNat_natCast, decide_eq_false_iff_not, ne_eq] at hb5
                    all_goals (
                      refine W_skip ?_
                      refine blockQ_n ?_
                      refine thenQ_n ?_
                      refine W_regionE (c := 46) (c' := 49) (by kernel_rfl) rfl ?_
                      refine Runs_p rfl (Valid.movek (A := Is _) rfl rfl) rfl rfl ?_
                      refine Runs_p rfl (Valid.add rfl rfl rfl (room64 (by omega) (by omega))) rfl rfl ?_
                      refine Runs_p rfl (Valid.assignk (A := Is _) rfl rfl) rfl rfl ?_
                      refine Runs_nil ?_
                      refine LoopQ.next (k + 1) [] (⟨by omega, take_eq_snoc _ _ k (by omega) (by omega) hk2 (by first | assumption | omega)⟩) (by omega) ⟨⟨(leq_is rfl rfl (by first | rfl)), trivial⟩, ⟨(leq_sla (ReadsA.sla rfl) rfl rfl rfl), (leq_sla (ReadsA.sla rfl) rfl rfl rfl), (leq_is rfl rfl rfl), trivial⟩, trivial, trivial, rfl, ⟨supg rfl, trivial⟩, ⟨supg rfl, supg rfl, supg rfl, trivial⟩, trivial, trivial, rfl, rfl⟩
                      done)
                  done)
              · try simp only [Int.toNat_natCast, decide_eq_false_iff_not] at hb4
                all_goals (
                  refine W_exit ?_
                  refine thenQ_e ?_
                  refine loopQ_e ?_
                  refine blockQ_x ?_
                  refine blockQ_n ?_
                  refine thenQ_n ?_
                  refine W_regionE (c := 31) (c' := 34) (by kernel_rfl) rfl ?_
                  refine Runs_p rfl (Valid.movek (A := Is _) rfl rfl) rfl rfl ?_
                  refine Runs_p rfl (Valid.add rfl rfl rfl (room64 (by omega) (by omega))) rfl rfl ?_
                  refine Runs_p rfl (Valid.assignk (A := Is _) rfl rfl) rfl rfl ?_
                  refine Runs_nil ?_
                  refine LoopQ.next (i + 1) [] (⟨by omega, ltake_s a b i (by omega) (by omega) hi2 (i_eq (k := k) hk2 (by omega) (by omega))⟩) (by omega) ⟨⟨(leq_is rfl rfl (by first | rfl)), trivial⟩, ⟨(leq_sla (ReadsA.sla rfl) rfl rfl rfl), (leq_sla (ReadsA.sla rfl) rfl rfl rfl), trivial⟩, trivial, trivial, rfl, ⟨supg rfl, trivial⟩, ⟨supg rfl, supg rfl, trivial⟩, trivial, trivial, rfl, rfl⟩
                  done)
              done)
          done)
      · try simp only [decide_eq_false_iff_not] at hb2
        all_goals (
          refine W_exit ?_
          refine thenQ_e ?_
          refine loopQ_e ?_
          refine blockQ_x ?_
          refine thenQ_n ?_
          refine W_seq ?_
          refine W_regionE (c := 12) (c' := 13) (by kernel_rfl) rfl ?_
          refine Runs_p rfl (Valid.assignk (A := Is _) rfl rfl) rfl rfl ?_
          refine Runs_nil ?_
          refine thenQ_n ?_
          refine W_ret ?_
          refine finQ_r ?_
          refine ResOk.one rfl (RVal.is rfl rfl (by first | (rw [decide_eq_true (l_eq hi2 (by omega) (by omega))]; done) | (rw [decide_eq_false (fun e => by subst e; omega)]; done) | (rw [decide_eq_false (l_ne (i := i) (fun e => by rw [e] at *; omega))]; done) | (rw [decide_eq_false (l_ne (i := i) (ne_of_at _ _ k (by first | assumption | omega)))]; done)))
          done)
      done)

theorem lsame {a : List (List Int)} (ha : a.length ≤ 1000000000) (hx : ∀ x ∈ a, x.length ≤ 1000000000) : FPure Try.prog 12 [SlA 1 a.length (a.map Fl), SlA 1 a.length (a.map Fl)] (Is (.bool true)) := by
  have h := lists_s a a ha ha hx hx
  rw [decide_eq_true rfl] at h
  exact h

theorem gsl2 {m : List Int} {k : Nat} (h : (10 * (k : Int)) < m.length) : Sl 1 ((min (10 * (k : Int) + 10) (m.length : Int)).toNat - (10 * (k : Int)).toNat) (((m.drop (10 * (k : Int)).toNat).take ((min (10 * (k : Int) + 10) (m.length : Int)).toNat - (10 * (k : Int)).toNat)).map (Value.int .i64)) = Fl (gp m k) := by
  rw [show 10 * (k : Int) = (k : Int) * 10 by omega, show (k : Int) * 10 + 10 = ((k : Int) + 1) * 10 by omega]
  exact gsl (by omega)
theorem rg_s {m : List Int} {k : Nat} (h : (10 * (k : Int)) < m.length) : (gpA m k).map Fl ++ [Sl 1 ((min (10 * (k : Int) + 10) (m.length : Int)).toNat - (10 * (k : Int)).toNat) (((m.drop (10 * (k : Int)).toNat).take ((min (10 * (k : Int) + 10) (m.length : Int)).toNat - (10 * (k : Int)).toNat)).map (Value.int .i64))] = (gpA m (k + 1)).map Fl := by
  rw [gsl2 h, gpA_s, List.map_append]; rfl
/-- as the document counts -/
def oA (m : List Int) (n : Nat) (f : Int) : Nat → List Int
  | 0 => List.replicate n 0
  | i + 1 => if (i : Int) / 10 % 2 = f then (oA m n f i).set (m.getD i 0).toNat ((oA m n f i).getD (m.getD i 0).toNat 0 + 1) else oA m n f i
theorem oA_len (m : List Int) (n : Nat) (f : Int) : ∀ i, (oA m n f i).length = n
  | 0 => List.length_replicate
  | i + 1 => by
    rw [oA]
    split
    · rw [List.length_set, oA_len m n f i]
    · exact oA_len m n f i
theorem gp_at {m : List Int} {k j : Nat} (hj : j < (gp m k).length) : (gp m k).getD j 0 = m.getD (10 * k + j) 0 := by
  have := gp_len m k
  unfold gp
  rw [List.getD_eq_getElem?_getD, List.getElem?_take, if_pos (by omega), List.getElem?_drop, ← List.getD_eq_getElem?_getD]
theorem oA_blk {m : List Int} {n : Nat} {f : Int} {k : Nat} (h : oA m n f (10 * k) = ctA m n f k) : ∀ j, j ≤ (gp m k).length → oA m n f (10 * k + j) = if (k : Int) % 2 = f then incA (ctA m n f k) (gp m k) j else ctA m n f k
  | 0, _ => by rw [Nat.add_zero, h, incA]; split <;> rfl
  | j + 1, hj => by
    have ih := oA_blk h j (by omega)
    have hl := gp_len m k
    have e1 : ((10 * k + j : Nat) : Int) / 10 % 2 = (k : Int) % 2 := by omega
    rw [← Nat.add_assoc, oA, e1, ← gp_at (by omega), ih]
    by_cases c : (k : Int) % 2 = f
    · rw [if_pos c, if_pos c, if_pos c, incA]
    · rw [if_neg c, if_neg c, if_neg c]
theorem oA_ct {m : List Int} {n : Nat} {f : Int} : ∀ k, k ≤ ng m → oA m n f (min (10 * k) m.length) = ctA m n f k
  | 0, _ => by rw [Nat.mul_zero, Nat.zero_min]; rfl
  | k + 1, hk => by
    have hng : ng m = (m.length + 9) / 10 := rfl
    have ih := oA_ct (m := m) (n := n) (f := f) k (by omega)
    rw [show min (10 * k) m.length = 10 * k by omega] at ih
    have hl := gp_len m k
    have := oA_blk ih (gp m k).length (Nat.le_refl _)
    rw [show 10 * k + (gp m k).length = min (10 * (k + 1)) m.length by omega] at this
    rw [this]
    by_cases c : (k : Int) % 2 = f
    · rw [if_pos c, ctA_y c]
    · rw [if_neg c, ctA_n c]
theorem oA_all (m : List Int) (n : Nat) (f : Int) : oA m n f m.length = ctF m n f := by
  have := oA_ct (m := m) (n := n) (f := f) (ng m) (Nat.le_refl _)
  rwa [show min (10 * ng m) m.length = m.length by unfold ng; omega] at this
theorem oA_bd (m : List Int) (n : Nat) (f : Int) : ∀ i, ∀ x ∈ oA m n f i, 0 ≤ x ∧ x ≤ i
  | 0, x, hx => by rw [oA] at hx; rw [List.eq_of_mem_replicate hx]; simp
  | i + 1, x, hx => by
    have ih := oA_bd m n f i
    rw [oA] at hx
    split at hx
    · rcases List.mem_or_eq_of_mem_set hx with h | h
      · have := ih x h; omega
      · by_cases c : (m.getD i 0).toNat < (oA m n f i).length
        · have := ih _ (getD_mem' c); omega
        · rw [List.getD_eq_getElem?_getD (l := oA m n f i), List.getElem?_eq_none (by omega)] at h
          simp at h; omega
    · have := ih x hx; omega
theorem oA_y {m : List Int} {n : Nat} {f : Int} {i : Nat} (h : (i : Int) / 10 % 2 = f) : (oA m n f i).set (m.getD i 0).toNat ((oA m n f i).getD (m.getD i 0).toNat 0 + 1) = oA m n f (i + 1) := by rw [oA, if_pos h]
theorem oA_n {m : List Int} {n : Nat} {f : Int} {i : Nat} (h : ¬ (i : Int) / 10 % 2 = f) : oA m n f i = oA m n f (i + 1) := by rw [oA, if_neg h]
end Kc
end Go.Proofs.Ytdcenocljnlipaa
