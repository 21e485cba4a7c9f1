/-
  WALKS of stage 8: symbols of one length.
-/
import Derived.Test.YtdcenocljnlipaaRows
import Derived.Test.YtdcenocljnlipaaMgb
namespace Go.Proofs.Ytdcenocljnlipaa
open Go.RowKit
namespace Oa
open Ab
theorem ag22 (w : World) : (isAgg 22).run Try.prog w = .ok false w := by kernel_rfl
theorem ag3 (w : World) : (isAgg 3).run Try.prog w = .ok false w := by kernel_rfl
theorem sz3 (w : World) : (sizeOf 3).run Try.prog w = .ok 1 w := by kernel_rfl
def olA (l : List Int) (n : Int) (i : Nat) : List Nat := (List.range i).filter fun j => decide (l.getD j 0 = n)
def olL (l : List Int) (n : Int) : List Nat := olA l n l.length
theorem olA_y {l : List Int} {n : Int} {i : Nat} (h : l.getD i 0 = n) : olA l n (i + 1) = olA l n i ++ [i] := by
  rw [olA, List.range_succ, List.filter_append, olA]
  simp only [List.filter_cons, List.filter_nil]
  rw [if_pos (by simpa using h)]
theorem olA_n {l : List Int} {n : Int} {i : Nat} (h : ¬ l.getD i 0 = n) : olA l n (i + 1) = olA l n i := by
  rw [olA, List.range_succ, List.filter_append, olA]
  simp only [List.filter_cons, List.filter_nil]
  rw [if_neg (by simpa using h), List.append_nil]
theorem olA_pre (l : List Int) (n : Int) (i : Nat) : ∀ k, ∃ r, olA l n (i + k) = olA l n i ++ r
  | 0 => ⟨[], by simp⟩
  | k + 1 => by
    obtain ⟨r, hr⟩ := olA_pre l n i k
    rw [← Nat.add_assoc]
    by_cases h : l.getD (i + k) 0 = n
    · exact ⟨r ++ [i + k], by rw [olA_y h, hr, List.append_assoc]⟩
    · exact ⟨r, by rw [olA_n h, hr]⟩
theorem olL_at {l : List Int} {n : Int} {i : Nat} (hi : i < l.length) (h : l.getD i 0 = n) : (olA l n i).length < (olL l n).length ∧ i = (olL l n).getD (olA l n i).length 0 := by
  obtain ⟨r, hr⟩ := olA_pre l n (i + 1) (l.length - (i + 1))
  rw [show i + 1 + (l.length - (i + 1)) = l.length by omega, olA_y h, List.append_assoc] at hr
  constructor
  · rw [olL, hr]; simp
  · rw [olL, hr, List.getD_eq_getElem?_getD, List.getElem?_append_right (Nat.le_refl _), Nat.sub_self]; rfl
theorem olA_le (l : List Int) (n : Int) (i : Nat) : (olA l n i).length ≤ i := by
  have := List.length_filter_le (fun j => decide (l.getD j 0 = n)) (List.range i)
  rw [List.length_range] at this
  exact this

set_option maxRecDepth 100000 in
set_option maxHeartbeats 1000000 in
theorem of_s (l : List Int) (n : Int) :
    FPure Try.prog 45 [Sl 1 l.length (l.map (Value.int .i64)), Is (.int .i64 n)] (FnV 57 [] [FzV (Sl 1 l.length (l.map (Value.int .i64))), Fz [.int .i64 n]]) := by
  refine FPure.of Try.func45 Try.ntmps45 rfl (by kernel_rfl) rfl rfl rfl ?_
  refine W_seq ?_
  refine W_regionE (c := 1) (c' := 4) (by kernel_rfl) rfl ?_
  refine Runs_w rfl (Valid.box rfl (One.sl (Reads.sl rfl))) rfl rfl ?_
  refine Runs_w rfl (Valid.box rfl (One.is rfl rfl rfl)) rfl rfl ?_
  refine Runs_p rfl (Valid.assignk (A := Is _) rfl rfl) rfl rfl ?_
  refine Runs_nil ?_
  refine thenQ_n ?_
  refine W_seq ?_
  refine W_regionE (c := 4) (c' := 6) (by kernel_rfl) rfl ?_
  refine Runs_p rfl (Valid.makefunc rfl) rfl rfl ?_
  refine Runs_p rfl (Valid.assignk (A := FnV 57 [] [Ptr 8 0, Ptr 16 0]) rfl rfl) rfl rfl ?_
  refine Runs_nil ?_
  refine thenQ_n ?_
  refine W.ent ?_ (Ent.freezeG 4 8 (A := Sl 1 l.length (l.map (Value.int .i64))) (caps' := [FzV (Sl 1 l.length (l.map (Value.int .i64))), Ptr 16 0]) rfl rfl rfl ⟨.inr ⟨rfl, rfl⟩, .inl rfl, trivial⟩)
  refine W.ent ?_ (Ent.freezeF 4 16 (vs := [.int .i64 n]) (caps' := [FzV (Sl 1 l.length (l.map (Value.int .i64))), Fz [.int .i64 n]]) rfl rfl ⟨.inl rfl, .inr ⟨rfl, rfl⟩, trivial⟩)
  refine W_ret ?_
  refine finQ_r ?_
  refine ResOk.one rfl (RVal.tmp (fun _ _ _ h => h))

set_option maxRecDepth 100000 in
set_option maxHeartbeats 1000000 in
theorem of_it (l : List Int) (n : Int) (hl : l.length ≤ 1000000000000) :
    FIter Try.prog 57 [EltV (Sl 1 l.length (l.map (Value.int .i64))), Elt [.int .i64 n]] ((olL l n).length) (fun q => [Is (.int .i64 (((olL l n).getD q 0 : Nat) : Int))]) := by
  refine FIter.of Try.func57 Try.ntmps57 rfl (by kernel_rfl) rfl rfl (fun _ => rfl) (fun l_ go_ => ?_)
  refine W_seq ?_
  refine W_regionE (c := 1) (c' := 4) (by kernel_rfl) rfl ?_
  refine Runs_p rfl (Valid.loadeltV rfl ag22 rfl) rfl rfl ?_
  refine Runs_p rfl (Valid.len rfl Try.underlying22 (Reads.sl rfl)) rfl rfl ?_
  refine Runs_p rfl (Valid.movek (A := Is _) rfl rfl) rfl rfl ?_
  refine Runs_nil ?_
  refine thenQ_n ?_
  refine W_block ?_
  refine W_loopx (G := Nat) (fun (i : Nat) => i ≤ l.length ∧ ∀ j, j < (olA l n i).length → go_ j = true) [(0, Is _), (2, Elt _), (6, Sl 1 _ _), (7, Is _)] (fun (i : Nat) => [(8, Is (.int .i64 (i : Int)))]) [] (fun (i : Nat) => [(0, .idx ⟨l_, (olL l n).length, fun q => [Is (.int .i64 (((olL l n).getD q 0 : Nat) : Int))], go_⟩ ((olA l n i).length))]) 4 (fun (i : Nat) => l.length - i) (0) [] (⟨Nat.zero_le _, fun j hj => by simp [olA] at hj⟩) ⟨⟨(leq_is rfl rfl (by first | rfl | (rw [olA_n hs]) | (rw [olA_y hs]; simp))), trivial⟩, ⟨(leq_is rfl rfl rfl), (leq_elt rfl rfl rfl), (leq_sl (Reads.sl rfl) rfl rfl rfl), (leq_is rfl rfl rfl), trivial⟩, ⟨hp_idx rfl (by first | rfl | (rw [olA_n hs]) | (rw [olA_y hs]; simp)), trivial⟩, trivial, rfl, ⟨supg rfl, trivial⟩, ⟨supg rfl, supg rfl, supg rfl, supg rfl, trivial⟩, ⟨suph rfl rfl, trivial⟩, trivial, rfl, rfl⟩ ?_
  intro i hI1
  refine W_seq ?_
  refine W_regionE (c := 4) (c' := 5) (by kernel_rfl) rfl ?_
  refine Runs_p rfl (Valid.lss rfl rfl rfl) rfl rfl ?_
  refine Runs_nil ?_
  refine thenQ_n ?_
  refine W_seq ?_
  refine W_cond _ rfl (fun hb1 => ?_) (fun hb1 => ?_)
  · try simp only [decide_eq_true_eq] at hb1
    all_goals (
      refine W_skip ?_
      refine thenQ_n ?_
      refine W_seq ?_
      refine W_block ?_
      refine W_seq ?_
      refine W_regionE (c := 5) (c' := 10) (by kernel_rfl) rfl ?_
      refine Runs_p rfl (Valid.movek (A := Is _) rfl rfl) rfl rfl ?_
      refine Runs_p rfl (Valid.eltaddr1 0 rfl Try.underlying22 sz3 (Reads.sl rfl) rfl (by omega) rfl) rfl rfl ?_
      refine Runs_p rfl (Valid.loadelt rfl ag3 rfl) rfl rfl ?_
      refine Runs_p rfl (Valid.assignk (A := Is _) rfl rfl) rfl rfl ?_
      refine Runs_p rfl (Valid.assignk (A := Is _) rfl rfl) rfl rfl ?_
      refine Runs_nil ?_
      refine thenQ_n ?_
      refine W_seq ?_
      by_cases hs : l.getD i 0 = n
      · skip
        have hq := olL_at (show i < l.length by omega) hs
        have hs0 : decide (l.getD (i : Int).toNat 0 = n) = true := decide_eq_true hs
        refine W_regionE (c := 10) (c' := 19) (by kernel_rfl) rfl ?_
        refine Runs_p rfl (Valid.movek (A := Is _) rfl rfl) rfl rfl ?_
        refine Runs_p rfl (Valid.loadelt rfl ag3 rfl) rfl rfl ?_
        refine Runs_p rfl (Valid.eql rfl rfl rfl) rfl rfl ?_
        refine Runs_p rfl (Valid.movek (A := Is _) rfl rfl) rfl rfl ?_
        refine Runs_yesp rfl rfl (Grd.is rfl) (by exact hs0) (Valid.movek (A := Is _) rfl rfl) rfl rfl ?_
        refine Runs_yesp rfl rfl (Grd.is rfl) (by exact hs0) (Valid.movek (A := Is _) rfl rfl) rfl rfl ?_
        refine Runs_yesy rfl rfl (Grd.is rfl) (by exact hs0) (VOp.yieldx rfl rfl rfl (hq.1) (hI1.2) ⟨argle (congrArg (fun z : Nat => Is (Value.int .i64 (z : Int))) hq.2), trivial⟩ rfl) rfl rfl ?_
        refine Runs_yesp rfl rfl (Grd.is rfl) (by exact hs0) (Valid.not rfl rfl) rfl rfl ?_
        refine Runs_p rfl (Valid.pickY (A := Is _) rfl rfl (by exact hs0) rfl) rfl rfl ?_
        refine Runs_nil ?_
        refine thenQ_n ?_
        refine W_cond _ rfl (fun hb2 => ?_) (fun hb2 => ?_)
        · try simp only [Bool.not_eq_true'] at hb2
          all_goals (
            refine W_ret ?_
            refine blockQ_r ?_
            refine thenQ_r ?_
            refine loopQ_r ?_
            refine blockQ_r ?_
            exact finIQ_r (ResOk.none rfl (fun _ _ => rfl)) rfl (by first | exact (stop_at hq.1 hI1.2 (by assumption)).symm | (rw [show i = l.length by omega]; exact (stop_all (by rw [show i = l.length by omega] at hI1; exact hI1.2)).symm))
            done)
        · try simp only [Bool.not_eq_false'] at hb2
          all_goals (
            refine W_skip ?_
            refine blockQ_n ?_
            refine thenQ_n ?_
            refine W_regionE (c := 19) (c' := 21) (by kernel_rfl) rfl ?_
            refine Runs_p rfl (Valid.add rfl rfl rfl (room64 (by omega) (by omega))) rfl rfl ?_
            refine Runs_p rfl (Valid.movek (A := Is _) rfl rfl) rfl rfl ?_
            refine Runs_nil ?_
            refine LoopQ.next (i + 1) [] (⟨by omega, by first | (rw [olA_n hs]; exact hI1.2) | (intro j hj; rw [olA_y hs, List.length_append, List.length_singleton] at hj; by_cases e : j = (olA l n i).length; (· subst e; assumption); (· exact hI1.2 j (by omega)))⟩) (by first | omega | (dsimp only; omega)) ⟨⟨(leq_is rfl rfl (by first | rfl | (rw [olA_n hs]) | (rw [olA_y hs]; simp))), trivial⟩, ⟨(leq_is rfl rfl rfl), (leq_elt rfl rfl rfl), (leq_sl (Reads.sl rfl) rfl rfl rfl), (leq_is rfl rfl rfl), trivial⟩, ⟨hp_idx rfl (by first | rfl | (rw [olA_n hs]) | (rw [olA_y hs]; simp)), trivial⟩, trivial, rfl, ⟨supg rfl, trivial⟩, ⟨supg rfl, supg rfl, supg rfl, supg rfl, trivial⟩, ⟨suph rfl rfl, trivial⟩, trivial, rfl, rfl⟩
            done)
      · skip
        have hs0 : ¬ decide (l.getD (i : Int).toNat 0 = n) = true := fun h => hs (of_decide_eq_true h)
        refine W_regionE (c := 10) (c' := 19) (by kernel_rfl) rfl ?_
        refine Runs_p rfl (Valid.movek (A := Is _) rfl rfl) rfl rfl ?_
        refine Runs_p rfl (Valid.loadelt rfl ag3 rfl) rfl rfl ?_
        refine Runs_p rfl (Valid.eql rfl rfl rfl) rfl rfl ?_
        refine Runs_p rfl (Valid.movek (A := Is _) rfl rfl) rfl rfl ?_
        refine Runs_no rfl rfl (Grd.is rfl) (by exact hs0) rfl ?_
        refine Runs_no rfl rfl (Grd.is rfl) (by exact hs0) rfl ?_
        refine Runs_no rfl rfl (Grd.is rfl) (by exact hs0) rfl ?_
        refine Runs_no rfl rfl (Grd.is rfl) (by exact hs0) rfl ?_
        refine Runs_p rfl (Valid.pickN (A := Is (.bool false)) rfl rfl (by simpa using hs0) rfl) rfl rfl ?_
        refine Runs_nil ?_
        refine thenQ_n ?_
        refine W_cond _ rfl (fun hb3 => ?_) (fun hb3 => ?_)
        · try simp only [Bool.false_eq_true] at hb3
          all_goals (
            refine W_ret ?_
            refine blockQ_r ?_
            refine thenQ_r ?_
            refine loopQ_r ?_
            refine blockQ_r ?_
            exact finIQ_r (ResOk.none rfl (fun _ _ => rfl)) rfl (by first | exact (stop_at hq.1 hI1.2 (by assumption)).symm | (rw [show i = l.length by omega]; exact (stop_all (by rw [show i = l.length by omega] at hI1; exact hI1.2)).symm))
            done)
        · try simp only [] at hb3
          all_goals (
            refine W_skip ?_
            refine blockQ_n ?_
            refine thenQ_n ?_
            refine W_regionE (c := 19) (c' := 21) (by kernel_rfl) rfl ?_
            refine Runs_p rfl (Valid.add rfl rfl rfl (room64 (by omega) (by omega))) rfl rfl ?_
            refine Runs_p rfl (Valid.movek (A := Is _) rfl rfl) rfl rfl ?_
            refine Runs_nil ?_
            refine LoopQ.next (i + 1) [] (⟨by omega, by first | (rw [olA_n hs]; exact hI1.2) | (intro j hj; rw [olA_y hs, List.length_append, List.length_singleton] at hj; by_cases e : j = (olA l n i).length; (· subst e; assumption); (· exact hI1.2 j (by omega)))⟩) (by first | omega | (dsimp only; omega)) ⟨⟨(leq_is rfl rfl (by first | rfl | (rw [olA_n hs]) | (rw [olA_y hs]; simp))), trivial⟩, ⟨(leq_is rfl rfl rfl), (leq_elt rfl rfl rfl), (leq_sl (Reads.sl rfl) rfl rfl rfl), (leq_is rfl rfl rfl), trivial⟩, ⟨hp_idx rfl (by first | rfl | (rw [olA_n hs]) | (rw [olA_y hs]; simp)), trivial⟩, trivial, rfl, ⟨supg rfl, trivial⟩, ⟨supg rfl, supg rfl, supg rfl, supg rfl, trivial⟩, ⟨suph rfl rfl, trivial⟩, trivial, rfl, rfl⟩
            done)
      done)
  · try simp only [decide_eq_false_iff_not] at hb1
    all_goals (
      refine W_exit ?_
      refine thenQ_e ?_
      refine loopQ_e ?_
      refine blockQ_x ?_
      exact finIQ_n (ResOk.none rfl (fun _ _ => rfl)) rfl (by first | exact (stop_at hq.1 hI1.2 (by assumption)).symm | (rw [show i = l.length by omega]; exact (stop_all (by rw [show i = l.length by omega] at hI1; exact hI1.2)).symm))
      done)
end Oa
end Go.Proofs.Ytdcenocljnlipaa
