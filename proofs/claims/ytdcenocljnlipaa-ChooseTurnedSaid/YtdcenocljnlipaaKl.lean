/-
  WALKS of stage 11: lengths and symbols that are drawn (of stage 8).
-/
import Derived.Test.YtdcenocljnlipaaRows
import Derived.Test.YtdcenocljnlipaaMgc
import Derived.Test.YtdcenocljnlipaaWa
import Derived.Test.YtdcenocljnlipaaWb
import Derived.Test.YtdcenocljnlipaaWm
import Derived.Test.YtdcenocljnlipaaWc
import Derived.Test.YtdcenocljnlipaaWd
import Derived.Test.YtdcenocljnlipaaWe
import Derived.Test.YtdcenocljnlipaaWf
import Derived.Test.YtdcenocljnlipaaWg
import Derived.Test.YtdcenocljnlipaaWk
import Derived.Test.YtdcenocljnlipaaOa
import Derived.Test.YtdcenocljnlipaaOb
import Derived.Test.YtdcenocljnlipaaOc
import Derived.Test.YtdcenocljnlipaaOd
import Derived.Test.YtdcenocljnlipaaOf
import Derived.Test.YtdcenocljnlipaaOi
import Derived.Test.YtdcenocljnlipaaWh
import Derived.Test.YtdcenocljnlipaaCm
import Derived.Test.YtdcenocljnlipaaKa
import Derived.Test.YtdcenocljnlipaaKb
namespace Go.Proofs.Ytdcenocljnlipaa
open Go.RowKit
namespace Kl
open Ab Wa Wb Wm Wc Wd We Wf Wg Wk Oa Ob Oc Od Of Oi Wh Cm Ka Kb
theorem ag3 (w : World) : (isAgg 3).run Try.prog w = .ok false w := by kernel_rfl
theorem sz3 (w : World) : (sizeOf 3).run Try.prog w = .ok 1 w := by kernel_rfl
theorem ti3 : TI Try.prog 3 1 8 := .mk' (z := (Value.int .i64 0)) (by kernel_rfl) rfl
set_option maxRecDepth 100000 in
set_option maxHeartbeats 1000000 in
theorem pick8_s (c n : Int) (h1 : -9223372036854775808 ≤ c) (h2 : c ≤ 9223372036854775807) (h3 : 0 < n) (_h4 : n ≤ 9223372036854775807) :
    FPure Try.prog 24 [Is (.int .i64 c), Is (.int .i64 n)] (Is (.int .i64 (pickV c n))) := by
  refine FPure.of Try.func24 Try.ntmps24 rfl (by kernel_rfl) rfl rfl rfl ?_
  refine W_seq ?_
  refine W_regionE (c := 1) (c' := 2) (by kernel_rfl) rfl ?_
  refine Runs_p rfl (Valid.assignk (A := Is _) rfl rfl) rfl rfl ?_
  refine Runs_nil ?_
  refine thenQ_n ?_
  refine W_seq ?_
  refine W_seq ?_
  refine W_regionE (c := 2) (c' := 4) (by kernel_rfl) rfl ?_
  refine Runs_p rfl (Valid.movek (A := Is _) rfl rfl) rfl rfl ?_
  refine Runs_p rfl (Valid.lss rfl rfl rfl) rfl rfl ?_
  refine Runs_nil ?_
  refine thenQ_n ?_
  refine W_cond _ rfl (fun hb1 => ?_) (fun hb1 => ?_)
  · try simp only [decide_eq_true_eq] at hb1
    all_goals (
      refine W_regionE (c := 4) (c' := 8) (by kernel_rfl) rfl ?_
      refine Runs_p rfl (Valid.movek (A := Is _) rfl rfl) rfl rfl ?_
      refine Runs_p rfl (Valid.add rfl rfl rfl (room64 (by omega) (by omega))) rfl rfl ?_
      refine Runs_p rfl (Valid.neg rfl rfl (room64 (by omega) (by omega))) rfl rfl ?_
      refine Runs_p rfl (Valid.assignk (A := Is _) rfl rfl) rfl rfl ?_
      refine Runs_nil ?_
      refine thenQ_n ?_
      refine W_seq ?_
      refine W_regionE (c := 8) (c' := 12) (by kernel_rfl) rfl ?_
      refine Runs_p rfl (Valid.movek (A := Is _) rfl rfl) rfl rfl ?_
      refine Runs_p rfl (Valid.movek (A := Is _) rfl rfl) rfl rfl ?_
      refine Runs_p rfl (Valid.rem rfl rfl rfl (by omega) (by omega)) rfl rfl ?_
      refine Runs_p rfl (Valid.assignk (A := Is _) rfl rfl) rfl rfl ?_
      refine Runs_nil ?_
      refine thenQ_n ?_
      refine W_ret ?_
      refine finQ_r ?_
      refine ResOk.one rfl (RVal.is rfl rfl (by simp only [pickV]; split <;> first | rfl | omega))
      done)
  · try simp only [decide_eq_false_iff_not] at hb1
    all_goals (
      refine W_skip ?_
      refine thenQ_n ?_
      refine W_seq ?_
      refine W_regionE (c := 4) (c' := 8) (by kernel_rfl) rfl ?_
      refine Runs_p rfl (Valid.movek (A := Is _) rfl rfl) rfl rfl ?_
      refine Runs_p rfl (Valid.movek (A := Is _) rfl rfl) rfl rfl ?_
      refine Runs_p rfl (Valid.rem rfl rfl rfl (by omega) (by omega)) rfl rfl ?_
      refine Runs_p rfl (Valid.assignk (A := Is _) rfl rfl) rfl rfl ?_
      refine Runs_nil ?_
      refine thenQ_n ?_
      refine W_ret ?_
      refine finQ_r ?_
      refine ResOk.one rfl (RVal.is rfl rfl (by simp only [pickV]; split <;> first | rfl | omega))
      done)

/-- symbols of which there are n, so many -/
def symV (raw : List Int) (n : Int) (k : Nat) : List Int := (raw.take k).map fun c => pickV c n
theorem sym_1 (raw : List Int) (n : Int) (k : Nat) (h : k < raw.length) : (symV raw n k).map I64 ++ [I64 (pickV (raw.getD (k : Int).toNat 0) n)] = (symV raw n (k + 1)).map I64 := by
  unfold symV
  rw [take_snoc raw k 0 h]; simp
theorem sym_len (raw : List Int) (n : Int) (k : Nat) : (symV raw n k).length = min k raw.length := by simp [symV]
theorem sym_end (raw : List Int) (n : Int) (k m : Nat) (hk : k ≤ raw.length) (hm : k ≤ m) (h : ¬ ((k : Int) < raw.length ∧ (k : Int) < m)) : symV raw n k = symV raw n m := by
  unfold symV
  by_cases e : k = m
  · rw [e]
  · rw [List.take_of_length_le (by omega), List.take_of_length_le (show raw.length ≤ m by omega)]

set_option maxRecDepth 100000 in
set_option maxHeartbeats 1000000 in
theorem sym_s (raw : List Int) (n : Int) (m : Nat) (hr : In64 raw) (hl : raw.length ≤ 9223372036854775807) (hn : 0 < n) (hn2 : n ≤ 1000000) (hm : m ≤ 1000000) :
    FPure Try.prog 10 [Sl 1 raw.length (raw.map (Value.int .i64)), Is (.int .i64 n), Is (.int .i64 (m : Int))] (Sl 1 (symV raw n m).length ((symV raw n m).map I64)) := by
  refine FPure.of Try.func10 Try.ntmps10 rfl (by kernel_rfl) rfl rfl rfl ?_
  refine W_seq ?_
  refine W_regionE (c := 1) (c' := 2) (by kernel_rfl) rfl ?_
  refine Runs_p rfl (Valid.assignk (A := Is (.slice none 0 0)) rfl rfl) rfl rfl ?_
  refine Runs_nil ?_
  refine thenQ_n ?_
  refine W_seq ?_
  refine W_regionE (c := 2) (c' := 3) (by kernel_rfl) rfl ?_
  refine Runs_p rfl (Valid.assignk (A := Is (.slice none 0 0)) rfl rfl) rfl rfl ?_
  refine Runs_nil ?_
  refine thenQ_n ?_
  refine W_seq ?_
  refine W_seq ?_
  refine W_regionE (c := 3) (c' := 4) (by kernel_rfl) rfl ?_
  refine Runs_p rfl (Valid.assignk (A := Is _) rfl rfl) rfl rfl ?_
  refine Runs_nil ?_
  refine thenQ_n ?_
  refine W_block ?_
  refine W.ent ?_ (Ent.ownnil 7 3 1 rfl)
  refine W_loopx (G := Nat) (fun (k : Nat) => k ≤ raw.length ∧ k ≤ m) [(0, Sl 1 _ _), (1, Is _), (2, Is _)] (fun (k : Nat) => [(8, Is (.int .i64 (k : Int))), (7, Ab.Own 32 1 k ((symV raw n k).map I64))]) [] (fun (k : Nat) => [(32, .row 3 1 k ((symV raw n k).map I64))]) 5 (fun (k : Nat) => raw.length - k) (0) [] (⟨by omega, by omega⟩) ⟨⟨(leq_is rfl rfl (by first | rfl | exact sym_1 _ _ _ (by omega))), (leq_own rfl rfl rfl (by first | rfl | exact sym_1 _ _ _ (by omega)) (by first | rfl | exact sym_1 _ _ _ (by omega))), trivial⟩, ⟨(leq_sl (Reads.sl rfl) rfl rfl rfl), (leq_is rfl rfl rfl), (leq_is rfl rfl rfl), trivial⟩, ⟨hp_row rfl (by first | rfl | exact sym_1 _ _ _ (by omega)) (by first | rfl | exact sym_1 _ _ _ (by omega)), trivial⟩, trivial, rfl, ⟨supg rfl, supg rfl, trivial⟩, ⟨supg rfl, supg rfl, supg rfl, trivial⟩, ⟨suph rfl rfl, trivial⟩, trivial, rfl, rfl⟩ ?_
  intro k hI1
  obtain ⟨hk1, hk2⟩ := hI1
  refine W_seq ?_
  refine W_seq ?_
  refine W_regionE (c := 5) (c' := 14) (by kernel_rfl) rfl ?_
  refine Runs_p rfl (Valid.movek (A := Is _) rfl rfl) rfl rfl ?_
  refine Runs_p rfl (Valid.movek (A := Sl 1 _ _) rfl rfl) rfl rfl ?_
  refine Runs_p rfl (Valid.len rfl Try.underlying22 (Reads.sl rfl)) rfl rfl ?_
  refine Runs_p rfl (Valid.lss rfl rfl rfl) rfl rfl ?_
  refine Runs_p rfl (Valid.movek (A := Is _) rfl rfl) rfl rfl ?_
  refine Runs_cnd rfl rfl (Grd.is rfl) [] (fun hg => trivial) (fun hg => Valid.movek (A := Is _) rfl rfl) (by rfl) rfl ?_
  refine Runs_cnd rfl rfl (Grd.is rfl) [] (fun hg => trivial) (fun hg => Valid.movek (A := Is _) rfl rfl) (by rfl) rfl ?_
  refine Runs_cnd rfl rfl (Grd.is rfl) [(14, _), (15, _)] (fun hg => ⟨cnd_at rfl (by first | exact hg | exact hg.1 | exact hg.1.1 | exact hg.1.1.1), cnd_at rfl (by first | exact hg | exact hg.1 | exact hg.1.1 | exact hg.1.1.1), trivial⟩) (fun hg => Valid.lss rfl rfl rfl) (by rfl) rfl ?_
  refine Runs_p rfl (Valid.pickand rfl rfl rfl (fun h => by first | exact h | exact ⟨hg, h⟩) rfl) rfl rfl ?_
  refine Runs_nil ?_
  refine thenQ_n ?_
  refine W_cond _ rfl (fun hb1 => ?_) (fun hb1 => ?_)
  · try simp only [decide_eq_true_eq, Bool.and_eq_true] at hb1
    all_goals (
      refine W_skip ?_
      refine thenQ_n ?_
      refine W_seq ?_
      refine W_block ?_
      refine W_regionE (c := 14) (c' := 24) (by kernel_rfl) rfl ?_
      refine Runs_p rfl (Valid.movek (A := Ab.Own 32 1 _ _) rfl rfl) rfl rfl ?_
      refine Runs_p rfl (Valid.movek (A := Sl 1 _ _) rfl rfl) rfl rfl ?_
      refine Runs_p rfl (Valid.movek (A := Is _) rfl rfl) rfl rfl ?_
      refine Runs_p rfl (Valid.eltaddr1 0 rfl Try.underlying22 sz3 (Reads.sl rfl) rfl (by omega) rfl) rfl rfl ?_
      refine Runs_p rfl (Valid.loadelt rfl ag3 rfl) rfl rfl ?_
      refine Runs_p rfl (Valid.movek (A := Is _) rfl rfl) rfl rfl ?_
      refine Runs_p rfl (Valid.call rfl (pick8_s _ _ (hr.at_ _).1 (hr.at_ _).2 (by omega) (by omega)) ⟨argle rfl, argle rfl, trivial⟩) rfl rfl ?_
      refine Runs_p rfl (Valid.lit (el := 3) [_] rfl rfl (fun _ => by kernel_rfl) rfl (by decide)) rfl rfl ?_
      refine Runs_w rfl (Valid.app rfl Try.underlying22 ti3 (by decide) rfl rfl (Reads.sl rfl) (by first | exact one_map (fun _ => rfl) | exact one_cons rfl one_nil | exact one_app (one_map (fun _ => rfl)) (one_cons rfl one_nil) | exact one_app (one_map (fun _ => rfl)) (one_map (fun _ => rfl)) | exact one_rep rfl | exact one_app (one_rep rfl) (one_map (fun _ => rfl)) | (intro u hu; simp at hu; rcases hu with rfl | hu <;> first | rfl | (subst hu; rfl))) (by simp only [maxLen]; omega) (by omega)) rfl rfl ?_
      refine Runs_p rfl (Valid.assignk (A := Ab.Own 176 1 _ _) rfl rfl) rfl rfl ?_
      refine Runs_nil ?_
      refine blockQ_n ?_
      refine thenQ_n ?_
      refine W_regionE (c := 24) (c' := 27) (by kernel_rfl) rfl ?_
      refine Runs_p rfl (Valid.movek (A := Is _) rfl rfl) rfl rfl ?_
      refine Runs_p rfl (Valid.add rfl rfl rfl (room64 (by omega) (by omega))) rfl rfl ?_
      refine Runs_p rfl (Valid.assignk (A := Is _) rfl rfl) rfl rfl ?_
      refine Runs_nil ?_
      refine LoopQ.next (k + 1) [(32, 176)] (⟨by omega, by omega⟩) (by first | omega | (dsimp only; omega)) ⟨⟨(leq_is rfl rfl (by first | rfl | exact sym_1 _ _ _ (by omega))), (leq_own rfl rfl rfl (by first | rfl | exact sym_1 _ _ _ (by omega)) (by first | rfl | exact sym_1 _ _ _ (by omega))), trivial⟩, ⟨(leq_sl (Reads.sl rfl) rfl rfl rfl), (leq_is rfl rfl rfl), (leq_is rfl rfl rfl), trivial⟩, ⟨hp_row rfl (by first | rfl | exact sym_1 _ _ _ (by omega)) (by first | rfl | exact sym_1 _ _ _ (by omega)), trivial⟩, trivial, rfl, ⟨supg rfl, supg rfl, trivial⟩, ⟨supg rfl, supg rfl, supg rfl, trivial⟩, ⟨suph rfl rfl, trivial⟩, trivial, rfl, rfl⟩
      done)
  · try simp only [decide_eq_false_iff_not, Bool.and_eq_false_iff] at hb1
    all_goals (
      refine W_exit ?_
      refine thenQ_e ?_
      refine loopQ_e ?_
      refine blockQ_x ?_
      refine thenQ_n ?_
      refine W_seq ?_
      refine W_regionE (c := 14) (c' := 16) (by kernel_rfl) rfl ?_
      refine Runs_p rfl (Valid.movek (A := Ab.Own 32 1 _ _) rfl rfl) rfl rfl ?_
      refine Runs_p rfl (Valid.assignk (A := Ab.Own 32 1 _ _) rfl rfl) rfl rfl ?_
      refine Runs_nil ?_
      refine thenQ_n ?_
      refine W_ret ?_
      refine finQ_r ?_
      refine ResOk.one rfl (RVal.sl (Reads.own rfl) rfl (by first | (rw [← sym_end raw n k m (by omega) (by omega) (by omega), sym_len]; omega) | (rw [← sym_end raw n k m (by omega) (by omega) (by omega)])) (by first | (rw [← sym_end raw n k m (by omega) (by omega) (by omega), sym_len]; omega) | (rw [← sym_end raw n k m (by omega) (by omega) (by omega)])))
      done)

theorem snd_bd {l : List Int} (h : (sndV l).2 = 0) : l.length ≤ 258 ∧ 2 ≤ l.length := by
  have h1 : (cntV l).2 = true := by
    cases hc : (cntV l).2 with
    | true => rfl
    | false => rw [sndV, if_pos hc] at h; simp at h
  have := cntV_bd h1
  exact ⟨this.2.1, this.2.2.1⟩
theorem snd_ok {l : List Int} (h : (sndV l).2 = 0) : (sndV l).1 = (cntV l).1 ∧ (cntV l).2 = true := by
  unfold sndV at h ⊢
  split at h
  · simp at h
  · rename_i h1
    split at h
    · simp at h
    · rename_i h2
      rw [if_neg h1, if_neg h2]; exact ⟨rfl, by simpa using h1⟩
def ln (l : List Int) (s : Nat) : Nat := (l.getD s 0).toNat
def OkL (l : List Int) : Prop := (sndV l).2 = 0
theorem OkL.good {l : List Int} (h : OkL l) {s : Nat} (hs : s < l.length) : 1 ≤ ln l s ∧ ln l s ≤ 20 ∧ l.getD s 0 = (ln l s : Int) := by
  obtain ⟨_, h2⟩ := snd_ok h
  obtain ⟨_, _, _, h3⟩ := cntV_bd h2
  have := h3 _ (getD_mem' hs)
  unfold Ob.good at this
  unfold ln
  omega
theorem OkL.len {l : List Int} (h : OkL l) : 2 ≤ l.length ∧ l.length ≤ 258 := by
  have := snd_bd h
  omega
/-- ranks -/

instance (l : List Int) : Decidable (OkL l) := by unfold OkL; infer_instance
/-- the length that is drawn -/
def drL (raw : List Int) (i : Nat) : Int := 1 + pickV (raw.getD i 0) 20
/-- one more length -/
def stL (raw : List Int) (i : Nat) (out : List Int) : List Int :=
  if out.length = max 2 i then
    if i < 2 then (if OkL (out.set i (drL raw i)) then out.set i (drL raw i) else out)
    else if OkL (out ++ [drL raw i]) then out ++ [drL raw i] else if OkL ((out ++ [drL raw i]).set i 20) then (out ++ [drL raw i]).set i 20 else out
  else out
def lenS (raw : List Int) : Nat → List Int
  | 0 => [20, 20]
  | i + 1 => stL raw i (lenS raw i)
def lenV (raw : List Int) (most : Nat) : List Int := lenS raw (min raw.length most)
theorem lenS_2 (raw : List Int) : ∀ i, 2 ≤ (lenS raw i).length ∧ (lenS raw i).length ≤ max 2 i
  | 0 => by rw [lenS]; simp
  | i + 1 => by
    have ih := lenS_2 raw i
    rw [lenS, stL]
    split
    · split
      · split
        · rw [List.length_set]; omega
        · omega
      · split
        · rw [List.length_append, List.length_singleton]; omega
        · split
          · rw [List.length_set, List.length_append, List.length_singleton]; omega
          · omega
    · omega
theorem ok_2020 : OkL [20, 20] := by unfold OkL; decide
theorem lenS_ok (raw : List Int) : ∀ i, OkL (lenS raw i)
  | 0 => ok_2020
  | i + 1 => by
    have ih := lenS_ok raw i
    rw [lenS, stL]
    split
    · split
      · split
        · assumption
        · exact ih
      · split
        · assumption
        · split
          · assumption
          · exact ih
    · exact ih
theorem lenS_a {raw : List Int} {i : Nat} (h : (lenS raw i).length = max 2 i) (hi : i < 2) (ho : OkL ((lenS raw i).set i (drL raw i))) : lenS raw (i + 1) = (lenS raw i).set i (drL raw i) := by rw [lenS, stL, if_pos h, if_pos hi, if_pos ho]
theorem lenS_b {raw : List Int} {i : Nat} (h : (lenS raw i).length = max 2 i) (hi : i < 2) (ho : ¬ OkL ((lenS raw i).set i (drL raw i))) : lenS raw (i + 1) = lenS raw i := by rw [lenS, stL, if_pos h, if_pos hi, if_neg ho]
theorem lenS_c {raw : List Int} {i : Nat} (h : (lenS raw i).length = max 2 i) (hi : ¬ i < 2) (ho : OkL (lenS raw i ++ [drL raw i])) : lenS raw (i + 1) = lenS raw i ++ [drL raw i] := by rw [lenS, stL, if_pos h, if_neg hi, if_pos ho]
theorem lenS_d {raw : List Int} {i : Nat} (h : (lenS raw i).length = max 2 i) (hi : ¬ i < 2) (ho : ¬ OkL (lenS raw i ++ [drL raw i])) (h2 : OkL ((lenS raw i ++ [drL raw i]).set i 20)) : lenS raw (i + 1) = (lenS raw i ++ [drL raw i]).set i 20 := by rw [lenS, stL, if_pos h, if_neg hi, if_neg ho, if_pos h2]
theorem lenS_e {raw : List Int} {i : Nat} (h : (lenS raw i).length = max 2 i) (hi : ¬ i < 2) (ho : ¬ OkL (lenS raw i ++ [drL raw i])) (h2 : ¬ OkL ((lenS raw i ++ [drL raw i]).set i 20)) : lenS raw (i + 1) = lenS raw i := by rw [lenS, stL, if_pos h, if_neg hi, if_neg ho, if_neg h2]
theorem lenS_stop {raw : List Int} {i : Nat} (h : (lenS raw i).length < i) (hi : 2 < i) : ∀ d, lenS raw (i + d) = lenS raw i
  | 0 => rfl
  | d + 1 => by
    have ih := lenS_stop h hi d
    rw [← Nat.add_assoc, lenS, ih, stL, if_neg (by omega)]
theorem OkL.in64 {l : List Int} (h : OkL l) : In64 l := fun x hx => by
  obtain ⟨i, hi, rfl⟩ := List.mem_iff_getElem.1 hx
  have := h.good hi
  rw [List.getD_eq_getElem?_getD, List.getElem?_eq_getElem hi] at this
  simp only [Option.getD_some] at this
  omega
theorem dr_bd (raw : List Int) (i : Nat) : 1 ≤ drL raw i ∧ drL raw i ≤ 20 := by
  have := pickV_range (raw.getD i 0) 20 (by decide)
  unfold drL; omega
theorem in64_set {l : List Int} (h : In64 l) (i : Nat) {x : Int} (hx : 1 ≤ x ∧ x ≤ 20) : In64 (l.set i x) := fun y hy => by
  rcases List.mem_or_eq_of_mem_set hy with h3 | h3
  · exact h y h3
  · subst h3; omega
theorem in64_app {l : List Int} (h : In64 l) {x : Int} (hx : 1 ≤ x ∧ x ≤ 20) : In64 (l ++ [x]) := fun y hy => by
  rcases List.mem_append.1 hy with h3 | h3
  · exact h y h3
  · simp at h3; subst h3; omega

def nxL (raw : List Int) (i : Nat) : List Int := if i < 2 then (lenS raw i).set i (drL raw i) else lenS raw i ++ [drL raw i]
theorem nx_a {raw : List Int} {i : Nat} (h : i < 2) : (lenS raw i).set (i : Int).toNat (drL raw i) = nxL raw i := by rw [nxL, if_pos h]; rfl
theorem nx_b {raw : List Int} {i : Nat} (h : ¬ i < 2) : lenS raw i ++ [drL raw i] = nxL raw i := by rw [nxL, if_neg h]
theorem nx_in {raw : List Int} {i : Nat} (h : In64 (lenS raw i)) : In64 (nxL raw i) := by
  unfold nxL
  split
  · exact in64_set h _ (dr_bd raw i)
  · exact in64_app h (dr_bd raw i)
theorem nx_len {raw : List Int} {i : Nat} (h : (lenS raw i).length = max 2 i) : (nxL raw i).length = max 2 (i + 1) := by
  unfold nxL
  split
  · rw [List.length_set]; omega
  · rw [List.length_append, List.length_singleton]; omega
theorem nx_1 {raw : List Int} {i : Nat} (h : (lenS raw i).length = max 2 i) (ho : (sndV (nxL raw i)).2 = 0) : lenS raw (i + 1) = nxL raw i := by
  unfold nxL at ho ⊢
  split
  · rename_i hi; rw [if_pos hi] at ho; exact lenS_a h hi ho
  · rename_i hi; rw [if_neg hi] at ho; exact lenS_c h hi ho
theorem nx_2 {raw : List Int} {i : Nat} (h : (lenS raw i).length = max 2 i) (ho : ¬ (sndV (nxL raw i)).2 = 0) (hi : ¬ i < 2) (h2 : (sndV ((nxL raw i).set i 20)).2 = 0) : lenS raw (i + 1) = (nxL raw i).set i 20 := by
  unfold nxL at ho h2 ⊢
  rw [if_neg hi] at ho h2 ⊢
  exact lenS_d h hi ho h2
theorem nx_3 {raw : List Int} {i : Nat} (h : (lenS raw i).length = max 2 i) (ho : ¬ (sndV (nxL raw i)).2 = 0) (h2 : ¬ (sndV ((nxL raw i).set i 20)).2 = 0 ∨ i < 2) : lenS raw (i + 1) = lenS raw i := by
  unfold nxL at ho h2
  by_cases hi : i < 2
  · rw [if_pos hi] at ho; exact lenS_b h hi ho
  · rw [if_neg hi] at ho h2
    rcases h2 with h2 | h2
    · exact lenS_e h hi ho h2
    · omega
theorem lenS_at {raw : List Int} {i : Nat} (_h : (lenS raw i).length = max 2 i) {x : List Int} (hx : lenS raw (i + 1) = x) (hxl : x.length ≤ i → i ≤ 1) : (lenS raw (i + 1)).length = max 2 (i + 1) := by
  have := lenS_2 raw (i + 1)
  rw [hx] at this ⊢
  omega
theorem lenS_ret {raw : List Int} {i most : Nat} (hi : i < raw.length) (hm : i < most) {x : List Int} (hx : lenS raw (i + 1) = x) (hxl : x.length ≤ i) (h2 : 2 ≤ i) : x = lenV raw most := by
  have := lenS_stop (raw := raw) (i := i + 1) (by rw [hx]; omega) (by omega) (min raw.length most - (i + 1))
  rw [show i + 1 + (min raw.length most - (i + 1)) = min raw.length most by omega, hx] at this
  exact this.symm
theorem lenS_fin {raw : List Int} {i most : Nat} (h1 : i ≤ raw.length) (h2 : i ≤ most) (h : ¬ ((i : Int) < raw.length ∧ (i : Int) < most)) : lenS raw i = lenV raw most := by
  rw [lenV, show min raw.length most = i by omega]

set_option maxRecDepth 100000 in
set_option maxHeartbeats 1000000 in
theorem lens_s (raw : List Int) (most : Nat) (hr : In64 raw) (hl : raw.length ≤ 9223372036854775807) (hm : most ≤ 200) :
    FPure Try.prog 11 [Sl 1 raw.length (raw.map (Value.int .i64)), Is (.int .i64 (most : Int))] (Sl 1 (lenV raw most).length ((lenV raw most).map (Value.int .i64))) := by
  refine FPure.of Try.func11 Try.ntmps11 rfl (by kernel_rfl) rfl rfl rfl ?_
  refine W_seq ?_
  refine W_regionE (c := 1) (c' := 2) (by kernel_rfl) rfl ?_
  refine Runs_p rfl (Valid.assignk (A := Is (.slice none 0 0)) rfl rfl) rfl rfl ?_
  refine Runs_nil ?_
  refine thenQ_n ?_
  refine W_seq ?_
  refine W_regionE (c := 2) (c' := 4) (by kernel_rfl) rfl ?_
  refine Runs_p rfl (Valid.lit (el := 3) (([20, 20] : List Int).map (Value.int .i64)) rfl rfl (fun _ => by kernel_rfl) rfl (by decide)) rfl rfl ?_
  refine Runs_p rfl (Valid.assignk (A := Sl 1 _ _) rfl rfl) rfl rfl ?_
  refine Runs_nil ?_
  refine thenQ_n ?_
  refine W_seq ?_
  refine W_seq ?_
  refine W_regionE (c := 4) (c' := 5) (by kernel_rfl) rfl ?_
  refine Runs_p rfl (Valid.assignk (A := Is _) rfl rfl) rfl rfl ?_
  refine Runs_nil ?_
  refine thenQ_n ?_
  refine W_block ?_
  refine W_loopx (G := Nat) (fun (i : Nat) => i ≤ raw.length ∧ i ≤ most ∧ (lenS raw i).length = max 2 i) [(0, Sl 1 _ _), (1, Is _)] (fun (i : Nat) => [(6, Is (.int .i64 (i : Int))), (5, Sl 1 (lenS raw i).length ((lenS raw i).map (Value.int .i64)))]) [] (fun (i : Nat) => []) 5 (fun (i : Nat) => raw.length - i) (0) [] (⟨by omega, by omega, rfl⟩) ⟨⟨(leq_is rfl rfl (by first | rfl)), (leq_sl (Reads.sl rfl) rfl (by first | rfl) (by first | rfl)), trivial⟩, ⟨(leq_sl (Reads.sl rfl) rfl rfl rfl), (leq_is rfl rfl rfl), trivial⟩, trivial, trivial, rfl, ⟨supg rfl, supg rfl, trivial⟩, ⟨supg rfl, supg rfl, trivial⟩, trivial, trivial, rfl, rfl⟩ ?_
  intro i hI1
  obtain ⟨hi1, hi2, hi3⟩ := hI1
  have hok := lenS_ok raw i
  have hin := nx_in (OkL.in64 hok)
  have hdr := dr_bd raw i
  have hnl := nx_len hi3
  have hna : (lenS raw i ++ [drL raw i]).length = (lenS raw i).length + 1 := by simp
  have hns2 : ((nxL raw i).set i 20).length = (nxL raw i).length := List.length_set
  have hns : ((nxL raw i).set (i : Int).toNat 20).length = (nxL raw i).length := List.length_set
  have hpk := pickV_range (raw.getD i 0) 20 (by decide)
  refine W_seq ?_
  refine W_seq ?_
  refine W_regionE (c := 5) (c' := 14) (by kernel_rfl) rfl ?_
  refine Runs_p rfl (Valid.movek (A := Is _) rfl rfl) rfl rfl ?_
  refine Runs_p rfl (Valid.movek (A := Sl 1 _ _) rfl rfl) rfl rfl ?_
  refine Runs_p rfl (Valid.len rfl Try.underlying22 (Reads.sl rfl)) rfl rfl ?_
  refine Runs_p rfl (Valid.lss rfl rfl rfl) rfl rfl ?_
  refine Runs_p rfl (Valid.movek (A := Is _) rfl rfl) rfl rfl ?_
  refine Runs_cnd rfl rfl (Grd.is rfl) [] (fun hg => trivial) (fun hg => Valid.movek (A := Is _) rfl rfl) (by rfl) rfl ?_
  refine Runs_cnd rfl rfl (Grd.is rfl) [] (fun hg => trivial) (fun hg => Valid.movek (A := Is _) rfl rfl) (by rfl) rfl ?_
  refine Runs_cnd rfl rfl (Grd.is rfl) [(15, _), (16, _)] (fun hg => ⟨cnd_at rfl (by first | exact hg | exact hg.1 | exact hg.1.1 | exact hg.1.1.1), cnd_at rfl (by first | exact hg | exact hg.1 | exact hg.1.1 | exact hg.1.1.1), trivial⟩) (fun hg => Valid.lss rfl rfl rfl) (by rfl) rfl ?_
  refine Runs_p rfl (Valid.pickand rfl rfl rfl (fun h => by first | exact h | exact ⟨hg, h⟩) rfl) rfl rfl ?_
  refine Runs_nil ?_
  refine thenQ_n ?_
  refine W_cond _ rfl (fun hb1 => ?_) (fun hb1 => ?_)
  · try simp only [decide_eq_true_eq, Bool.and_eq_true] at hb1
    all_goals (
      refine W_skip ?_
      refine thenQ_n ?_
      refine W_seq ?_
      refine W_block ?_
      refine W_seq ?_
      refine W_regionE (c := 14) (c' := 21) (by kernel_rfl) rfl ?_
      refine Runs_p rfl (Valid.movek (A := Sl 1 _ _) rfl rfl) rfl rfl ?_
      refine Runs_p rfl (Valid.movek (A := Is _) rfl rfl) rfl rfl ?_
      refine Runs_p rfl (Valid.eltaddr1 0 rfl Try.underlying22 sz3 (Reads.sl rfl) rfl (by omega) rfl) rfl rfl ?_
      refine Runs_p rfl (Valid.loadelt rfl ag3 rfl) rfl rfl ?_
      refine Runs_p rfl (Valid.call rfl (pick8_s _ _ (hr.at_ _).1 (hr.at_ _).2 (by decide) (by decide)) ⟨argle rfl, argle rfl, trivial⟩) rfl rfl ?_
      refine Runs_p rfl (Valid.add rfl rfl rfl (room64 (by first | omega | (simp only [Int.toNat_natCast]; omega)) (by first | omega | (simp only [Int.toNat_natCast]; omega)))) rfl rfl ?_
      refine Runs_p rfl (Valid.assignk (A := Is _) rfl rfl) rfl rfl ?_
      refine Runs_nil ?_
      refine thenQ_n ?_
      refine W_seq ?_
      rw [show 1 + pickV (raw.getD (i : Int).toNat 0) 20 = drL raw i from rfl]
      refine W_regionE (c := 21) (c' := 24) (by kernel_rfl) rfl ?_
      refine Runs_p rfl (Valid.movek (A := Sl 1 _ _) rfl rfl) rfl rfl ?_
      refine Runs_w rfl (Valid.appnilB (f := Value.int .i64) rfl Try.underlying22 ti3 rfl (Reads.sl rfl) (by omega) (by simp only [maxLen]; omega) (by omega)) rfl rfl ?_
      refine Runs_p rfl (Valid.assignk (A := Buf 176 _) rfl rfl) rfl rfl ?_
      refine Runs_nil ?_
      refine thenQ_n ?_
      refine W_seq ?_
      refine W_seq ?_
      refine W_regionE (c := 24) (c' := 26) (by kernel_rfl) rfl ?_
      refine Runs_p rfl (Valid.movek (A := Is _) rfl rfl) rfl rfl ?_
      refine Runs_p rfl (Valid.lss rfl rfl rfl) rfl rfl ?_
      refine Runs_nil ?_
      refine thenQ_n ?_
      refine W_cond _ rfl (fun hb2 => ?_) (fun hb2 => ?_)
      · try simp only [decide_eq_true_eq] at hb2
        all_goals (
          refine W_regionE (c := 26) (c' := 31) (by kernel_rfl) rfl ?_
          refine Runs_p rfl (Valid.movek (A := Buf 176 _) rfl rfl) rfl rfl ?_
          refine Runs_p rfl (Valid.movek (A := Is _) rfl rfl) rfl rfl ?_
          refine Runs_p rfl (Valid.movek (A := Is _) rfl rfl) rfl rfl ?_
          refine Runs_p rfl (Valid.idxB rfl Try.underlying22 sz3 rfl rfl (by omega)) rfl rfl ?_
          refine Runs_op rfl (Valid.storeB _ rfl sz3 rfl rfl (by show i < _; omega) rfl (One.is rfl rfl rfl)) rfl ?_
          refine Runs_nil ?_
          refine thenQ_n ?_
          refine W_seq ?_
          refine W_seq ?_
          first | rw [nx_a (by omega)] | rw [nx_b (by omega)]
          refine W_regionE (c := 31) (c' := 34) (by kernel_rfl) rfl ?_
          refine Runs_p rfl (Valid.movek (A := Buf 176 _) rfl rfl) rfl rfl ?_
          refine Runs_p rfl (Valid.lend (id := 176) rfl (by first | rfl | (simp; done) | (rw [List.length_map]; omega)) rfl (rcheck_s (nxL raw i) hin (by omega)) ⟨(.inr ⟨rfl, by first | rfl | (rw [List.length_map]; done) | (rw [List.length_map]; rfl)⟩), trivial⟩ Free.is) rfl rfl ?_
          refine Runs_p rfl (Valid.eql rfl rfl rfl) rfl rfl ?_
          refine Runs_nil ?_
          refine thenQ_n ?_
          refine W_cond _ rfl (fun hb3 => ?_) (fun hb3 => ?_)
          · try simp only [decide_eq_true_eq] at hb3
            all_goals (
              refine W_regionE (c := 34) (c' := 36) (by kernel_rfl) rfl ?_
              refine Runs_p rfl (Valid.movek (A := Buf 176 _) rfl rfl) rfl rfl ?_
              refine Runs_p rfl (Valid.assignk (A := Buf 176 _) rfl rfl) rfl rfl ?_
              refine Runs_nil ?_
              refine thenQ_n ?_
              refine W_seq ?_
              first | have hst := nx_1 hi3 (by assumption) | have hst := nx_2 hi3 (by assumption) (by omega) (by assumption) | have hst := nx_3 hi3 (by assumption) (.inl (by assumption)) | have hst := nx_3 hi3 (by assumption) (.inr (by omega))
              refine W.ent ?_ (Ent.freezeBuf 5 176 _ rfl rfl (by first | (rw [List.length_map]; done) | (rw [List.length_map]; omega)))
              refine W_regionE (c := 36) (c' := 44) (by kernel_rfl) rfl ?_
              refine Runs_p rfl (Valid.movek (A := Sl 1 _ _) rfl rfl) rfl rfl ?_
              refine Runs_p rfl (Valid.len rfl Try.underlying22 (Reads.sl rfl)) rfl rfl ?_
              refine Runs_p rfl (Valid.movek (A := Is _) rfl rfl) rfl rfl ?_
              refine Runs_p rfl (Valid.leq rfl rfl rfl) rfl rfl ?_
              refine Runs_p rfl (Valid.movek (A := Is _) rfl rfl) rfl rfl ?_
              refine Runs_cnd rfl rfl (Grd.is rfl) [] (fun hg => trivial) (fun hg => Valid.movek (A := Is _) rfl rfl) (by rfl) rfl ?_
              refine Runs_cnd rfl rfl (Grd.is rfl) [(57, _)] (fun hg => ⟨cnd_at rfl (by first | exact hg | exact hg.1 | exact hg.1.1 | exact hg.1.1.1), trivial⟩) (fun hg => Valid.geq rfl rfl rfl) (by rfl) rfl ?_
              refine Runs_p rfl (Valid.pickand rfl rfl rfl (fun h => by first | exact h | exact ⟨hg, h⟩) rfl) rfl rfl ?_
              refine Runs_nil ?_
              refine thenQ_n ?_
              refine W_cond _ rfl (fun hb4 => ?_) (fun hb4 => ?_)
              · try simp only [decide_eq_true_eq, Bool.and_eq_true] at hb4
                all_goals (
                  refine W_seq ?_
                  refine W_regionE (c := 44) (c' := 46) (by kernel_rfl) rfl ?_
                  refine Runs_p rfl (Valid.movek (A := Sl 1 _ _) rfl rfl) rfl rfl ?_
                  refine Runs_p rfl (Valid.assignk (A := Sl 1 _ _) rfl rfl) rfl rfl ?_
                  refine Runs_nil ?_
                  refine thenQ_n ?_
                  refine W_ret ?_
                  refine blockQ_r ?_
                  refine thenQ_r ?_
                  refine loopQ_r ?_
                  refine blockQ_r ?_
                  refine thenQ_r ?_
                  refine finQ_r ?_
                  refine ResOk.one rfl (RVal.sl (Reads.sl rfl) rfl (by first | (rw [lenS_fin hi1 hi2 (by omega)]; done) | (rw [← lenS_ret (by omega) (by omega) hst (by omega) (by omega)]; omega) | (rw [← lenS_ret (by omega) (by omega) hst (by omega) (by omega)]; done) | (rw [← lenS_ret (by omega) (by omega) hst (by omega) (by omega)]; rfl)) (by first | (rw [lenS_fin hi1 hi2 (by omega)]; done) | (rw [← lenS_ret (by omega) (by omega) hst (by omega) (by omega)]; omega) | (rw [← lenS_ret (by omega) (by omega) hst (by omega) (by omega)]; done) | (rw [← lenS_ret (by omega) (by omega) hst (by omega) (by omega)]; rfl)))
                  done)
              · try simp only [decide_eq_false_iff_not, Bool.and_eq_false_iff] at hb4
                all_goals (
                  refine W_skip ?_
                  refine blockQ_n ?_
                  refine thenQ_n ?_
                  refine W_regionE (c := 44) (c' := 47) (by kernel_rfl) rfl ?_
                  refine Runs_p rfl (Valid.movek (A := Is _) rfl rfl) rfl rfl ?_
                  refine Runs_p rfl (Valid.add rfl rfl rfl (room64 (by omega) (by omega))) rfl rfl ?_
                  refine Runs_p rfl (Valid.assignk (A := Is _) rfl rfl) rfl rfl ?_
                  refine Runs_nil ?_
                  refine LoopQ.next (i + 1) [] (⟨by omega, by omega, lenS_at hi3 hst (by omega)⟩) (by omega) ⟨⟨(leq_is rfl rfl (by first | rfl | (rw [hst]; omega) | (rw [hst]; done) | (rw [hst]; rfl))), (leq_sl (Reads.sl rfl) rfl (by first | rfl | (rw [hst]; omega) | (rw [hst]; done) | (rw [hst]; rfl)) (by first | rfl | (rw [hst]; omega) | (rw [hst]; done) | (rw [hst]; rfl))), trivial⟩, ⟨(leq_sl (Reads.sl rfl) rfl rfl rfl), (leq_is rfl rfl rfl), trivial⟩, trivial, trivial, rfl, ⟨supg rfl, supg rfl, trivial⟩, ⟨supg rfl, supg rfl, trivial⟩, trivial, trivial, rfl, rfl⟩
                  done)
              done)
          · try simp only [decide_eq_false_iff_not] at hb3
            all_goals (
              refine W_seq ?_
              refine W_regionE (c := 34) (c' := 36) (by kernel_rfl) rfl ?_
              refine Runs_p rfl (Valid.movek (A := Is _) rfl rfl) rfl rfl ?_
              refine Runs_p rfl (Valid.geq rfl rfl rfl) rfl rfl ?_
              refine Runs_nil ?_
              refine thenQ_n ?_
              refine W_cond _ rfl (fun hb5 => ?_) (fun hb5 => ?_)
              · try simp only [decide_eq_true_eq] at hb5
                all_goals (
                  exfalso
                  omega
                  
                  done)
              · try simp only [decide_eq_false_iff_not] at hb5
                all_goals (
                  refine W_skip ?_
                  refine thenQ_n ?_
                  refine W_seq ?_
                  first | have hst := nx_1 hi3 (by assumption) | have hst := nx_2 hi3 (by assumption) (by omega) (by assumption) | have hst := nx_3 hi3 (by assumption) (.inl (by assumption)) | have hst := nx_3 hi3 (by assumption) (.inr (by omega))
                  refine W_regionE (c := 36) (c' := 44) (by kernel_rfl) rfl ?_
                  refine Runs_p rfl (Valid.movek (A := Sl 1 _ _) rfl rfl) rfl rfl ?_
                  refine Runs_p rfl (Valid.len rfl Try.underlying22 (Reads.sl rfl)) rfl rfl ?_
                  refine Runs_p rfl (Valid.movek (A := Is _) rfl rfl) rfl rfl ?_
                  refine Runs_p rfl (Valid.leq rfl rfl rfl) rfl rfl ?_
                  refine Runs_p rfl (Valid.movek (A := Is _) rfl rfl) rfl rfl ?_
                  refine Runs_cnd rfl rfl (Grd.is rfl) [] (fun hg => trivial) (fun hg => Valid.movek (A := Is _) rfl rfl) (by rfl) rfl ?_
                  refine Runs_cnd rfl rfl (Grd.is rfl) [(57, _)] (fun hg => ⟨cnd_at rfl (by first | exact hg | exact hg.1 | exact hg.1.1 | exact hg.1.1.1), trivial⟩) (fun hg => Valid.geq rfl rfl rfl) (by rfl) rfl ?_
                  refine Runs_p rfl (Valid.pickand rfl rfl rfl (fun h => by first | exact h | exact ⟨hg, h⟩) rfl) rfl rfl ?_
                  refine Runs_nil ?_
                  refine thenQ_n ?_
                  refine W_cond _ rfl (fun hb6 => ?_) (fun hb6 => ?_)
                  · try simp only [decide_eq_true_eq, Bool.and_eq_true] at hb6
                    all_goals (
                      refine W_seq ?_
                      refine W_regionE (c := 44) (c' := 46) (by kernel_rfl) rfl ?_
                      refine Runs_p rfl (Valid.movek (A := Sl 1 _ _) rfl rfl) rfl rfl ?_
                      refine Runs_p rfl (Valid.assignk (A := Sl 1 _ _) rfl rfl) rfl rfl ?_
                      refine Runs_nil ?_
                      refine thenQ_n ?_
                      refine W_ret ?_
                      refine blockQ_r ?_
                      refine thenQ_r ?_
                      refine loopQ_r ?_
                      refine blockQ_r ?_
                      refine thenQ_r ?_
                      refine finQ_r ?_
                      refine ResOk.one rfl (RVal.sl (Reads.sl rfl) rfl (by first | (rw [lenS_fin hi1 hi2 (by omega)]; done) | (rw [← lenS_ret (by omega) (by omega) hst (by omega) (by omega)]; omega) | (rw [← lenS_ret (by omega) (by omega) hst (by omega) (by omega)]; done) | (rw [← lenS_ret (by omega) (by omega) hst (by omega) (by omega)]; rfl)) (by first | (rw [lenS_fin hi1 hi2 (by omega)]; done) | (rw [← lenS_ret (by omega) (by omega) hst (by omega) (by omega)]; omega) | (rw [← lenS_ret (by omega) (by omega) hst (by omega) (by omega)]; done) | (rw [← lenS_ret (by omega) (by omega) hst (by omega) (by omega)]; rfl)))
                      done)
                  · try simp only [decide_eq_false_iff_not, Bool.and_eq_false_iff] at hb6
                    all_goals (
                      refine W_skip ?_
                      refine blockQ_n ?_
                      refine thenQ_n ?_
                      refine W_regionE (c := 44) (c' := 47) (by kernel_rfl) rfl ?_
                      refine Runs_p rfl (Valid.movek (A := Is _) rfl rfl) rfl rfl ?_
                      refine Runs_p rfl (Valid.add rfl rfl rfl (room64 (by omega) (by omega))) rfl rfl ?_
                      refine Runs_p rfl (Valid.assignk (A := Is _) rfl rfl) rfl rfl ?_
                      refine Runs_nil ?_
                      refine LoopQ.next (i + 1) [] (⟨by omega, by omega, lenS_at hi3 hst (by omega)⟩) (by omega) ⟨⟨(leq_is rfl rfl (by first | rfl | (rw [hst]; omega) | (rw [hst]; done) | (rw [hst]; rfl))), (leq_sl (Reads.sl rfl) rfl (by first | rfl | (rw [hst]; omega) | (rw [hst]; done) | (rw [hst]; rfl)) (by first | rfl | (rw [hst]; omega) | (rw [hst]; done) | (rw [hst]; rfl))), trivial⟩, ⟨(leq_sl (Reads.sl rfl) rfl rfl rfl), (leq_is rfl rfl rfl), trivial⟩, trivial, trivial, rfl, ⟨supg rfl, supg rfl, trivial⟩, ⟨supg rfl, supg rfl, trivial⟩, trivial, trivial, rfl, rfl⟩
                      done)
                  done)
              done)
          done)
      · try simp only [decide_eq_false_iff_not] at hb2
        all_goals (
          refine W_regionE (c := 26) (c' := 31) (by kernel_rfl) rfl ?_
          refine Runs_p rfl (Valid.movek (A := Buf 176 _) rfl rfl) rfl rfl ?_
          refine Runs_p rfl (Valid.movek (A := Is _) rfl rfl) rfl rfl ?_
          refine Runs_p rfl (Valid.lit (el := 3) [_] rfl rfl (fun _ => by kernel_rfl) rfl (by decide)) rfl rfl ?_
          refine Runs_w rfl (Valid.appB (f := Value.int .i64) rfl Try.underlying22 ti3 rfl rfl (Reads.sl rfl) rfl (by simp only [maxLen]; omega) (by omega)) rfl rfl ?_
          refine Runs_p rfl (Valid.assignk (A := Buf 232 _) rfl rfl) rfl rfl ?_
          refine Runs_nil ?_
          refine thenQ_n ?_
          refine W_seq ?_
          refine W_seq ?_
          first | rw [nx_a (by omega)] | rw [nx_b (by omega)]
          refine W_regionE (c := 31) (c' := 34) (by kernel_rfl) rfl ?_
          refine Runs_p rfl (Valid.movek (A := Buf 232 _) rfl rfl) rfl rfl ?_
          refine Runs_p rfl (Valid.lend (id := 232) rfl (by first | rfl | (simp; done) | (rw [List.length_map]; omega)) rfl (rcheck_s (nxL raw i) hin (by omega)) ⟨(.inr ⟨rfl, by first | rfl | (rw [List.length_map]; done) | (rw [List.length_map]; rfl)⟩), trivial⟩ Free.is) rfl rfl ?_
          refine Runs_p rfl (Valid.eql rfl rfl rfl) rfl rfl ?_
          refine Runs_nil ?_
          refine thenQ_n ?_
          refine W_cond _ rfl (fun hb7 => ?_) (fun hb7 => ?_)
          · try simp only [decide_eq_true_eq] at hb7
            all_goals (
              refine W_regionE (c := 34) (c' := 36) (by kernel_rfl) rfl ?_
              refine Runs_p rfl (Valid.movek (A := Buf 232 _) rfl rfl) rfl rfl ?_
              refine Runs_p rfl (Valid.assignk (A := Buf 232 _) rfl rfl) rfl rfl ?_
              refine Runs_nil ?_
              refine thenQ_n ?_
              refine W_seq ?_
              first | have hst := nx_1 hi3 (by assumption) | have hst := nx_2 hi3 (by assumption) (by omega) (by assumption) | have hst := nx_3 hi3 (by assumption) (.inl (by assumption)) | have hst := nx_3 hi3 (by assumption) (.inr (by omega))
              refine W.ent ?_ (Ent.freezeBuf 5 232 _ rfl rfl (by first | (rw [List.length_map]; done) | (rw [List.length_map]; omega)))
              refine W_regionE (c := 36) (c' := 44) (by kernel_rfl) rfl ?_
              refine Runs_p rfl (Valid.movek (A := Sl 1 _ _) rfl rfl) rfl rfl ?_
              refine Runs_p rfl (Valid.len rfl Try.underlying22 (Reads.sl rfl)) rfl rfl ?_
              refine Runs_p rfl (Valid.movek (A := Is _) rfl rfl) rfl rfl ?_
              refine Runs_p rfl (Valid.leq rfl rfl rfl) rfl rfl ?_
              refine Runs_p rfl (Valid.movek (A := Is _) rfl rfl) rfl rfl ?_
              refine Runs_cnd rfl rfl (Grd.is rfl) [] (fun hg => trivial) (fun hg => Valid.movek (A := Is _) rfl rfl) (by rfl) rfl ?_
              refine Runs_cnd rfl rfl (Grd.is rfl) [(57, _)] (fun hg => ⟨cnd_at rfl (by first | exact hg | exact hg.1 | exact hg.1.1 | exact hg.1.1.1), trivial⟩) (fun hg => Valid.geq rfl rfl rfl) (by rfl) rfl ?_
              refine Runs_p rfl (Valid.pickand rfl rfl rfl (fun h => by first | exact h | exact ⟨hg, h⟩) rfl) rfl rfl ?_
              refine Runs_nil ?_
              refine thenQ_n ?_
              refine W_cond _ rfl (fun hb8 => ?_) (fun hb8 => ?_)
              · try simp only [decide_eq_true_eq, Bool.and_eq_true] at hb8
                all_goals (
                  refine W_seq ?_
                  refine W_regionE (c := 44) (c' := 46) (by kernel_rfl) rfl ?_
                  refine Runs_p rfl (Valid.movek (A := Sl 1 _ _) rfl rfl) rfl rfl ?_
                  refine Runs_p rfl (Valid.assignk (A := Sl 1 _ _) rfl rfl) rfl rfl ?_
                  refine Runs_nil ?_
                  refine thenQ_n ?_
                  refine W_ret ?_
                  refine blockQ_r ?_
                  refine thenQ_r ?_
                  refine loopQ_r ?_
                  refine blockQ_r ?_
                  refine thenQ_r ?_
                  refine finQ_r ?_
                  refine ResOk.one rfl (RVal.sl (Reads.sl rfl) rfl (by first | (rw [lenS_fin hi1 hi2 (by omega)]; done) | (rw [← lenS_ret (by omega) (by omega) hst (by omega) (by omega)]; omega) | (rw [← lenS_ret (by omega) (by omega) hst (by omega) (by omega)]; done) | (rw [← lenS_ret (by omega) (by omega) hst (by omega) (by omega)]; rfl)) (by first | (rw [lenS_fin hi1 hi2 (by omega)]; done) | (rw [← lenS_ret (by omega) (by omega) hst (by omega) (by omega)]; omega) | (rw [← lenS_ret (by omega) (by omega) hst (by omega) (by omega)]; done) | (rw [← lenS_ret (by omega) (by omega) hst (by omega) (by omega)]; rfl)))
                  done)
              · try simp only [decide_eq_false_iff_not, Bool.and_eq_false_iff] at hb8
                all_goals (
                  refine W_skip ?_
                  refine blockQ_n ?_
                  refine thenQ_n ?_
                  refine W_regionE (c := 44) (c' := 47) (by kernel_rfl) rfl ?_
                  refine Runs_p rfl (Valid.movek (A := Is _) rfl rfl) rfl rfl ?_
                  refine Runs_p rfl (Valid.add rfl rfl rfl (room64 (by omega) (by omega))) rfl rfl ?_
                  refine Runs_p rfl (Valid.assignk (A := Is _) rfl rfl) rfl rfl ?_
                  refine Runs_nil ?_
                  refine LoopQ.next (i + 1) [] (⟨by omega, by omega, lenS_at hi3 hst (by omega)⟩) (by omega) ⟨⟨(leq_is rfl rfl (by first | rfl | (rw [hst]; omega) | (rw [hst]; done) | (rw [hst]; rfl))), (leq_sl (Reads.sl rfl) rfl (by first | rfl | (rw [hst]; omega) | (rw [hst]; done) | (rw [hst]; rfl)) (by first | rfl | (rw [hst]; omega) | (rw [hst]; done) | (rw [hst]; rfl))), trivial⟩, ⟨(leq_sl (Reads.sl rfl) rfl rfl rfl), (leq_is rfl rfl rfl), trivial⟩, trivial, trivial, rfl, ⟨supg rfl, supg rfl, trivial⟩, ⟨supg rfl, supg rfl, trivial⟩, trivial, trivial, rfl, rfl⟩
                  done)
              done)
          · try simp only [decide_eq_false_iff_not] at hb7
            all_goals (
              refine W_seq ?_
              refine W_regionE (c := 34) (c' := 36) (by kernel_rfl) rfl ?_
              refine Runs_p rfl (Valid.movek (A := Is _) rfl rfl) rfl rfl ?_
              refine Runs_p rfl (Valid.geq rfl rfl rfl) rfl rfl ?_
              refine Runs_nil ?_
              refine thenQ_n ?_
              refine W_cond _ rfl (fun hb9 => ?_) (fun hb9 => ?_)
              · try simp only [decide_eq_true_eq] at hb9
                all_goals (
                  refine W_seq ?_
                  refine W_regionE (c := 36) (c' := 40) (by kernel_rfl) rfl ?_
                  refine Runs_p rfl (Valid.movek (A := Buf 232 _) rfl rfl) rfl rfl ?_
                  refine Runs_p rfl (Valid.movek (A := Is _) rfl rfl) rfl rfl ?_
                  refine Runs_p rfl (Valid.idxB rfl Try.underlying22 sz3 rfl rfl (by omega)) rfl rfl ?_
                  refine Runs_op rfl (Valid.storeB _ rfl sz3 rfl rfl (by show i < _; omega) rfl (One.is rfl rfl rfl)) rfl ?_
                  refine Runs_nil ?_
                  refine thenQ_n ?_
                  refine W_seq ?_
                  refine W_regionE (c := 40) (c' := 43) (by kernel_rfl) rfl ?_
                  refine Runs_p rfl (Valid.movek (A := Buf 232 _) rfl rfl) rfl rfl ?_
                  refine Runs_p rfl (Valid.lend (id := 232) rfl (by first | rfl | (simp; done) | (rw [List.length_map]; omega)) rfl (rcheck_s ((nxL raw i).set i 20) (in64_set hin _ ⟨by decide, by decide⟩) (by rw [List.length_set]; omega)) ⟨(.inr ⟨rfl, by first | rfl | (rw [List.length_map]; done) | (rw [List.length_map]; rfl)⟩), trivial⟩ Free.is) rfl rfl ?_
                  refine Runs_p rfl (Valid.eql rfl rfl rfl) rfl rfl ?_
                  refine Runs_nil ?_
                  refine thenQ_n ?_
                  refine W_cond _ rfl (fun hb10 => ?_) (fun hb10 => ?_)
                  · try simp only [decide_eq_true_eq] at hb10
                    all_goals (
                      refine W_regionE (c := 43) (c' := 45) (by kernel_rfl) rfl ?_
                      refine Runs_p rfl (Valid.movek (A := Buf 232 _) rfl rfl) rfl rfl ?_
                      refine Runs_p rfl (Valid.assignk (A := Buf 232 _) rfl rfl) rfl rfl ?_
                      refine Runs_nil ?_
                      refine thenQ_n ?_
                      refine W_seq ?_
                      first | have hst := nx_1 hi3 (by assumption) | have hst := nx_2 hi3 (by assumption) (by omega) (by assumption) | have hst := nx_3 hi3 (by assumption) (.inl (by assumption)) | have hst := nx_3 hi3 (by assumption) (.inr (by omega))
                      refine W.ent ?_ (Ent.freezeBuf 5 232 _ rfl rfl (by first | (rw [List.length_map]; done) | (rw [List.length_map]; omega)))
                      refine W_regionE (c := 45) (c' := 53) (by kernel_rfl) rfl ?_
                      refine Runs_p rfl (Valid.movek (A := Sl 1 _ _) rfl rfl) rfl rfl ?_
                      refine Runs_p rfl (Valid.len rfl Try.underlying22 (Reads.sl rfl)) rfl rfl ?_
                      refine Runs_p rfl (Valid.movek (A := Is _) rfl rfl) rfl rfl ?_
                      refine Runs_p rfl (Valid.leq rfl rfl rfl) rfl rfl ?_
                      refine Runs_p rfl (Valid.movek (A := Is _) rfl rfl) rfl rfl ?_
                      refine Runs_cnd rfl rfl (Grd.is rfl) [] (fun hg => trivial) (fun hg => Valid.movek (A := Is _) rfl rfl) (by rfl) rfl ?_
                      refine Runs_cnd rfl rfl (Grd.is rfl) [(57, _)] (fun hg => ⟨cnd_at rfl (by first | exact hg | exact hg.1 | exact hg.1.1 | exact hg.1.1.1), trivial⟩) (fun hg => Valid.geq rfl rfl rfl) (by rfl) rfl ?_
                      refine Runs_p rfl (Valid.pickand rfl rfl rfl (fun h => by first | exact h | exact ⟨hg, h⟩) rfl) rfl rfl ?_
                      refine Runs_nil ?_
                      refine thenQ_n ?_
                      refine W_cond _ rfl (fun hb11 => ?_) (fun hb11 => ?_)
                      · try simp only [decide_eq_true_eq, Bool.and_eq_true] at hb11
                        all_goals (
                          refine W_seq ?_
                          refine W_regionE (c := 53) (c' := 55) (by kernel_rfl) rfl ?_
                          refine Runs_p rfl (Valid.movek (A := Sl 1 _ _) rfl rfl) rfl rfl ?_
                          refine Runs_p rfl (Valid.assignk (A := Sl 1 _ _) rfl rfl) rfl rfl ?_
                          refine Runs_nil ?_
                          refine thenQ_n ?_
                          refine W_ret ?_
                          refine blockQ_r ?_
                          refine thenQ_r ?_
                          refine loopQ_r ?_
                          refine blockQ_r ?_
                          refine thenQ_r ?_
                          refine finQ_r ?_
                          refine ResOk.one rfl (RVal.sl (Reads.sl rfl) rfl (by first | (rw [lenS_fin hi1 hi2 (by omega)]; done) | (rw [← lenS_ret (by omega) (by omega) hst (by omega) (by omega)]; omega) | (rw [← lenS_ret (by omega) (by omega) hst (by omega) (by omega)]; done) | (rw [← lenS_ret (by omega) (by omega) hst (by omega) (by omega)]; rfl)) (by first | (rw [lenS_fin hi1 hi2 (by omega)]; done) | (rw [← lenS_ret (by omega) (by omega) hst (by omega) (by omega)]; omega) | (rw [← lenS_ret (by omega) (by omega) hst (by omega) (by omega)]; done) | (rw [← lenS_ret (by omega) (by omega) hst (by omega) (by omega)]; rfl)))
                          done)
                      · try simp only [decide_eq_false_iff_not, Bool.and_eq_false_iff] at hb11
                        all_goals (
                          refine W_skip ?_
                          refine blockQ_n ?_
                          refine thenQ_n ?_
                          refine W_regionE (c := 53) (c' := 56) (by kernel_rfl) rfl ?_
                          refine Runs_p rfl (Valid.movek (A := Is _) rfl rfl) rfl rfl ?_
                          refine Runs_p rfl (Valid.add rfl rfl rfl (room64 (by omega) (by omega))) rfl rfl ?_
                          refine Runs_p rfl (Valid.assignk (A := Is _) rfl rfl) rfl rfl ?_
                          refine Runs_nil ?_
                          refine LoopQ.next (i + 1) [] (⟨by omega, by omega, lenS_at hi3 hst (by omega)⟩) (by omega) ⟨⟨(leq_is rfl rfl (by first | rfl | (rw [hst]; omega) | (rw [hst]; done) | (rw [hst]; rfl))), (leq_sl (Reads.sl rfl) rfl (by first | rfl | (rw [hst]; omega) | (rw [hst]; done) | (rw [hst]; rfl)) (by first | rfl | (rw [hst]; omega) | (rw [hst]; done) | (rw [hst]; rfl))), trivial⟩, ⟨(leq_sl (Reads.sl rfl) rfl rfl rfl), (leq_is rfl rfl rfl), trivial⟩, trivial, trivial, rfl, ⟨supg rfl, supg rfl, trivial⟩, ⟨supg rfl, supg rfl, trivial⟩, trivial, trivial, rfl, rfl⟩
                          done)
                      done)
                  · try simp only [decide_eq_false_iff_not] at hb10
                    all_goals (
                      refine W_skip ?_
                      refine thenQ_n ?_
                      refine W_seq ?_
                      first | have hst := nx_1 hi3 (by assumption) | have hst := nx_2 hi3 (by assumption) (by omega) (by assumption) | have hst := nx_3 hi3 (by assumption) (.inl (by assumption)) | have hst := nx_3 hi3 (by assumption) (.inr (by omega))
                      refine W_regionE (c := 43) (c' := 51) (by kernel_rfl) rfl ?_
                      refine Runs_p rfl (Valid.movek (A := Sl 1 _ _) rfl rfl) rfl rfl ?_
                      refine Runs_p rfl (Valid.len rfl Try.underlying22 (Reads.sl rfl)) rfl rfl ?_
                      refine Runs_p rfl (Valid.movek (A := Is _) rfl rfl) rfl rfl ?_
                      refine Runs_p rfl (Valid.leq rfl rfl rfl) rfl rfl ?_
                      refine Runs_p rfl (Valid.movek (A := Is _) rfl rfl) rfl rfl ?_
                      refine Runs_cnd rfl rfl (Grd.is rfl) [] (fun hg => trivial) (fun hg => Valid.movek (A := Is _) rfl rfl) (by rfl) rfl ?_
                      refine Runs_cnd rfl rfl (Grd.is rfl) [(57, _)] (fun hg => ⟨cnd_at rfl (by first | exact hg | exact hg.1 | exact hg.1.1 | exact hg.1.1.1), trivial⟩) (fun hg => Valid.geq rfl rfl rfl) (by rfl) rfl ?_
                      refine Runs_p rfl (Valid.pickand rfl rfl rfl (fun h => by first | exact h | exact ⟨hg, h⟩) rfl) rfl rfl ?_
                      refine Runs_nil ?_
                      refine thenQ_n ?_
                      refine W_cond _ rfl (fun hb12 => ?_) (fun hb12 => ?_)
                      · try simp only [decide_eq_true_eq, Bool.and_eq_true] at hb12
                        all_goals (
                          refine W_seq ?_
                          refine W_regionE (c := 51) (c' := 53) (by kernel_rfl) rfl ?_
                          refine Runs_p rfl (Valid.movek (A := Sl 1 _ _) rfl rfl) rfl rfl ?_
                          refine Runs_p rfl (Valid.assignk (A := Sl 1 _ _) rfl rfl) rfl rfl ?_
                          refine Runs_nil ?_
                          refine thenQ_n ?_
                          refine W_ret ?_
                          refine blockQ_r ?_
                          refine thenQ_r ?_
                          refine loopQ_r ?_
                          refine blockQ_r ?_
                          refine thenQ_r ?_
                          refine finQ_r ?_
                          refine ResOk.one rfl (RVal.sl (Reads.sl rfl) rfl (by first | (rw [lenS_fin hi1 hi2 (by omega)]; done) | (rw [← lenS_ret (by omega) (by omega) hst (by omega) (by omega)]; omega) | (rw [← lenS_ret (by omega) (by omega) hst (by omega) (by omega)]; done) | (rw [← lenS_ret (by omega) (by omega) hst (by omega) (by omega)]; rfl)) (by first | (rw [lenS_fin hi1 hi2 (by omega)]; done) | (rw [← lenS_ret (by omega) (by omega) hst (by omega) (by omega)]; omega) | (rw [← lenS_ret (by omega) (by omega) hst (by omega) (by omega)]; done) | (rw [← lenS_ret (by omega) (by omega) hst (by omega) (by omega)]; rfl)))
                          done)
                      · try simp only [decide_eq_false_iff_not, Bool.and_eq_false_iff] at hb12
                        all_goals (
                          refine W_skip ?_
                          refine blockQ_n ?_
                          refine thenQ_n ?_
                          refine W_regionE (c := 51) (c' := 54) (by kernel_rfl) rfl ?_
                          refine Runs_p rfl (Valid.movek (A := Is _) rfl rfl) rfl rfl ?_
                          refine Runs_p rfl (Valid.add rfl rfl rfl (room64 (by omega) (by omega))) rfl rfl ?_
                          refine Runs_p rfl (Valid.assignk (A := Is _) rfl rfl) rfl rfl ?_
                          refine Runs_nil ?_
                          refine LoopQ.next (i + 1) [] (⟨by omega, by omega, lenS_at hi3 hst (by omega)⟩) (by omega) ⟨⟨(leq_is rfl rfl (by first | rfl | (rw [hst]; omega) | (rw [hst]; done) | (rw [hst]; rfl))), (leq_sl (Reads.sl rfl) rfl (by first | rfl | (rw [hst]; omega) | (rw [hst]; done) | (rw [hst]; rfl)) (by first | rfl | (rw [hst]; omega) | (rw [hst]; done) | (rw [hst]; rfl))), trivial⟩, ⟨(leq_sl (Reads.sl rfl) rfl rfl rfl), (leq_is rfl rfl rfl), trivial⟩, trivial, trivial, rfl, ⟨supg rfl, supg rfl, trivial⟩, ⟨supg rfl, supg rfl, trivial⟩, trivial, trivial, rfl, rfl⟩
                          done)
                      done)
                  done)
              · try simp only [decide_eq_false_iff_not] at hb9
                all_goals (
                  refine W_skip ?_
                  refine thenQ_n ?_
                  refine W_seq ?_
                  first | have hst := nx_1 hi3 (by assumption) | have hst := nx_2 hi3 (by assumption) (by omega) (by assumption) | have hst := nx_3 hi3 (by assumption) (.inl (by assumption)) | have hst := nx_3 hi3 (by assumption) (.inr (by omega))
                  refine W_regionE (c := 36) (c' := 44) (by kernel_rfl) rfl ?_
                  refine Runs_p rfl (Valid.movek (A := Sl 1 _ _) rfl rfl) rfl rfl ?_
                  refine Runs_p rfl (Valid.len rfl Try.underlying22 (Reads.sl rfl)) rfl rfl ?_
                  refine Runs_p rfl (Valid.movek (A := Is _) rfl rfl) rfl rfl ?_
                  refine Runs_p rfl (Valid.leq rfl rfl rfl) rfl rfl ?_
                  refine Runs_p rfl (Valid.movek (A := Is _) rfl rfl) rfl rfl ?_
                  refine Runs_cnd rfl rfl (Grd.is rfl) [] (fun hg => trivial) (fun hg => Valid.movek (A := Is _) rfl rfl) (by rfl) rfl ?_
                  refine Runs_cnd rfl rfl (Grd.is rfl) [(57, _)] (fun hg => ⟨cnd_at rfl (by first | exact hg | exact hg.1 | exact hg.1.1 | exact hg.1.1.1), trivial⟩) (fun hg => Valid.geq rfl rfl rfl) (by rfl) rfl ?_
                  refine Runs_p rfl (Valid.pickand rfl rfl rfl (fun h => by first | exact h | exact ⟨hg, h⟩) rfl) rfl rfl ?_
                  refine Runs_nil ?_
                  refine thenQ_n ?_
                  refine W_cond _ rfl (fun hb13 => ?_) (fun hb13 => ?_)
                  · try simp only [decide_eq_true_eq, Bool.and_eq_true] at hb13
                    all_goals (
                      refine W_seq ?_
                      refine W_regionE (c := 44) (c' := 46) (by kernel_rfl) rfl ?_
                      refine Runs_p rfl (Valid.movek (A := Sl 1 _ _) rfl rfl) rfl rfl ?_
                      refine Runs_p rfl (Valid.assignk (A := Sl 1 _ _) rfl rfl) rfl rfl ?_
                      refine Runs_nil ?_
                      refine thenQ_n ?_
                      refine W_ret ?_
                      refine blockQ_r ?_
                      refine thenQ_r ?_
                      refine loopQ_r ?_
                      refine blockQ_r ?_
                      refine thenQ_r ?_
                      refine finQ_r ?_
                      refine ResOk.one rfl (RVal.sl (Reads.sl rfl) rfl (by first | (rw [lenS_fin hi1 hi2 (by omega)]; done) | (rw [← lenS_ret (by omega) (by omega) hst (by omega) (by omega)]; omega) | (rw [← lenS_ret (by omega) (by omega) hst (by omega) (by omega)]; done) | (rw [← lenS_ret (by omega) (by omega) hst (by omega) (by omega)]; rfl)) (by first | (rw [lenS_fin hi1 hi2 (by omega)]; done) | (rw [← lenS_ret (by omega) (by omega) hst (by omega) (by omega)]; omega) | (rw [← lenS_ret (by omega) (by omega) hst (by omega) (by omega)]; done) | (rw [← lenS_ret (by omega) (by omega) hst (by omega) (by omega)]; rfl)))
                      done)
                  · try simp only [decide_eq_false_iff_not, Bool.and_eq_false_iff] at hb13
                    all_goals (
                      refine W_skip ?_
                      refine blockQ_n ?_
                      refine thenQ_n ?_
                      refine W_regionE (c := 44) (c' := 47) (by kernel_rfl) rfl ?_
                      refine Runs_p rfl (Valid.movek (A := Is _) rfl rfl) rfl rfl ?_
                      refine Runs_p rfl (Valid.add rfl rfl rfl (room64 (by omega) (by omega))) rfl rfl ?_
                      refine Runs_p rfl (Valid.assignk (A := Is _) rfl rfl) rfl rfl ?_
                      refine Runs_nil ?_
                      refine LoopQ.next (i + 1) [] (⟨by omega, by omega, lenS_at hi3 hst (by omega)⟩) (by omega) ⟨⟨(leq_is rfl rfl (by first | rfl | (rw [hst]; omega) | (rw [hst]; done) | (rw [hst]; rfl))), (leq_sl (Reads.sl rfl) rfl (by first | rfl | (rw [hst]; omega) | (rw [hst]; done) | (rw [hst]; rfl)) (by first | rfl | (rw [hst]; omega) | (rw [hst]; done) | (rw [hst]; rfl))), trivial⟩, ⟨(leq_sl (Reads.sl rfl) rfl rfl rfl), (leq_is rfl rfl rfl), trivial⟩, trivial, trivial, rfl, ⟨supg rfl, supg rfl, trivial⟩, ⟨supg rfl, supg rfl, trivial⟩, trivial, trivial, rfl, rfl⟩
                      done)
                  done)
              done)
          done)
      done)
  · try simp only [decide_eq_false_iff_not, Bool.and_eq_false_iff] at hb1
    all_goals (
      refine W_exit ?_
      refine thenQ_e ?_
      refine loopQ_e ?_
      refine blockQ_x ?_
      refine thenQ_n ?_
      refine W_seq ?_
      refine W_regionE (c := 14) (c' := 16) (by kernel_rfl) rfl ?_
      refine Runs_p rfl (Valid.movek (A := Sl 1 _ _) rfl rfl) rfl rfl ?_
      refine Runs_p rfl (Valid.assignk (A := Sl 1 _ _) rfl rfl) rfl rfl ?_
      refine Runs_nil ?_
      refine thenQ_n ?_
      refine W_ret ?_
      refine finQ_r ?_
      refine ResOk.one rfl (RVal.sl (Reads.sl rfl) rfl (by first | (rw [lenS_fin hi1 hi2 (by omega)]; done) | (rw [← lenS_ret (by omega) (by omega) hst (by omega) (by omega)]; omega) | (rw [← lenS_ret (by omega) (by omega) hst (by omega) (by omega)]; done) | (rw [← lenS_ret (by omega) (by omega) hst (by omega) (by omega)]; rfl)) (by first | (rw [lenS_fin hi1 hi2 (by omega)]; done) | (rw [← lenS_ret (by omega) (by omega) hst (by omega) (by omega)]; omega) | (rw [← lenS_ret (by omega) (by omega) hst (by omega) (by omega)]; done) | (rw [← lenS_ret (by omega) (by omega) hst (by omega) (by omega)]; rfl)))
      done)
end Kl
end Go.Proofs.Ytdcenocljnlipaa
