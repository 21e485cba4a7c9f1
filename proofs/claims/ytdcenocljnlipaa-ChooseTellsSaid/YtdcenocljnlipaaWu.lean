/-
  WALKS of stage 10: the reference.
-/
import Derived.Test.YtdcenocljnlipaaRows
import Derived.Test.YtdcenocljnlipaaMgc
import Derived.Test.YtdcenocljnlipaaWa
import Derived.Test.YtdcenocljnlipaaWb
import Derived.Test.YtdcenocljnlipaaWm
import Derived.Test.YtdcenocljnlipaaWc
import Derived.Test.YtdcenocljnlipaaWd
import Derived.Test.YtdcenocljnlipaaWe
import Derived.Test.YtdcenocljnlipaaWf
import Derived.Test.YtdcenocljnlipaaWg
import Derived.Test.YtdcenocljnlipaaWk
import Derived.Test.YtdcenocljnlipaaWh
import Derived.Test.YtdcenocljnlipaaOa
import Derived.Test.YtdcenocljnlipaaOb
import Derived.Test.YtdcenocljnlipaaOc
import Derived.Test.YtdcenocljnlipaaOd
import Derived.Test.YtdcenocljnlipaaOf
namespace Go.Proofs.Ytdcenocljnlipaa
open Go.RowKit
namespace Wu
open Ab Wa Wb Wm Wc Wd We Wf Wg Wk Wh Oa Ob Oc Od Of
theorem ag22 (w : World) : (isAgg 22).run Try.prog w = .ok false w := by kernel_rfl
theorem ag3 (w : World) : (isAgg 3).run Try.prog w = .ok false w := by kernel_rfl
theorem ag88 (w : World) : (isAgg 88).run Try.prog w = .ok true w := by kernel_rfl
theorem sz3 (w : World) : (sizeOf 3).run Try.prog w = .ok 1 w := by kernel_rfl
theorem sz88 (w : World) : (sizeOf 88).run Try.prog w = .ok 2 w := by kernel_rfl
theorem ti3 : TI Try.prog 3 1 8 := .mk' (z := (Value.int .i64 0)) (by kernel_rfl) rfl
theorem ti88 : TI Try.prog 88 2 32 := .mk' (z := (.agg #[(Value.int .i64 0), (Value.slice none 0 0)])) (by kernel_rfl) rfl
theorem tzv3 : (Try.prog.info? 3).map (fun i => (i.zero, i.size, i.bytes)) = some (some ((Value.int .i64) 0), 1, 8) := by kernel_rfl
theorem zv88 (w : World) : (zeroValue 88).run Try.prog w = .ok (.agg #[(Value.int .i64 0), (Value.slice none 0 0)]) w := by kernel_rfl
abbrev tgc : Tg → List AV := fun p => [Is (.int .i64 p.1), Sl 1 p.2.length (p.2.map (Value.int .i64))]

set_option maxRecDepth 100000 in
set_option maxHeartbeats 1000000 in
theorem least_s (l : List Tg) (h1 : 1 ≤ l.length) (hl : l.length ≤ 1000) :
    FPure Try.prog 55 [SlA 2 l.length (l.flatMap tgc)] (Is (.int .i64 ((lst l : Nat) : Int))) := by
  refine FPure.of Try.func55 Try.ntmps55 rfl (by kernel_rfl) rfl rfl rfl ?_
  refine W_seq ?_
  refine W_regionE (c := 1) (c' := 2) (by kernel_rfl) rfl ?_
  refine Runs_p rfl (Valid.assignk (A := Is _) rfl rfl) rfl rfl ?_
  refine Runs_nil ?_
  refine thenQ_n ?_
  refine W_seq ?_
  refine W_regionE (c := 2) (c' := 3) (by kernel_rfl) rfl ?_
  refine Runs_p rfl (Valid.assignk (A := Is _) rfl rfl) rfl rfl ?_
  refine Runs_nil ?_
  refine thenQ_n ?_
  refine W_seq ?_
  refine W_seq ?_
  refine W_regionE (c := 3) (c' := 4) (by kernel_rfl) rfl ?_
  refine Runs_p rfl (Valid.assignk (A := Is _) rfl rfl) rfl rfl ?_
  refine Runs_nil ?_
  refine thenQ_n ?_
  refine W_block ?_
  refine W_loopx (G := Nat) (fun (i : Nat) => 1 ≤ i ∧ i ≤ l.length) [(0, SlA 2 _ _)] (fun (i : Nat) => [(4, Is (.int .i64 (i : Int))), (3, Is (.int .i64 ((lstA l i : Nat) : Int)))]) [] (fun (i : Nat) => []) 4 (fun (i : Nat) => l.length - i) (1) [] (⟨by omega, by omega⟩) ⟨⟨(leq_is rfl rfl (by first | rfl)), (leq_is rfl rfl (by first | rfl)), trivial⟩, ⟨(leq_sla (ReadsA.sla rfl) rfl rfl rfl), trivial⟩, trivial, trivial, rfl, ⟨supg rfl, supg rfl, trivial⟩, ⟨supg rfl, trivial⟩, trivial, trivial, rfl, rfl⟩ ?_
  intro i hI1
  have hlt := lstA_lt l i (by omega)
  refine W_seq ?_
  refine W_seq ?_
  refine W_regionE (c := 4) (c' := 8) (by kernel_rfl) rfl ?_
  refine Runs_p rfl (Valid.movek (A := Is _) rfl rfl) rfl rfl ?_
  refine Runs_p rfl (Valid.movek (A := SlA 2 _ _) rfl rfl) rfl rfl ?_
  refine Runs_p rfl (Valid.lenA rfl Try.underlying86 (ReadsA.sla rfl)) rfl rfl ?_
  refine Runs_p rfl (Valid.lss rfl rfl rfl) rfl rfl ?_
  refine Runs_nil ?_
  refine thenQ_n ?_
  refine W_cond _ rfl (fun hb1 => ?_) (fun hb1 => ?_)
  · try simp only [decide_eq_true_eq] at hb1
    all_goals (
      refine W_skip ?_
      refine thenQ_n ?_
      refine W_seq ?_
      refine W_block ?_
      refine W_seq ?_
      refine W_drawE (c := 8) (c' := 19) (by kernel_rfl) rfl ?_
      refine Runs_p rfl (Valid.movek (A := SlA 2 _ _) rfl rfl) rfl rfl ?_
      refine Runs_p rfl (Valid.movek (A := Is _) rfl rfl) rfl rfl ?_
      refine Runs_p rfl (Valid.eltF (f := tgc) (0, []) rfl (fun _ => rfl) Try.underlying86 sz88 (ReadsA.sla rfl) rfl (by omega) rfl) rfl rfl ?_
      refine Runs_p rfl (Valid.fieldeltA 0 rfl rfl (fun _ _ => by kernel_rfl)) rfl rfl ?_
      refine Runs_p rfl (Valid.loadeltA rfl ag3 rfl rfl) rfl rfl ?_
      refine Runs_p rfl (Valid.movek (A := SlA 2 _ _) rfl rfl) rfl rfl ?_
      refine Runs_p rfl (Valid.movek (A := Is _) rfl rfl) rfl rfl ?_
      refine Runs_p rfl (Valid.eltF (f := tgc) (0, []) rfl (fun _ => rfl) Try.underlying86 sz88 (ReadsA.sla rfl) rfl (by omega) rfl) rfl rfl ?_
      refine Runs_p rfl (Valid.fieldeltA 0 rfl rfl (fun _ _ => by kernel_rfl)) rfl rfl ?_
      refine Runs_p rfl (Valid.loadeltA rfl ag3 rfl rfl) rfl rfl ?_
      refine Runs_p rfl (Valid.lss rfl rfl rfl) rfl rfl ?_
      refine Runs_nil ?_
      refine ⟨_, _, rfl, rfl, by kernel_rfl, ?_⟩
      refine thenQ_n ?_
      refine W_cond _ rfl (fun hb2 => ?_) (fun hb2 => ?_)
      · try simp only [Int.toNat_natCast, decide_eq_true_eq] at hb2
        all_goals (
          refine W_regionE (c := 19) (c' := 21) (by kernel_rfl) rfl ?_
          refine Runs_p rfl (Valid.movek (A := Is _) rfl rfl) rfl rfl ?_
          refine Runs_p rfl (Valid.assignk (A := Is _) rfl rfl) rfl rfl ?_
          refine Runs_nil ?_
          refine blockQ_n ?_
          refine thenQ_n ?_
          refine W_regionE (c := 21) (c' := 24) (by kernel_rfl) rfl ?_
          refine Runs_p rfl (Valid.movek (A := Is _) rfl rfl) rfl rfl ?_
          refine Runs_p rfl (Valid.add rfl rfl rfl (room64 (by omega) (by omega))) rfl rfl ?_
          refine Runs_p rfl (Valid.assignk (A := Is _) rfl rfl) rfl rfl ?_
          refine Runs_nil ?_
          refine LoopQ.next (i + 1) [] (⟨by omega, by omega⟩) (by omega) ⟨⟨(leq_is rfl rfl (by first | rfl | (rw [lstA_s l (by omega), if_pos (by assumption)]; done) | (rw [lstA_s l (by omega), if_neg (by assumption)]; done))), (leq_is rfl rfl (by first | rfl | (rw [lstA_s l (by omega), if_pos (by assumption)]; done) | (rw [lstA_s l (by omega), if_neg (by assumption)]; done))), trivial⟩, ⟨(leq_sla (ReadsA.sla rfl) rfl rfl rfl), trivial⟩, trivial, trivial, rfl, ⟨supg rfl, supg rfl, trivial⟩, ⟨supg rfl, trivial⟩, trivial, trivial, rfl, rfl⟩
          done)
      · try simp only [Int.toNat_natCast, decide_eq_false_iff_not] at hb2
        all_goals (
          refine W_skip ?_
          refine blockQ_n ?_
          refine thenQ_n ?_
          refine W_regionE (c := 19) (c' := 22) (by kernel_rfl) rfl ?_
          refine Runs_p rfl (Valid.movek (A := Is _) rfl rfl) rfl rfl ?_
          refine Runs_p rfl (Valid.add rfl rfl rfl (room64 (by omega) (by omega))) rfl rfl ?_
          refine Runs_p rfl (Valid.assignk (A := Is _) rfl rfl) rfl rfl ?_
          refine Runs_nil ?_
          refine LoopQ.next (i + 1) [] (⟨by omega, by omega⟩) (by omega) ⟨⟨(leq_is rfl rfl (by first | rfl | (rw [lstA_s l (by omega), if_pos (by assumption)]; done) | (rw [lstA_s l (by omega), if_neg (by assumption)]; done))), (leq_is rfl rfl (by first | rfl | (rw [lstA_s l (by omega), if_pos (by assumption)]; done) | (rw [lstA_s l (by omega), if_neg (by assumption)]; done))), trivial⟩, ⟨(leq_sla (ReadsA.sla rfl) rfl rfl rfl), trivial⟩, trivial, trivial, rfl, ⟨supg rfl, supg rfl, trivial⟩, ⟨supg rfl, trivial⟩, trivial, trivial, rfl, rfl⟩
          done)
      done)
  · try simp only [decide_eq_false_iff_not] at hb1
    all_goals (
      refine W_exit ?_
      refine thenQ_e ?_
      refine loopQ_e ?_
      refine blockQ_x ?_
      refine thenQ_n ?_
      refine W_seq ?_
      refine W_regionE (c := 8) (c' := 10) (by kernel_rfl) rfl ?_
      refine Runs_p rfl (Valid.movek (A := Is _) rfl rfl) rfl rfl ?_
      refine Runs_p rfl (Valid.assignk (A := Is _) rfl rfl) rfl rfl ?_
      refine Runs_nil ?_
      refine thenQ_n ?_
      refine W_ret ?_
      refine finQ_r ?_
      refine ResOk.one rfl (RVal.is rfl rfl (by first | rfl | (rw [Wk.lst, show l.length = i by omega])))
      done)

set_option maxRecDepth 100000 in
set_option maxHeartbeats 1000000 in
theorem without_s (l : List Tg) (i : Nat) (hi : i < l.length) (hl : l.length ≤ 1000) :
    FMem Try.prog 56 [SlA 2 l.length (l.flatMap tgc), Is (.int .i64 (i : Int))] [] (OwnA 8 2 (l.length - 1) ((wo l i).flatMap tgc)) [(8, .rowA 88 2 (l.length - 1) ((wo l i).flatMap tgc))] := by
  refine FMem.of Try.func56 Try.ntmps56 rfl (by kernel_rfl) rfl rfl rfl ?_
  refine W_seq ?_
  refine W_regionE (c := 1) (c' := 2) (by kernel_rfl) rfl ?_
  refine Runs_p rfl (Valid.assignk (A := Is (.slice none 0 0)) rfl rfl) rfl rfl ?_
  refine Runs_nil ?_
  refine thenQ_n ?_
  refine W_seq ?_
  refine W_drawE (c := 2) (c' := 12) (by kernel_rfl) rfl ?_
  refine Runs_p rfl (Valid.movek (A := SlA 2 _ _) rfl rfl) rfl rfl ?_
  refine Runs_p rfl (Valid.movek (A := Is _) rfl rfl) rfl rfl ?_
  refine Runs_p rfl (Valid.slicetoF (f := tgc) rfl (fun _ => rfl) Try.underlying86 sz88 (ReadsA.sla rfl) rfl (by omega)) rfl rfl ?_
  refine Runs_w rfl (Valid.appnilA rfl (by intro h; cases h) Try.underlying86 ti88 (by decide) rfl (ReadsA.sla rfl) (by first | exact oneA_flat (fun _ => (oneA_cons (One.is rfl rfl rfl) (oneA_cons (One.sl (e := 1) (.sl rfl)) oneA_nil))) _ | exact oneA_map (fun _ => One.sl (e := 1) (.sl rfl)) _ | exact (oneA_cons (One.is rfl rfl rfl) (oneA_cons (One.sl (e := 1) (.sl rfl)) oneA_nil))) (by simp only [maxLen]; omega) (by omega)) rfl rfl ?_
  refine Runs_p rfl (Valid.movek (A := SlA 2 _ _) rfl rfl) rfl rfl ?_
  refine Runs_p rfl (Valid.movek (A := Is _) rfl rfl) rfl rfl ?_
  refine Runs_p rfl (Valid.add rfl rfl rfl (room64 (by omega) (by omega))) rfl rfl ?_
  refine Runs_p rfl (Valid.slicefromF (f := tgc) rfl (fun _ => rfl) Try.underlying86 sz88 (ReadsA.sla rfl) rfl (by omega)) rfl rfl ?_
  refine Runs_w rfl (Valid.appA rfl (by intro h; cases h) Try.underlying86 ti88 (by decide) rfl rfl (by decide) (ReadsA.sla rfl) (by first | exact oneA_flat (fun _ => (oneA_cons (One.is rfl rfl rfl) (oneA_cons (One.sl (e := 1) (.sl rfl)) oneA_nil))) _ | exact oneA_map (fun _ => One.sl (e := 1) (.sl rfl)) _ | exact (oneA_cons (One.is rfl rfl rfl) (oneA_cons (One.sl (e := 1) (.sl rfl)) oneA_nil))) (by simp only [maxLen]; omega) (by omega)) rfl rfl ?_
  refine Runs_p rfl (Valid.assignk (A := OwnA 80 2 _ _) rfl rfl) rfl rfl ?_
  refine Runs_nil ?_
  refine ⟨_, _, rfl, rfl, by kernel_rfl, ?_⟩
  refine thenQ_n ?_
  refine W_ret ?_
  refine finMQ_r ?_
  exact FinM.leq [(8, 80)] (ResOk.one rfl (RVal.tmp (fun _ _ _ h => h))) (leq_owna rfl rfl rfl (by first | rfl | omega | (simp [wo, toNat_add1]; done)) (by first | rfl | omega | (simp [wo]; done))) ⟨hp_rowA rfl (by first | rfl | omega | (simp [wo, toNat_add1]; done)) (by first | rfl | omega | (simp [wo]; done)), trivial⟩ rfl rfl

theorem without_t {l : List Tg} {i n : Nat} {m : List Tg} (hi : i < l.length) (hl : l.length ≤ 1000) (hn : n = l.length) (hm : wo l i = m) : FMem Try.prog 56 [SlA 2 n (l.flatMap tgc), Is (.int .i64 (i : Int))] [] (OwnA 8 2 (n - 1) (m.flatMap tgc)) [(8, .rowA 88 2 (n - 1) (m.flatMap tgc))] := by
  subst hn hm
  exact without_s l i hi hl
theorem least_t {l : List Tg} {n : Nat} (h1 : 1 ≤ l.length) (hl : l.length ≤ 1000) (hn : n = l.length) : FPure Try.prog 55 [SlA 2 n (l.flatMap tgc)] (Is (.int .i64 ((lst l : Nat) : Int))) := by
  subst hn
  exact least_s l h1 hl
def fr0 (w : List Int) (k : Nat) : List Tg := (List.range k).map (fun i : Nat => (w.getD i 0, [(i : Int)]))
theorem fr0_s (w : List Int) (k : Nat) : fr0 w (k + 1) = fr0 w k ++ [(w.getD k 0, [(k : Int)])] := by unfold fr0; rw [List.range_succ, List.map_append]; rfl
theorem fr0_all (w : List Int) : fr0 w w.length = fr (ag w 0).1 := by unfold fr0 fr; rw [ag, List.map_map]; rfl
theorem fr_snoc (l : List T2) (e : T2) : fr (l ++ [e]) = fr l ++ [(e.1.1, e.2)] := by unfold fr; rw [List.map_append]; rfl
theorem row_s {w : List Int} {r : Nat} {l1 l2 : List T2} {a b : T2} {t : List Tr} (o : Out w r l1 l2 a b t) {k : Nat} (hk : k = (a.2 ++ b.2).length) : (fr l2).flatMap tgc ++ [Is (.int .i64 (a.1.1 + b.1.1)), Sl 1 k ((a.2 ++ b.2).map (Value.int .i64))] = (fr (ag w (r + 1)).1).flatMap tgc := by
  subst hk
  rw [ag_s o, fr_snoc, List.flatMap_append]; simp
theorem out_bd {w : List Int} (hw : Nn w) (h2 : 2 ≤ w.length) {r : Nat} (hr : r + 2 ≤ w.length) {l1 l2 : List T2} {a b : T2} {t : List Tr} (o : Out w r l1 l2 a b t) : 0 ≤ a.1.1 ∧ 0 ≤ b.1.1 ∧ a.1.1 + b.1.1 ≤ w.sum := by
  obtain ⟨hrow, _⟩ := S_row hw r (by omega)
  have h1 := ws_perm (jst_S hw h2 r (by omega))
  rw [(inv hw h2 r (by omega)).sum, ws_jq, o.st, ws_cons, ws_cons] at h1
  rw [o.st] at hrow
  have h0 : 0 ≤ ws t := by
    have : ∀ l : List Tr, (∀ p ∈ l, 0 ≤ p.1) → 0 ≤ ws l := fun l => by
      induction l with
      | nil => intro _; exact Int.le_refl _
      | cons x l ih =>
        intro h
        rw [ws_cons]
        have := h x (by simp)
        have := ih (fun p hp => h p (by simp [hp]))
        omega
    exact this t (fun p hp => hrow.w p (by simp [hp]))
  have ha := hrow.w a.1 (by simp)
  have hb := hrow.w b.1 (by simp)
  omega

set_option maxRecDepth 100000 in
set_option maxHeartbeats 1000000 in
theorem joined_s (w : List Int) (hw : Nn w) (h2 : 2 ≤ w.length) (hl : w.length ≤ 300) (hs : w.sum ≤ 1000000000000) :
    FPure Try.prog 42 [Sl 1 w.length (w.map (Value.int .i64))] (Sl 1 w.length ((joinV w).map (Value.int .i64))) := by
  refine FPure.of Try.func42 Try.ntmps42 rfl (by kernel_rfl) rfl rfl rfl ?_
  refine W_seq ?_
  refine W_regionE (c := 1) (c' := 2) (by kernel_rfl) rfl ?_
  refine Runs_p rfl (Valid.assignk (A := Is (.slice none 0 0)) rfl rfl) rfl rfl ?_
  refine Runs_nil ?_
  refine thenQ_n ?_
  refine W_seq ?_
  refine W_regionE (c := 2) (c' := 3) (by kernel_rfl) rfl ?_
  refine Runs_p rfl (Valid.assignk (A := Is (.slice none 0 0)) rfl rfl) rfl rfl ?_
  refine Runs_nil ?_
  refine thenQ_n ?_
  refine W_seq ?_
  refine W_seq ?_
  refine W_regionE (c := 3) (c' := 4) (by kernel_rfl) rfl ?_
  refine Runs_p rfl (Valid.assignk (A := Is _) rfl rfl) rfl rfl ?_
  refine Runs_nil ?_
  refine thenQ_n ?_
  refine W_block ?_
  refine W.ent ?_ (Ent.ownnil 3 88 2 rfl)
  refine W.ent ?_ (Ent.toA 3 32 rfl rfl)
  refine W_loopx (G := Nat) (fun (k : Nat) => k ≤ w.length) [(0, Sl 1 _ _)] (fun (k : Nat) => [(4, Is (.int .i64 (k : Int))), (3, OwnA 32 2 k ((fr0 w k).flatMap tgc))]) [] (fun (k : Nat) => [(32, .rowA 88 2 k ((fr0 w k).flatMap tgc))]) 5 (fun (k : Nat) => w.length - k) (0) [] (by first | trivial | omega | (simp; omega)) ⟨⟨(leq_is rfl rfl (by first | rfl)), (leq_owna rfl rfl rfl (by first | rfl) (by first | rfl)), trivial⟩, ⟨(leq_sl (Reads.sl rfl) rfl rfl rfl), trivial⟩, ⟨hp_rowA rfl (by first | rfl) (by first | rfl), trivial⟩, trivial, rfl, ⟨supg rfl, supg rfl, trivial⟩, ⟨supg rfl, trivial⟩, ⟨suph rfl rfl, trivial⟩, trivial, rfl, rfl⟩ ?_
  intro k hI1
  refine W_seq ?_
  refine W_seq ?_
  refine W_regionE (c := 5) (c' := 9) (by kernel_rfl) rfl ?_
  refine Runs_p rfl (Valid.movek (A := Is _) rfl rfl) rfl rfl ?_
  refine Runs_p rfl (Valid.movek (A := Sl 1 _ _) rfl rfl) rfl rfl ?_
  refine Runs_p rfl (Valid.len rfl Try.underlying22 (Reads.sl rfl)) rfl rfl ?_
  refine Runs_p rfl (Valid.lss rfl rfl rfl) rfl rfl ?_
  refine Runs_nil ?_
  refine thenQ_n ?_
  refine W_cond _ rfl (fun hb1 => ?_) (fun hb1 => ?_)
  · try simp only [decide_eq_true_eq] at hb1
    all_goals (
      refine W_skip ?_
      refine thenQ_n ?_
      refine W_seq ?_
      refine W_block ?_
      refine W_regionE (c := 9) (c' := 20) (by kernel_rfl) rfl ?_
      refine Runs_p rfl (Valid.movek (A := OwnA 32 2 _ _) rfl rfl) rfl rfl ?_
      refine Runs_p rfl (Valid.movek (A := Sl 1 _ _) rfl rfl) rfl rfl ?_
      refine Runs_p rfl (Valid.movek (A := Is _) rfl rfl) rfl rfl ?_
      refine Runs_p rfl (Valid.eltaddr1 0 rfl Try.underlying22 sz3 (Reads.sl rfl) rfl (by omega) rfl) rfl rfl ?_
      refine Runs_p rfl (Valid.loadelt rfl ag3 rfl) rfl rfl ?_
      refine Runs_p rfl (Valid.movek (A := Is _) rfl rfl) rfl rfl ?_
      refine Runs_p rfl (Valid.lit (el := 3) [_] rfl rfl (fun _ => by kernel_rfl) rfl (by decide)) rfl rfl ?_
      refine Runs_p rfl (Valid.structT rfl rfl (Reads.sl rfl) (fun _ _ _ _ _ => by kernel_rfl)) rfl rfl ?_
      refine Runs_p rfl (Valid.litT1 (el := 88) rfl rfl (Reads.sl rfl) (fun _ _ _ _ _ => by kernel_rfl)) rfl rfl ?_
      refine Runs_w rfl (Valid.appA rfl (by intro h; cases h) Try.underlying86 ti88 (by decide) rfl rfl (by decide) (ReadsA.sla rfl) (by first | exact oneA_flat (fun _ => (oneA_cons (One.is rfl rfl rfl) (oneA_cons (One.sl (e := 1) (.sl rfl)) oneA_nil))) _ | exact oneA_map (fun _ => One.sl (e := 1) (.sl rfl)) _ | exact (oneA_cons (One.is rfl rfl rfl) (oneA_cons (One.sl (e := 1) (.sl rfl)) oneA_nil))) (by simp only [maxLen]; omega) (by omega)) rfl rfl ?_
      refine Runs_p rfl (Valid.assignk (A := OwnA 144 2 _ _) rfl rfl) rfl rfl ?_
      refine Runs_nil ?_
      refine blockQ_n ?_
      refine thenQ_n ?_
      refine W_regionE (c := 20) (c' := 23) (by kernel_rfl) rfl ?_
      refine Runs_p rfl (Valid.movek (A := Is _) rfl rfl) rfl rfl ?_
      refine Runs_p rfl (Valid.add rfl rfl rfl (room64 (by omega) (by omega))) rfl rfl ?_
      refine Runs_p rfl (Valid.assignk (A := Is _) rfl rfl) rfl rfl ?_
      refine Runs_nil ?_
      refine LoopQ.next (k + 1) [(32, 144)] (by omega) (by omega) ⟨⟨(leq_is rfl rfl (by first | rfl | (rw [fr0_s]; simp; done))), (leq_owna rfl rfl rfl (by first | rfl | (rw [fr0_s]; simp; done)) (by first | rfl | (rw [fr0_s]; simp; done))), trivial⟩, ⟨(leq_sl (Reads.sl rfl) rfl rfl rfl), trivial⟩, ⟨hp_rowA rfl (by first | rfl | (rw [fr0_s]; simp; done)) (by first | rfl | (rw [fr0_s]; simp; done)), trivial⟩, trivial, rfl, ⟨supg rfl, supg rfl, trivial⟩, ⟨supg rfl, trivial⟩, ⟨suph rfl rfl, trivial⟩, trivial, rfl, rfl⟩
      done)
  · try simp only [decide_eq_false_iff_not] at hb1
    all_goals (
      refine W_exit ?_
      refine thenQ_e ?_
      refine loopQ_e ?_
      refine blockQ_x ?_
      refine thenQ_n ?_
      refine W_seq ?_
      obtain rfl : k = w.length := by omega
      rw [fr0_all w]
      have hag0 : (ag w 0).2 = List.replicate w.length 0 := rfl
      refine W_regionE (c := 9) (c' := 13) (by kernel_rfl) rfl ?_
      refine Runs_p rfl (Valid.movek (A := Sl 1 _ _) rfl rfl) rfl rfl ?_
      refine Runs_p rfl (Valid.len rfl Try.underlying22 (Reads.sl rfl)) rfl rfl ?_
      refine Runs_w rfl (Valid.makebuf (Value.int .i64) 0 rfl Try.underlying22 tzv3 rfl rfl rfl (by omega) (by omega) (by omega)) rfl rfl ?_
      refine Runs_p rfl (Valid.assignk (A := Buf 88 _) rfl rfl) rfl rfl ?_
      refine Runs_nil ?_
      refine thenQ_n ?_
      refine W_seq ?_
      refine W_block ?_
      refine W_loopx (G := Nat) (fun (r : Nat) => r + 1 ≤ w.length) [] (fun (r : Nat) => [(3, OwnA 32 2 (w.length - r) ((fr (ag w r).1).flatMap tgc)), (5, Buf 88 w.length)]) [] (fun (r : Nat) => [(32, .rowA 88 2 (w.length - r) ((fr (ag w r).1).flatMap tgc)), (88, .buf 3 (((ag w r).2).map (Value.int .i64)))]) 13 (fun (r : Nat) => w.length - r) (0) [] (by omega) ⟨⟨(leq_owna rfl rfl rfl (by first | rfl | omega) (by first | rfl | omega)), (leq_buf rfl rfl rfl (by first | rfl | omega)), trivial⟩, trivial, ⟨hp_rowA rfl (by first | rfl | omega) (by first | rfl | omega), hp_buf rfl (by first | rfl | omega), trivial⟩, trivial, rfl, ⟨supg rfl, supg rfl, trivial⟩, trivial, ⟨suph rfl rfl, suph rfl rfl, trivial⟩, trivial, rfl, rfl⟩ ?_
      intro r hI2
      have hal := (agI hw h2 hl r (by omega)).len
      refine W_seq ?_
      refine W_seq ?_
      refine W_regionE (c := 13) (c' := 16) (by kernel_rfl) rfl ?_
      refine Runs_p rfl (Valid.movek (A := OwnA 32 2 _ _) rfl rfl) rfl rfl ?_
      refine Runs_p rfl (Valid.lenA rfl Try.underlying86 (ReadsA.owna rfl)) rfl rfl ?_
      refine Runs_p rfl (Valid.gtr rfl rfl rfl) rfl rfl ?_
      refine Runs_nil ?_
      refine thenQ_n ?_
      refine W_cond _ rfl (fun hb2 => ?_) (fun hb2 => ?_)
      · try simp only [decide_eq_true_eq] at hb2
        all_goals (
          refine W_skip ?_
          refine thenQ_n ?_
          refine W_block ?_
          refine W_seq ?_
          have hI := agI hw h2 hl r (by omega)
          obtain ⟨l1, l2, a, b, t, o⟩ := hI.two hw (by omega)
          obtain ⟨b1, b2, b3⟩ := out_bd hw h2 (by omega) o
          obtain ⟨_, q2, q3, q4, _⟩ := all_ok hI o
          have hbd := hI.bd
          have hdl := hI.len
          have hSl := (S_row hw r (by omega)).2
          have hpl := hI.perm.length_eq
          rw [List.length_map] at hpl
          have hfl := fr_len (ag w r).1
          have hi1 := o.i1
          have hi2 := o.i2
          have hl1 : l1.length = (ag w r).1.length - 1 := by rw [← o.e1]; exact wo_len o.i1
          have hl2 : l2.length = l1.length - 1 := by rw [← o.e2]; exact wo_len o.i2
          have hf1 := fr_len l1
          have hf2 := fr_len l2
          have hga : (fr (ag w r).1).getD ((lst (fr (ag w r).1) : Nat) : Int).toNat (0, []) = (a.1.1, a.2) := by rw [Int.toNat_natCast, fr_at o.i1, ← getD_el o.i1, o.ea]
          have hw1 : wo (fr (ag w r).1) (lst (fr (ag w r).1)) = fr l1 := by rw [← fr_wo, o.e1]
          have hgb : (fr l1).getD ((lst (fr l1) : Nat) : Int).toNat (0, []) = (b.1.1, b.2) := by rw [Int.toNat_natCast, fr_at o.i2, ← getD_el o.i2, o.eb]
          have hw2 : wo (fr l1) (lst (fr l1)) = fr l2 := by rw [← fr_wo, o.e2]
          have hrs := row_s o rfl
          have hds : (ag w (r + 1)).2 = incA (ag w r).2 (a.2 ++ b.2) (a.2 ++ b.2).length := by rw [ag_s o]
          have hapl : (a.2 ++ b.2).length = a.2.length + b.2.length := List.length_append
          refine W_regionE (c := 16) (c' := 19) (by kernel_rfl) rfl ?_
          refine Runs_p rfl (Valid.movek (A := OwnA 32 2 _ _) rfl rfl) rfl rfl ?_
          refine Runs_p rfl (Valid.call rfl (least_t (l := fr (ag w r).1) (by omega) (by omega) (by omega)) ⟨argle_sla (ReadsA.owna rfl), trivial⟩) rfl rfl ?_
          refine Runs_p rfl (Valid.assignk (A := Is _) rfl rfl) rfl rfl ?_
          refine Runs_nil ?_
          refine thenQ_n ?_
          refine W_seq ?_
          refine W_regionE (c := 19) (c' := 25) (by kernel_rfl) rfl ?_
          refine Runs_p rfl (Valid.movek (A := OwnA 32 2 _ _) rfl rfl) rfl rfl ?_
          refine Runs_p rfl (Valid.movek (A := Is _) rfl rfl) rfl rfl ?_
          refine Runs_p rfl (Valid.eltF (f := tgc) (0, []) rfl (fun _ => rfl) Try.underlying86 sz88 (ReadsA.owna rfl) rfl (by first | omega | (simp only [Int.toNat_natCast, toNat_add, toNat_add1, List.length_append, List.length_cons, List.length_nil, List.length_replicate]; omega)) (by first | rfl | (simp; done) | omega)) rfl rfl ?_
          refine Runs_p rfl (Valid.loadeltaggA (cs := [_, _]) rfl ag88 sz88 rfl rfl) rfl rfl ?_
          refine Runs_w rfl (Valid.alloc [(Value.int .i64 0), (Value.slice none 0 0)] rfl zv88 rfl) rfl rfl ?_
          refine Runs_op rfl (Valid.storeagg (l := [_, _]) rfl sz88 rfl rfl (Nat.le_of_ble_eq_true rfl) rfl ⟨(One.is rfl rfl rfl), (One.sl (Reads.sl rfl)), trivial⟩) rfl ?_
          refine Runs_nil ?_
          refine thenQ_n ?_
          refine W_seq ?_
          rw [hga]
          refine W_regionE (c := 25) (c' := 29) (by kernel_rfl) rfl ?_
          refine Runs_p rfl (Valid.movek (A := OwnA 32 2 _ _) rfl rfl) rfl rfl ?_
          refine Runs_p rfl (Valid.movek (A := Is _) rfl rfl) rfl rfl ?_
          refine Runs_w rfl (Valid.callm [] rfl (.inl ⟨rfl, rfl⟩) (without_t (l := fr (ag w r).1) (m := fr l1) (by omega) (by omega) (by omega) hw1) ⟨(leq_sla (ReadsA.owna rfl) rfl rfl rfl), (leq_is rfl rfl rfl), trivial⟩ trivial (up_owna (id' := 216) rfl) (hpup_cons (j := 216) rfl cup_rowA hpup_nil) (by kernel_rfl) (by kernel_rfl) (by kernel_rfl) (by kernel_rfl) (by kernel_rfl) (by kernel_rfl) (by kernel_rfl) (by kernel_rfl) (by kernel_rfl)) rfl rfl ?_
          refine Runs_p rfl (Valid.assignk (A := OwnA 216 2 _ _) rfl rfl) rfl rfl ?_
          refine Runs_nil ?_
          refine thenQ_n ?_
          refine W_seq ?_
          refine W_regionE (c := 29) (c' := 32) (by kernel_rfl) rfl ?_
          refine Runs_p rfl (Valid.movek (A := OwnA 216 2 _ _) rfl rfl) rfl rfl ?_
          refine Runs_p rfl (Valid.call rfl (least_t (l := fr l1) (by omega) (by omega) (by omega)) ⟨argle_sla (ReadsA.owna rfl), trivial⟩) rfl rfl ?_
          refine Runs_p rfl (Valid.assignk (A := Is _) rfl rfl) rfl rfl ?_
          refine Runs_nil ?_
          refine thenQ_n ?_
          refine W_seq ?_
          refine W_regionE (c := 32) (c' := 38) (by kernel_rfl) rfl ?_
          refine Runs_p rfl (Valid.movek (A := OwnA 216 2 _ _) rfl rfl) rfl rfl ?_
          refine Runs_p rfl (Valid.movek (A := Is _) rfl rfl) rfl rfl ?_
          refine Runs_p rfl (Valid.eltF (f := tgc) (0, []) rfl (fun _ => rfl) Try.underlying86 sz88 (ReadsA.owna rfl) rfl (by first | omega | (simp only [Int.toNat_natCast, toNat_add, toNat_add1, List.length_append, List.length_cons, List.length_nil, List.length_replicate]; omega)) (by first | rfl | (simp; done) | omega)) rfl rfl ?_
          refine Runs_p rfl (Valid.loadeltaggA (cs := [_, _]) rfl ag88 sz88 rfl rfl) rfl rfl ?_
          refine Runs_w rfl (Valid.alloc [(Value.int .i64 0), (Value.slice none 0 0)] rfl zv88 rfl) rfl rfl ?_
          refine Runs_op rfl (Valid.storeagg (l := [_, _]) rfl sz88 rfl rfl (Nat.le_of_ble_eq_true rfl) rfl ⟨(One.is rfl rfl rfl), (One.sl (Reads.sl rfl)), trivial⟩) rfl ?_
          refine Runs_nil ?_
          refine thenQ_n ?_
          refine W_seq ?_
          rw [hgb]
          refine W_regionE (c := 38) (c' := 42) (by kernel_rfl) rfl ?_
          refine Runs_p rfl (Valid.movek (A := OwnA 216 2 _ _) rfl rfl) rfl rfl ?_
          refine Runs_p rfl (Valid.movek (A := Is _) rfl rfl) rfl rfl ?_
          refine Runs_w rfl (Valid.callm [] rfl (.inl ⟨rfl, rfl⟩) (without_t (l := fr l1) (m := fr l2) (by omega) (by omega) (by omega) hw2) ⟨(leq_sla (ReadsA.owna rfl) rfl rfl rfl), (leq_is rfl rfl rfl), trivial⟩ trivial (up_owna (id' := 320) rfl) (hpup_cons (j := 320) rfl cup_rowA hpup_nil) (by kernel_rfl) (by kernel_rfl) (by kernel_rfl) (by kernel_rfl) (by kernel_rfl) (by kernel_rfl) (by kernel_rfl) (by kernel_rfl) (by kernel_rfl)) rfl rfl ?_
          refine Runs_p rfl (Valid.assignk (A := OwnA 320 2 _ _) rfl rfl) rfl rfl ?_
          refine Runs_nil ?_
          refine thenQ_n ?_
          refine W_seq ?_
          refine W_drawE (c := 42) (c' := 49) (by kernel_rfl) rfl ?_
          refine Runs_p rfl (Valid.fieldaddr (off' := 1) rfl rfl (fun _ _ => by kernel_rfl)) rfl rfl ?_
          refine Runs_p rfl (Valid.load _ rfl ag22 rfl rfl rfl) rfl rfl ?_
          refine Runs_w rfl (Valid.appnil rfl Try.underlying22 ti3 (by decide) rfl (Reads.sl rfl) (by first | exact one_map (fun _ => rfl) | exact one_cons rfl one_nil | exact one_app (one_map (fun _ => rfl)) (one_cons rfl one_nil) | exact one_app (one_map (fun _ => rfl)) (one_map (fun _ => rfl)) | exact one_rep rfl | exact one_app (one_rep rfl) (one_map (fun _ => rfl)) | (intro u hu; simp at hu; rcases hu with rfl | hu <;> first | rfl | (subst hu; rfl))) (by simp only [maxLen]; omega) (by first | omega | (simp only []; omega))) rfl rfl ?_
          refine Runs_p rfl (Valid.fieldaddr (off' := 1) rfl rfl (fun _ _ => by kernel_rfl)) rfl rfl ?_
          refine Runs_p rfl (Valid.load _ rfl ag22 rfl rfl rfl) rfl rfl ?_
          refine Runs_w rfl (Valid.app rfl Try.underlying22 ti3 (by decide) rfl rfl (Reads.sl rfl) (by first | exact one_map (fun _ => rfl) | exact one_cons rfl one_nil | exact one_app (one_map (fun _ => rfl)) (one_cons rfl one_nil) | exact one_app (one_map (fun _ => rfl)) (one_map (fun _ => rfl)) | exact one_rep rfl | exact one_app (one_rep rfl) (one_map (fun _ => rfl)) | (intro u hu; simp at hu; rcases hu with rfl | hu <;> first | rfl | (subst hu; rfl))) (by simp only [maxLen]; omega) (by first | omega | (simp only []; omega))) rfl rfl ?_
          refine Runs_p rfl (Valid.assignk (A := Ab.Own 376 1 _ _) rfl rfl) rfl rfl ?_
          refine Runs_nil ?_
          refine ⟨_, _, rfl, rfl, by kernel_rfl, ?_⟩
          refine thenQ_n ?_
          refine W_seq ?_
          refine W_seq ?_
          rw [← List.map_append]
          refine W_regionE (c := 49) (c' := 50) (by kernel_rfl) rfl ?_
          refine Runs_p rfl (Valid.assignk (A := Is _) rfl rfl) rfl rfl ?_
          refine Runs_nil ?_
          refine thenQ_n ?_
          refine W_block ?_
          refine W_loopx (G := Nat) (fun (j : Nat) => j ≤ (a.2 ++ b.2).length) [(3, OwnA 320 2 _ _), (7, Ptr 184 0), (9, Ptr 288 0), (10, Ab.Own 376 1 _ _)] (fun (j : Nat) => [(11, Is (.int .i64 (j : Int))), (5, Buf 88 w.length)]) [(184, .var 88 [Is _, Sl 1 _ _]), (288, .var 88 [Is _, Sl 1 _ _]), (320, .rowA 88 2 _ _), (376, .row 3 1 _ _)] (fun (j : Nat) => [(88, .buf 3 ((incA (ag w r).2 (a.2 ++ b.2) j).map (Value.int .i64)))]) 50 (fun (j : Nat) => (a.2 ++ b.2).length - j) (0) [] (by first | trivial | omega | (simp; omega)) ⟨⟨(leq_is rfl rfl (by first | rfl | omega)), (leq_buf rfl rfl rfl (by first | rfl | omega)), trivial⟩, ⟨(leq_owna rfl rfl rfl rfl rfl), (leq_ptr rfl rfl rfl), (leq_ptr rfl rfl rfl), (leq_own rfl rfl rfl rfl rfl), trivial⟩, ⟨hp_buf rfl (by first | rfl | omega), trivial⟩, ⟨hp_var rfl ⟨(leq_is rfl rfl rfl), (leq_sl (Reads.sl rfl) rfl rfl rfl), trivial⟩, hp_var rfl ⟨(leq_is rfl rfl rfl), (leq_sl (Reads.sl rfl) rfl rfl rfl), trivial⟩, hp_rowA rfl rfl rfl, hp_row rfl rfl rfl, trivial⟩, rfl, ⟨supg rfl, supg rfl, trivial⟩, ⟨supg rfl, supg rfl, supg rfl, supg rfl, trivial⟩, ⟨suph rfl rfl, trivial⟩, ⟨suph rfl rfl, suph rfl rfl, suph rfl rfl, suph rfl rfl, trivial⟩, rfl, rfl⟩ ?_
          intro j hI3
          refine W_seq ?_
          refine W_seq ?_
          refine W_regionE (c := 50) (c' := 54) (by kernel_rfl) rfl ?_
          refine Runs_p rfl (Valid.movek (A := Is _) rfl rfl) rfl rfl ?_
          refine Runs_p rfl (Valid.movek (A := Ab.Own 376 1 _ _) rfl rfl) rfl rfl ?_
          refine Runs_p rfl (Valid.len rfl Try.underlying22 (Reads.own rfl)) rfl rfl ?_
          refine Runs_p rfl (Valid.lss rfl rfl rfl) rfl rfl ?_
          refine Runs_nil ?_
          refine thenQ_n ?_
          refine W_cond _ rfl (fun hb3 => ?_) (fun hb3 => ?_)
          · try simp only [decide_eq_true_eq] at hb3
            all_goals (
              refine W_skip ?_
              refine thenQ_n ?_
              refine W_seq ?_
              refine W_block ?_
              have hq := q3 _ (getD_mem' (w := a.2 ++ b.2) (i := j) (by omega))
              have hil := incA_len (ag w r).2 (a.2 ++ b.2) j
              have hib := incA_bd hbd j (all := a.2 ++ b.2) _ (getD_mem' (w := incA (ag w r).2 (a.2 ++ b.2) j) (i := ((a.2 ++ b.2).getD j 0).toNat) (by omega))
              have hgj : (a.2 ++ b.2).getD (j : Int).toNat 0 = (a.2 ++ b.2).getD j 0 := rfl
              simp only [Int.toNat_natCast] at *
              refine W_drawE (c := 54) (c' := 69) (by kernel_rfl) rfl ?_
              refine Runs_p rfl (Valid.movek (A := Buf 88 _) rfl rfl) rfl rfl ?_
              refine Runs_p rfl (Valid.movek (A := Ab.Own 376 1 _ _) rfl rfl) rfl rfl ?_
              refine Runs_p rfl (Valid.movek (A := Is _) rfl rfl) rfl rfl ?_
              refine Runs_p rfl (Valid.eltaddr1 0 rfl Try.underlying22 sz3 (Reads.own rfl) rfl (by first | omega | (simp only [Int.toNat_natCast, toNat_add, toNat_add1, List.length_append, List.length_cons, List.length_nil, List.length_replicate]; omega)) (by first | rfl | simp)) rfl rfl ?_
              refine Runs_p rfl (Valid.loadelt rfl ag3 rfl) rfl rfl ?_
              refine Runs_p rfl (Valid.movek (A := Buf 88 _) rfl rfl) rfl rfl ?_
              refine Runs_p rfl (Valid.movek (A := Ab.Own 376 1 _ _) rfl rfl) rfl rfl ?_
              refine Runs_p rfl (Valid.movek (A := Is _) rfl rfl) rfl rfl ?_
              refine Runs_p rfl (Valid.eltaddr1 0 rfl Try.underlying22 sz3 (Reads.own rfl) rfl (by first | omega | (simp only [Int.toNat_natCast, toNat_add, toNat_add1, List.length_append, List.length_cons, List.length_nil, List.length_replicate]; omega)) (by first | rfl | simp)) rfl rfl ?_
              refine Runs_p rfl (Valid.loadelt rfl ag3 rfl) rfl rfl ?_
              refine Runs_p rfl (Valid.idxB rfl Try.underlying22 sz3 rfl rfl (by first | omega | (simp only [Int.toNat_natCast]; omega))) rfl rfl ?_
              refine Runs_p rfl (Valid.loadB 0 rfl ag3 rfl rfl (by first | omega | (simp only [Int.toNat_natCast]; omega))) rfl rfl ?_
              refine Runs_p rfl (Valid.add rfl rfl rfl (room64 (by first | omega | (simp only [Int.toNat_natCast]; omega)) (by first | omega | (simp only [Int.toNat_natCast]; omega)))) rfl rfl ?_
              refine Runs_p rfl (Valid.idxB rfl Try.underlying22 sz3 rfl rfl (by first | omega | (simp only [Int.toNat_natCast]; omega))) rfl rfl ?_
              refine Runs_op rfl (Valid.storeB _ rfl sz3 rfl rfl (by first | omega | (simp only [Int.toNat_natCast]; omega)) rfl (One.is rfl rfl rfl)) rfl ?_
              refine Runs_nil ?_
              refine ⟨_, _, rfl, rfl, by kernel_rfl, ?_⟩
              refine blockQ_n ?_
              refine thenQ_n ?_
              refine W_regionE (c := 69) (c' := 72) (by kernel_rfl) rfl ?_
              refine Runs_p rfl (Valid.movek (A := Is _) rfl rfl) rfl rfl ?_
              refine Runs_p rfl (Valid.add rfl rfl rfl (room64 (by omega) (by omega))) rfl rfl ?_
              refine Runs_p rfl (Valid.assignk (A := Is _) rfl rfl) rfl rfl ?_
              refine Runs_nil ?_
              refine LoopQ.next (j + 1) [] (by omega) (by omega) ⟨⟨(leq_is rfl rfl (by first | rfl | omega)), (leq_buf rfl rfl rfl (by first | rfl | omega)), trivial⟩, ⟨(leq_owna rfl rfl rfl rfl rfl), (leq_ptr rfl rfl rfl), (leq_ptr rfl rfl rfl), (leq_own rfl rfl rfl rfl rfl), trivial⟩, ⟨hp_buf rfl (by first | rfl | omega), trivial⟩, ⟨hp_var rfl ⟨(leq_is rfl rfl rfl), (leq_sl (Reads.sl rfl) rfl rfl rfl), trivial⟩, hp_var rfl ⟨(leq_is rfl rfl rfl), (leq_sl (Reads.sl rfl) rfl rfl rfl), trivial⟩, hp_rowA rfl rfl rfl, hp_row rfl rfl rfl, trivial⟩, rfl, ⟨supg rfl, supg rfl, trivial⟩, ⟨supg rfl, supg rfl, supg rfl, supg rfl, trivial⟩, ⟨suph rfl rfl, trivial⟩, ⟨suph rfl rfl, suph rfl rfl, suph rfl rfl, suph rfl rfl, trivial⟩, rfl, rfl⟩
              done)
          · try simp only [decide_eq_false_iff_not] at hb3
            all_goals (
              refine W_exit ?_
              refine thenQ_e ?_
              refine loopQ_e ?_
              refine blockQ_x ?_
              refine thenQ_n ?_
              obtain rfl : j = (a.2 ++ b.2).length := by first | omega | (dsimp only at *; omega)
              refine W_regionE (c := 54) (c' := 65) (by kernel_rfl) rfl ?_
              refine Runs_p rfl (Valid.movek (A := OwnA 320 2 _ _) rfl rfl) rfl rfl ?_
              refine Runs_p rfl (Valid.fieldaddr (off' := 0) rfl rfl (fun _ _ => by kernel_rfl)) rfl rfl ?_
              refine Runs_p rfl (Valid.load _ rfl ag3 rfl rfl rfl) rfl rfl ?_
              refine Runs_p rfl (Valid.fieldaddr (off' := 0) rfl rfl (fun _ _ => by kernel_rfl)) rfl rfl ?_
              refine Runs_p rfl (Valid.load _ rfl ag3 rfl rfl rfl) rfl rfl ?_
              refine Runs_p rfl (Valid.add rfl rfl rfl (room64 (by omega) (by omega))) rfl rfl ?_
              refine Runs_p rfl (Valid.movek (A := Ab.Own 376 1 _ _) rfl rfl) rfl rfl ?_
              refine Runs_p rfl (Valid.structT rfl rfl (Reads.own rfl) (fun _ _ _ _ _ => by kernel_rfl)) rfl rfl ?_
              refine Runs_p rfl (Valid.litT1 (el := 88) rfl rfl (Reads.sl rfl) (fun _ _ _ _ _ => by kernel_rfl)) rfl rfl ?_
              refine Runs_w rfl (Valid.appA rfl (by intro h; cases h) Try.underlying86 ti88 (by decide) rfl rfl (by decide) (ReadsA.sla rfl) (by first | exact oneA_flat (fun _ => (oneA_cons (One.is rfl rfl rfl) (oneA_cons (One.sl (e := 1) (.sl rfl)) oneA_nil))) _ | exact oneA_map (fun _ => One.sl (e := 1) (.sl rfl)) _ | exact (oneA_cons (One.is rfl rfl rfl) (oneA_cons (One.sl (e := 1) (.sl rfl)) oneA_nil))) (by simp only [maxLen]; omega) (by omega)) rfl rfl ?_
              refine Runs_p rfl (Valid.assignk (A := OwnA 504 2 _ _) rfl rfl) rfl rfl ?_
              refine Runs_nil ?_
              refine blockQ_n ?_
              refine LoopQ.next (r + 1) [(32, 504)] (by omega) (by omega) ⟨⟨(leq_owna rfl rfl rfl (by first | rfl | omega | exact hrs | (rw [hds]; done) | (dsimp only; rw [← hapl]; exact hrs)) (by first | rfl | omega | exact hrs | (rw [hds]; done) | (dsimp only; rw [← hapl]; exact hrs))), (leq_buf rfl rfl rfl (by first | rfl | omega | exact hrs | (rw [hds]; done) | (dsimp only; rw [← hapl]; exact hrs))), trivial⟩, trivial, ⟨hp_rowA rfl (by first | rfl | omega | exact hrs | (rw [hds]; done) | (dsimp only; rw [← hapl]; exact hrs)) (by first | rfl | omega | exact hrs | (rw [hds]; done) | (dsimp only; rw [← hapl]; exact hrs)), hp_buf rfl (by first | rfl | omega | exact hrs | (rw [hds]; done) | (dsimp only; rw [← hapl]; exact hrs)), trivial⟩, trivial, rfl, ⟨supg rfl, supg rfl, trivial⟩, trivial, ⟨suph rfl rfl, suph rfl rfl, trivial⟩, trivial, rfl, rfl⟩
              done)
          done)
      · try simp only [decide_eq_false_iff_not] at hb2
        all_goals (
          refine W_exit ?_
          refine thenQ_e ?_
          refine loopQ_e ?_
          refine blockQ_x ?_
          refine thenQ_n ?_
          refine W_seq ?_
          refine W.ent ?_ (Ent.freezeBuf 5 88 _ rfl rfl (by first | (rw [List.length_map]; omega) | omega))
          refine W_regionE (c := 16) (c' := 18) (by kernel_rfl) rfl ?_
          refine Runs_p rfl (Valid.movek (A := Sl 1 _ _) rfl rfl) rfl rfl ?_
          refine Runs_p rfl (Valid.assignk (A := Sl 1 _ _) rfl rfl) rfl rfl ?_
          refine Runs_nil ?_
          refine thenQ_n ?_
          refine W_ret ?_
          refine finQ_r ?_
          refine ResOk.one rfl (RVal.sl (Reads.sl rfl) rfl (by first | rfl | omega | (rw [← ag_end hw h2 hl, show w.length - 1 = r by omega]; done)) (by first | rfl | omega | (rw [← ag_end hw h2 hl, show w.length - 1 = r by omega]; done)))
          done)
      done)

def dpA (l : List Int) : Nat → Int
  | 0 => 0
  | i + 1 => max (dpA l i) (l.getD i 0)
theorem dpA_mx {l : List Int} (h : Nn l) : ∀ i, 1 ≤ i → i ≤ l.length → dpA l i = mxA l i
  | 0, h, _ => by omega
  | 1, _, h1 => by
    rw [mxA_1, dpA, dpA]
    have := h _ (getD_mem' (w := l) (i := 0) (by omega))
    omega
  | i + 2, _, h1 => by rw [dpA, dpA_mx h (i + 1) (by omega) (by omega), ← mxA_s (l := l) (i := i + 1) (by omega)]
theorem joinV_nn {v : List Int} (hv : Nn v) (h2 : 2 ≤ v.length) : Nn (joinV v) := fun x hx => by
  obtain ⟨i, _, rfl⟩ := joinV_mem hv h2 hx
  omega
theorem tk_ones {w : List Int} {k : Nat} (h : k < w.length) : (ones w).take k ++ [max (w.getD k 0) 1] = (ones w).take (k + 1) := by
  rw [List.take_succ_eq_append_getElem (by rw [ones_len]; exact h)]
  have := ones_at h
  rw [List.getD_eq_getElem?_getD, List.getElem?_eq_getElem (by rw [ones_len]; exact h)] at this
  rw [← this]; rfl
theorem tk_halve {v : List Int} {k : Nat} (h : k < v.length) : (halve v).take k ++ [v.getD k 0 / 2 + 1] = (halve v).take (k + 1) := by
  rw [List.take_succ_eq_append_getElem (by rw [halve_len]; exact h)]
  have := halve_at v h
  rw [List.getD_eq_getElem?_getD, List.getElem?_eq_getElem (by rw [halve_len]; exact h)] at this
  rw [← this]; rfl
theorem tk_m {l : List Int} {k : Nat} {x : Int} {m : List Int} (h : l.take k ++ [x] = m) : (l.take k).map (Value.int .i64) ++ [Value.int .i64 x] = m.map (Value.int .i64) := by rw [← h, List.map_append]; rfl
theorem jn_t {v : List Int} {n : Nat} {xs : List Value} (hn : n = v.length) (hx : xs = v.map (Value.int .i64)) (hp : Nn v) (h2 : 2 ≤ v.length) (hl : v.length ≤ 300) (hs : v.sum ≤ 1000000000000) : FPure Try.prog 42 [Sl 1 n xs] (Sl 1 n ((joinV v).map (Value.int .i64))) := by
  subst hn hx
  exact joined_s v hp h2 hl hs
theorem sum_258 {v : List Int} (h : ∀ x ∈ v, x ≤ 1048577) (hl : v.length ≤ 258) : v.sum ≤ 1000000000000 := by
  have := sum_bd h
  omega

set_option maxRecDepth 100000 in
set_option maxHeartbeats 1000000 in
theorem deep_s (l : List Int) (hn : Nn l) (h1 : 1 ≤ l.length) (hl : l.length ≤ 1000) :
    FPure Try.prog 43 [Sl 1 l.length (l.map (Value.int .i64))] (Is (.int .i64 (mxL l))) := by
  refine FPure.of Try.func43 Try.ntmps43 rfl (by kernel_rfl) rfl rfl rfl ?_
  refine W_seq ?_
  refine W_regionE (c := 1) (c' := 2) (by kernel_rfl) rfl ?_
  refine Runs_p rfl (Valid.assignk (A := Is _) rfl rfl) rfl rfl ?_
  refine Runs_nil ?_
  refine thenQ_n ?_
  refine W_seq ?_
  refine W_regionE (c := 2) (c' := 3) (by kernel_rfl) rfl ?_
  refine Runs_p rfl (Valid.assignk (A := Is _) rfl rfl) rfl rfl ?_
  refine Runs_nil ?_
  refine thenQ_n ?_
  refine W_seq ?_
  refine W_seq ?_
  refine W_regionE (c := 3) (c' := 4) (by kernel_rfl) rfl ?_
  refine Runs_p rfl (Valid.assignk (A := Is _) rfl rfl) rfl rfl ?_
  refine Runs_nil ?_
  refine thenQ_n ?_
  refine W_block ?_
  refine W_loopx (G := Nat) (fun (i : Nat) => i ≤ l.length) [(0, Sl 1 _ _)] (fun (i : Nat) => [(4, Is (.int .i64 (i : Int))), (3, Is (.int .i64 (dpA l i)))]) [] (fun (i : Nat) => []) 4 (fun (i : Nat) => l.length - i) (0) [] (by first | trivial | omega | (simp; omega)) ⟨⟨(leq_is rfl rfl (by first | rfl)), (leq_is rfl rfl (by first | rfl)), trivial⟩, ⟨(leq_sl (Reads.sl rfl) rfl rfl rfl), trivial⟩, trivial, trivial, rfl, ⟨supg rfl, supg rfl, trivial⟩, ⟨supg rfl, trivial⟩, trivial, trivial, rfl, rfl⟩ ?_
  intro i hI1
  refine W_seq ?_
  refine W_seq ?_
  refine W_regionE (c := 4) (c' := 8) (by kernel_rfl) rfl ?_
  refine Runs_p rfl (Valid.movek (A := Is _) rfl rfl) rfl rfl ?_
  refine Runs_p rfl (Valid.movek (A := Sl 1 _ _) rfl rfl) rfl rfl ?_
  refine Runs_p rfl (Valid.len rfl Try.underlying22 (Reads.sl rfl)) rfl rfl ?_
  refine Runs_p rfl (Valid.lss rfl rfl rfl) rfl rfl ?_
  refine Runs_nil ?_
  refine thenQ_n ?_
  refine W_cond _ rfl (fun hb1 => ?_) (fun hb1 => ?_)
  · try simp only [decide_eq_true_eq] at hb1
    all_goals (
      refine W_skip ?_
      refine thenQ_n ?_
      refine W_seq ?_
      refine W_block ?_
      refine W_regionE (c := 8) (c' := 15) (by kernel_rfl) rfl ?_
      refine Runs_p rfl (Valid.movek (A := Is _) rfl rfl) rfl rfl ?_
      refine Runs_p rfl (Valid.movek (A := Sl 1 _ _) rfl rfl) rfl rfl ?_
      refine Runs_p rfl (Valid.movek (A := Is _) rfl rfl) rfl rfl ?_
      refine Runs_p rfl (Valid.eltaddr1 0 rfl Try.underlying22 sz3 (Reads.sl rfl) rfl (by omega) rfl) rfl rfl ?_
      refine Runs_p rfl (Valid.loadelt rfl ag3 rfl) rfl rfl ?_
      refine Runs_p rfl (Valid.max rfl rfl rfl) rfl rfl ?_
      refine Runs_p rfl (Valid.assignk (A := Is _) rfl rfl) rfl rfl ?_
      refine Runs_nil ?_
      refine blockQ_n ?_
      refine thenQ_n ?_
      refine W_regionE (c := 15) (c' := 18) (by kernel_rfl) rfl ?_
      refine Runs_p rfl (Valid.movek (A := Is _) rfl rfl) rfl rfl ?_
      refine Runs_p rfl (Valid.add rfl rfl rfl (room64 (by omega) (by omega))) rfl rfl ?_
      refine Runs_p rfl (Valid.assignk (A := Is _) rfl rfl) rfl rfl ?_
      refine Runs_nil ?_
      refine LoopQ.next (i + 1) [] (by omega) (by omega) ⟨⟨(leq_is rfl rfl (by first | rfl)), (leq_is rfl rfl (by first | rfl)), trivial⟩, ⟨(leq_sl (Reads.sl rfl) rfl rfl rfl), trivial⟩, trivial, trivial, rfl, ⟨supg rfl, supg rfl, trivial⟩, ⟨supg rfl, trivial⟩, trivial, trivial, rfl, rfl⟩
      done)
  · try simp only [decide_eq_false_iff_not] at hb1
    all_goals (
      refine W_exit ?_
      refine thenQ_e ?_
      refine loopQ_e ?_
      refine blockQ_x ?_
      refine thenQ_n ?_
      refine W_seq ?_
      refine W_regionE (c := 8) (c' := 10) (by kernel_rfl) rfl ?_
      refine Runs_p rfl (Valid.movek (A := Is _) rfl rfl) rfl rfl ?_
      refine Runs_p rfl (Valid.assignk (A := Is _) rfl rfl) rfl rfl ?_
      refine Runs_nil ?_
      refine thenQ_n ?_
      refine W_ret ?_
      refine finQ_r ?_
      refine ResOk.one rfl (RVal.is rfl rfl (by first | rfl | (rw [mxL, show i = l.length by omega, dpA_mx hn _ h1 (Nat.le_refl _)])))
      done)

theorem deep_t {l : List Int} {n : Nat} (hn : n = l.length) (hp : Nn l) (h1 : 1 ≤ l.length) (hl : l.length ≤ 1000) : FPure Try.prog 43 [Sl 1 n (l.map (Value.int .i64))] (Is (.int .i64 (mxL l))) := by
  subst hn
  exact deep_s l hp h1 hl

set_option maxRecDepth 100000 in
set_option maxHeartbeats 1000000 in
theorem rlengths_s (w : List Int) (most : Int) (hl : w.length ≤ 1000) :
    FPure Try.prog 31 [Sl 1 w.length (w.map (Value.int .i64)), Is (.int .i64 most)] (Tup [Sl 1 (lnV w most).1.length ((lnV w most).1.map (Value.int .i64)), Is (.int .i64 (lnV w most).2)]) := by
  refine FPure.of Try.func31 Try.ntmps31 rfl (by kernel_rfl) rfl rfl rfl ?_
  refine W_seq ?_
  refine W_regionE (c := 1) (c' := 3) (by kernel_rfl) rfl ?_
  refine Runs_p rfl (Valid.assignk (A := Is (.slice none 0 0)) rfl rfl) rfl rfl ?_
  refine Runs_p rfl (Valid.assignk (A := Is _) rfl rfl) rfl rfl ?_
  refine Runs_nil ?_
  refine thenQ_n ?_
  refine W_seq ?_
  refine W_regionE (c := 3) (c' := 6) (by kernel_rfl) rfl ?_
  refine Runs_p rfl (Valid.movek (A := Sl 1 _ _) rfl rfl) rfl rfl ?_
  refine Runs_p rfl (Valid.call rfl (may_s _ (by omega)) ⟨argle_sl (Reads.sl rfl), trivial⟩) rfl rfl ?_
  refine Runs_p rfl (Valid.assignk (A := Is _) rfl rfl) rfl rfl ?_
  refine Runs_nil ?_
  refine thenQ_n ?_
  refine W_seq ?_
  refine W_seq ?_
  refine W_regionE (c := 6) (c' := 26) (by kernel_rfl) rfl ?_
  refine Runs_p rfl (Valid.movek (A := Is _) rfl rfl) rfl rfl ?_
  refine Runs_p rfl (Valid.not rfl rfl) rfl rfl ?_
  refine Runs_p rfl (Valid.movek (A := Is _) rfl rfl) rfl rfl ?_
  refine Runs_cnd rfl rfl (Grd.is rfl) [] (fun hg => trivial) (fun hg => Valid.movek (A := Sl 1 _ _) rfl rfl) (by rfl) rfl ?_
  refine Runs_cnd rfl rfl (Grd.is rfl) [(17, _)] (fun hg => ⟨cnd_at rfl (by first | exact hg | exact hg.1 | exact hg.1.1 | exact hg.1.1.1), trivial⟩) (fun hg => Valid.len rfl Try.underlying22 (Reads.sl rfl)) (by rfl) rfl ?_
  refine Runs_cnd rfl rfl (Grd.is rfl) [(18, _)] (fun hg => ⟨cnd_at rfl (by first | exact hg | exact hg.1 | exact hg.1.1 | exact hg.1.1.1), trivial⟩) (fun hg => Valid.lss rfl rfl rfl) (by rfl) rfl ?_
  refine Runs_p rfl (Valid.pickor rfl rfl rfl rfl (fun h => by first | exact h | exact ⟨hg, h⟩)) rfl rfl ?_
  refine Runs_p rfl (Valid.movek (A := Is _) rfl rfl) rfl rfl ?_
  refine Runs_cnd rfl rfl (Grd.is rfl) [] (fun hg => trivial) (fun hg => Valid.movek (A := Sl 1 _ _) rfl rfl) (by rfl) rfl ?_
  refine Runs_cnd rfl rfl (Grd.is rfl) [(22, _)] (fun hg => ⟨cnd_at rfl (by first | exact hg | exact hg.1 | exact hg.1.1 | exact hg.1.1.1), trivial⟩) (fun hg => Valid.len rfl Try.underlying22 (Reads.sl rfl)) (by rfl) rfl ?_
  refine Runs_cnd rfl rfl (Grd.is rfl) [(23, _)] (fun hg => ⟨cnd_at rfl (by first | exact hg | exact hg.1 | exact hg.1.1 | exact hg.1.1.1), trivial⟩) (fun hg => Valid.gtr rfl rfl rfl) (by rfl) rfl ?_
  refine Runs_p rfl (Valid.pickor rfl rfl rfl rfl (fun h => by first | exact h | exact ⟨hg, h⟩)) rfl rfl ?_
  refine Runs_p rfl (Valid.movek (A := Is _) rfl rfl) rfl rfl ?_
  refine Runs_cnd rfl rfl (Grd.is rfl) [] (fun hg => trivial) (fun hg => Valid.movek (A := Is _) rfl rfl) (by rfl) rfl ?_
  refine Runs_cnd rfl rfl (Grd.is rfl) [(27, _)] (fun hg => ⟨cnd_at rfl (by first | exact hg | exact hg.1 | exact hg.1.1 | exact hg.1.1.1), trivial⟩) (fun hg => Valid.lss rfl rfl rfl) (by rfl) rfl ?_
  refine Runs_p rfl (Valid.pickor rfl rfl rfl rfl (fun h => by first | exact h | exact ⟨hg, h⟩)) rfl rfl ?_
  refine Runs_p rfl (Valid.movek (A := Is _) rfl rfl) rfl rfl ?_
  refine Runs_cnd rfl rfl (Grd.is rfl) [] (fun hg => trivial) (fun hg => Valid.movek (A := Is _) rfl rfl) (by rfl) rfl ?_
  refine Runs_cnd rfl rfl (Grd.is rfl) [(31, _)] (fun hg => ⟨cnd_at rfl (by first | exact hg | exact hg.1 | exact hg.1.1 | exact hg.1.1.1), trivial⟩) (fun hg => Valid.gtr rfl rfl rfl) (by rfl) rfl ?_
  refine Runs_p rfl (Valid.pickor rfl rfl rfl rfl (fun h => by first | exact h | exact ⟨hg, h⟩)) rfl rfl ?_
  refine Runs_nil ?_
  refine thenQ_n ?_
  refine W_cond _ rfl (fun hb1 => ?_) (fun hb1 => ?_)
  · try simp only [decide_eq_true_eq, decide_eq_false_iff_not, Bool.or_eq_true, Bool.not_eq_true'] at hb1
    all_goals (
      refine W_seq ?_
      refine W_regionE (c := 26) (c' := 28) (by kernel_rfl) rfl ?_
      refine Runs_p rfl (Valid.assignk (A := Is (.slice none 0 0)) rfl rfl) rfl rfl ?_
      refine Runs_p rfl (Valid.assignk (A := Is _) rfl rfl) rfl rfl ?_
      refine Runs_nil ?_
      refine thenQ_n ?_
      refine W_ret ?_
      refine thenQ_r ?_
      refine finQ_r ?_
      refine ResOk.two rfl (RVal.sl (Reads.nil rfl) rfl (by first | (rw [lnV_n (fun h => by obtain ⟨a1, a2, a3, a4, a5⟩ := h; first | omega | (simp_all; done) | (simp_all; omega))]; done) | (rw [lnV_n (fun h => by obtain ⟨a1, a2, a3, a4, a5⟩ := h; first | omega | (simp_all; done) | (simp_all; omega))]; rfl) | (rw [lnV_y hok, ← hi5, lenR_n (by omega)]; done) | (rw [lnV_y hok, ← hi5, lenR_n (by omega)]; show w.length = (joinV v).length; omega) | (rw [lnV_y hok]; done)) (by first | (rw [lnV_n (fun h => by obtain ⟨a1, a2, a3, a4, a5⟩ := h; first | omega | (simp_all; done) | (simp_all; omega))]; done) | (rw [lnV_n (fun h => by obtain ⟨a1, a2, a3, a4, a5⟩ := h; first | omega | (simp_all; done) | (simp_all; omega))]; rfl) | (rw [lnV_y hok, ← hi5, lenR_n (by omega)]; done) | (rw [lnV_y hok, ← hi5, lenR_n (by omega)]; show w.length = (joinV v).length; omega) | (rw [lnV_y hok]; done))) (RVal.is rfl rfl (by first | (rw [lnV_n (fun h => by obtain ⟨a1, a2, a3, a4, a5⟩ := h; first | omega | (simp_all; done) | (simp_all; omega))]; done) | (rw [lnV_n (fun h => by obtain ⟨a1, a2, a3, a4, a5⟩ := h; first | omega | (simp_all; done) | (simp_all; omega))]; rfl) | (rw [lnV_y hok, ← hi5, lenR_n (by omega)]; done) | (rw [lnV_y hok, ← hi5, lenR_n (by omega)]; show w.length = (joinV v).length; omega) | (rw [lnV_y hok]; done)))
      done)
  · try simp only [decide_eq_true_eq, decide_eq_false_iff_not, Bool.or_eq_false_iff, Bool.not_eq_false'] at hb1
    all_goals (
      refine W_skip ?_
      refine thenQ_n ?_
      refine W_seq ?_
      have hbw : bnd w := by simp_all
      have hok : 2 ≤ w.length ∧ w.length ≤ 258 ∧ 9 ≤ most ∧ most ≤ 20 ∧ bnd w := ⟨by omega, by omega, by omega, by omega, hbw⟩
      have hp1 := ones_pos w
      have hn1 := hp1.nn
      have hl1 := ones_len w
      have hb1_ := ones_le hbw
      have hs1 := sum_258 hb1_ (by omega)
      have hg1 := sum_ge hp1
      refine W_regionE (c := 26) (c' := 27) (by kernel_rfl) rfl ?_
      refine Runs_p rfl (Valid.assignk (A := Is (.slice none 0 0)) rfl rfl) rfl rfl ?_
      refine Runs_nil ?_
      refine thenQ_n ?_
      refine W_seq ?_
      refine W_seq ?_
      refine W_regionE (c := 27) (c' := 28) (by kernel_rfl) rfl ?_
      refine Runs_p rfl (Valid.assignk (A := Is _) rfl rfl) rfl rfl ?_
      refine Runs_nil ?_
      refine thenQ_n ?_
      refine W_block ?_
      refine W.ent ?_ (Ent.ownnil 7 3 1 rfl)
      refine W_loopx (G := Nat) (fun (k : Nat) => k ≤ w.length) [(0, Sl 1 _ _), (1, Is _)] (fun (k : Nat) => [(8, Is (.int .i64 (k : Int))), (7, Ab.Own 224 1 k (((ones w).take k).map (Value.int .i64)))]) [] (fun (k : Nat) => [(224, .row 3 1 k (((ones w).take k).map (Value.int .i64)))]) 29 (fun (k : Nat) => w.length - k) (0) [] (by first | trivial | omega | (simp; omega)) ⟨⟨(leq_is rfl rfl (by first | rfl | omega)), (leq_own rfl rfl rfl (by first | rfl | omega) (by first | rfl | omega)), trivial⟩, ⟨(leq_sl (Reads.sl rfl) rfl rfl rfl), (leq_is rfl rfl rfl), trivial⟩, ⟨hp_row rfl (by first | rfl | omega) (by first | rfl | omega), trivial⟩, trivial, rfl, ⟨supg rfl, supg rfl, trivial⟩, ⟨supg rfl, supg rfl, trivial⟩, ⟨suph rfl rfl, trivial⟩, trivial, rfl, rfl⟩ ?_
      intro k hI1
      refine W_seq ?_
      refine W_seq ?_
      refine W_regionE (c := 29) (c' := 33) (by kernel_rfl) rfl ?_
      refine Runs_p rfl (Valid.movek (A := Is _) rfl rfl) rfl rfl ?_
      refine Runs_p rfl (Valid.movek (A := Sl 1 _ _) rfl rfl) rfl rfl ?_
      refine Runs_p rfl (Valid.len rfl Try.underlying22 (Reads.sl rfl)) rfl rfl ?_
      refine Runs_p rfl (Valid.lss rfl rfl rfl) rfl rfl ?_
      refine Runs_nil ?_
      refine thenQ_n ?_
      refine W_cond _ rfl (fun hb2 => ?_) (fun hb2 => ?_)
      · try simp only [decide_eq_true_eq] at hb2
        all_goals (
          refine W_skip ?_
          refine thenQ_n ?_
          refine W_seq ?_
          refine W_block ?_
          refine W_regionE (c := 33) (c' := 42) (by kernel_rfl) rfl ?_
          refine Runs_p rfl (Valid.movek (A := Ab.Own 224 1 _ _) rfl rfl) rfl rfl ?_
          refine Runs_p rfl (Valid.movek (A := Sl 1 _ _) rfl rfl) rfl rfl ?_
          refine Runs_p rfl (Valid.movek (A := Is _) rfl rfl) rfl rfl ?_
          refine Runs_p rfl (Valid.eltaddr1 0 rfl Try.underlying22 sz3 (Reads.sl rfl) rfl (by omega) rfl) rfl rfl ?_
          refine Runs_p rfl (Valid.loadelt rfl ag3 rfl) rfl rfl ?_
          refine Runs_p rfl (Valid.max rfl rfl rfl) rfl rfl ?_
          refine Runs_p rfl (Valid.lit (el := 3) [_] rfl rfl (fun _ => by kernel_rfl) rfl (by decide)) rfl rfl ?_
          refine Runs_w rfl (Valid.app rfl Try.underlying22 ti3 (by decide) rfl rfl (Reads.sl rfl) (by first | exact one_map (fun _ => rfl) | exact one_cons rfl one_nil | exact one_app (one_map (fun _ => rfl)) (one_cons rfl one_nil) | exact one_app (one_map (fun _ => rfl)) (one_map (fun _ => rfl)) | exact one_rep rfl | exact one_app (one_rep rfl) (one_map (fun _ => rfl)) | (intro u hu; simp at hu; rcases hu with rfl | hu <;> first | rfl | (subst hu; rfl))) (by simp only [maxLen]; omega) (by omega)) rfl rfl ?_
          refine Runs_p rfl (Valid.assignk (A := Ab.Own 320 1 _ _) rfl rfl) rfl rfl ?_
          refine Runs_nil ?_
          refine blockQ_n ?_
          refine thenQ_n ?_
          refine W_regionE (c := 42) (c' := 45) (by kernel_rfl) rfl ?_
          refine Runs_p rfl (Valid.movek (A := Is _) rfl rfl) rfl rfl ?_
          refine Runs_p rfl (Valid.add rfl rfl rfl (room64 (by omega) (by omega))) rfl rfl ?_
          refine Runs_p rfl (Valid.assignk (A := Is _) rfl rfl) rfl rfl ?_
          refine Runs_nil ?_
          refine LoopQ.next (k + 1) [(224, 320)] (by omega) (by omega) ⟨⟨(leq_is rfl rfl (by first | rfl | omega | exact tk_m (tk_ones (k := k) (by omega)))), (leq_own rfl rfl rfl (by first | rfl | omega | exact tk_m (tk_ones (k := k) (by omega))) (by first | rfl | omega | exact tk_m (tk_ones (k := k) (by omega)))), trivial⟩, ⟨(leq_sl (Reads.sl rfl) rfl rfl rfl), (leq_is rfl rfl rfl), trivial⟩, ⟨hp_row rfl (by first | rfl | omega | exact tk_m (tk_ones (k := k) (by omega))) (by first | rfl | omega | exact tk_m (tk_ones (k := k) (by omega))), trivial⟩, trivial, rfl, ⟨supg rfl, supg rfl, trivial⟩, ⟨supg rfl, supg rfl, trivial⟩, ⟨suph rfl rfl, trivial⟩, trivial, rfl, rfl⟩
          done)
      · try simp only [decide_eq_false_iff_not] at hb2
        all_goals (
          refine W_exit ?_
          refine thenQ_e ?_
          refine loopQ_e ?_
          refine blockQ_x ?_
          refine thenQ_n ?_
          refine W_seq ?_
          obtain rfl : k = w.length := by omega
          have htk : (ones w).take w.length = ones w := List.take_of_length_le (by omega)
          rw [htk]
          refine W_regionE (c := 33) (c' := 36) (by kernel_rfl) rfl ?_
          refine Runs_p rfl (Valid.movek (A := Ab.Own 224 1 _ _) rfl rfl) rfl rfl ?_
          refine Runs_p rfl (Valid.call rfl (jn_t (v := ones w) (by omega) rfl (by assumption) (by omega) (by omega) (by omega)) ⟨argle_sl (Reads.own rfl), trivial⟩) rfl rfl ?_
          refine Runs_p rfl (Valid.assignk (A := Sl 1 _ _) rfl rfl) rfl rfl ?_
          refine Runs_nil ?_
          refine thenQ_n ?_
          refine W_seq ?_
          refine W_block ?_
          refine W_loopx (G := List Int × Nat) (fun (g_ : List Int × Nat) => match g_ with | ⟨v, f⟩ => v.length = w.length ∧ Pos v ∧ (∀ x ∈ v, x ≤ 1048577) ∧ v.sum ≤ (f : Int) ∧ lenR f v most = lenW w most) [(1, Is _)] (fun (g_ : List Int × Nat) => match g_ with | ⟨v, f⟩ => [(7, Sl 1 w.length (v.map (Value.int .i64))), (9, Sl 1 w.length ((joinV v).map (Value.int .i64)))]) [] (fun (g_ : List Int × Nat) => match g_ with | ⟨v, f⟩ => []) 36 (fun (g_ : List Int × Nat) => match g_ with | ⟨v, f⟩ => f) (⟨ones w, (ones w).sum.toNat⟩) [] (⟨hl1, hp1, hb1_, by omega, rfl⟩) ⟨⟨(leq_sl (Reads.own rfl) rfl (by first | rfl | omega) (by first | rfl | omega)), (leq_sl (Reads.sl rfl) rfl (by first | rfl | omega) (by first | rfl | omega)), trivial⟩, ⟨(leq_is rfl rfl rfl), trivial⟩, trivial, trivial, rfl, ⟨supg rfl, supg rfl, trivial⟩, ⟨supg rfl, trivial⟩, trivial, trivial, rfl, rfl⟩ ?_
          intro ⟨v, f⟩ hI2
          obtain ⟨hi1, hi2, hi3, hi4, hi5⟩ := hI2
          have hjl := joinV_len (w := v) (by omega)
          have hvg := sum_ge hi2
          refine W_seq ?_
          refine W_seq ?_
          refine W_regionE (c := 36) (c' := 40) (by kernel_rfl) rfl ?_
          refine Runs_p rfl (Valid.movek (A := Sl 1 _ _) rfl rfl) rfl rfl ?_
          refine Runs_p rfl (Valid.call rfl (deep_t (l := joinV v) (by omega) (joinV_nn hi2.nn (by omega)) (by omega) (by omega)) ⟨argle_sl (Reads.sl rfl), trivial⟩) rfl rfl ?_
          refine Runs_p rfl (Valid.movek (A := Is _) rfl rfl) rfl rfl ?_
          refine Runs_p rfl (Valid.gtr rfl rfl rfl) rfl rfl ?_
          refine Runs_nil ?_
          refine thenQ_n ?_
          refine W_cond _ rfl (fun hb3 => ?_) (fun hb3 => ?_)
          · try simp only [decide_eq_true_eq] at hb3
            all_goals (
              refine W_skip ?_
              refine thenQ_n ?_
              refine W_block ?_
              refine W_seq ?_
              refine W_regionE (c := 40) (c' := 41) (by kernel_rfl) rfl ?_
              refine Runs_p rfl (Valid.assignk (A := Is (.slice none 0 0)) rfl rfl) rfl rfl ?_
              refine Runs_nil ?_
              refine thenQ_n ?_
              refine W_seq ?_
              refine W_seq ?_
              refine W_regionE (c := 41) (c' := 42) (by kernel_rfl) rfl ?_
              refine Runs_p rfl (Valid.assignk (A := Is _) rfl rfl) rfl rfl ?_
              refine Runs_nil ?_
              refine thenQ_n ?_
              refine W_block ?_
              refine W.ent ?_ (Ent.ownnil 10 3 1 rfl)
              refine W_loopx (G := Nat) (fun (j : Nat) => j ≤ v.length) [(1, Is _), (7, Sl 1 _ _)] (fun (j : Nat) => [(11, Is (.int .i64 (j : Int))), (10, Ab.Own 336 1 j (((halve v).take j).map (Value.int .i64)))]) [] (fun (j : Nat) => [(336, .row 3 1 j (((halve v).take j).map (Value.int .i64)))]) 43 (fun (j : Nat) => v.length - j) (0) [] (by first | trivial | omega | (simp; omega)) ⟨⟨(leq_is rfl rfl (by first | rfl | omega)), (leq_own rfl rfl rfl (by first | rfl | omega) (by first | rfl | omega)), trivial⟩, ⟨(leq_is rfl rfl rfl), (leq_sl (Reads.sl rfl) rfl rfl rfl), trivial⟩, ⟨hp_row rfl (by first | rfl | omega) (by first | rfl | omega), trivial⟩, trivial, rfl, ⟨supg rfl, supg rfl, trivial⟩, ⟨supg rfl, supg rfl, trivial⟩, ⟨suph rfl rfl, trivial⟩, trivial, rfl, rfl⟩ ?_
              intro j hI3
              refine W_seq ?_
              refine W_seq ?_
              refine W_regionE (c := 43) (c' := 47) (by kernel_rfl) rfl ?_
              refine Runs_p rfl (Valid.movek (A := Is _) rfl rfl) rfl rfl ?_
              refine Runs_p rfl (Valid.movek (A := Sl 1 _ _) rfl rfl) rfl rfl ?_
              refine Runs_p rfl (Valid.len rfl Try.underlying22 (Reads.sl rfl)) rfl rfl ?_
              refine Runs_p rfl (Valid.lss rfl rfl rfl) rfl rfl ?_
              refine Runs_nil ?_
              refine thenQ_n ?_
              refine W_cond _ rfl (fun hb4 => ?_) (fun hb4 => ?_)
              · try simp only [decide_eq_true_eq] at hb4
                all_goals (
                  refine W_skip ?_
                  refine thenQ_n ?_
                  refine W_seq ?_
                  refine W_block ?_
                  have hvb := at_bd hi2 hi3 (k := j) (by omega)
                  have hgj : v.getD (j : Int).toNat 0 = v.getD j 0 := rfl
                  refine W_regionE (c := 47) (c' := 57) (by kernel_rfl) rfl ?_
                  refine Runs_p rfl (Valid.movek (A := Ab.Own 336 1 _ _) rfl rfl) rfl rfl ?_
                  refine Runs_p rfl (Valid.movek (A := Sl 1 _ _) rfl rfl) rfl rfl ?_
                  refine Runs_p rfl (Valid.movek (A := Is _) rfl rfl) rfl rfl ?_
                  refine Runs_p rfl (Valid.eltaddr1 0 rfl Try.underlying22 sz3 (Reads.sl rfl) rfl (by omega) (by omega)) rfl rfl ?_
                  refine Runs_p rfl (Valid.loadelt rfl ag3 rfl) rfl rfl ?_
                  refine Runs_p rfl (Valid.quo rfl rfl rfl (by omega) (by omega) (room64 (by omega) (by omega))) rfl rfl ?_
                  refine Runs_p rfl (Valid.add rfl rfl rfl (room64 (by omega) (by omega))) rfl rfl ?_
                  refine Runs_p rfl (Valid.lit (el := 3) [_] rfl rfl (fun _ => by kernel_rfl) rfl (by decide)) rfl rfl ?_
                  refine Runs_w rfl (Valid.app rfl Try.underlying22 ti3 (by decide) rfl rfl (Reads.sl rfl) (by first | exact one_map (fun _ => rfl) | exact one_cons rfl one_nil | exact one_app (one_map (fun _ => rfl)) (one_cons rfl one_nil) | exact one_app (one_map (fun _ => rfl)) (one_map (fun _ => rfl)) | exact one_rep rfl | exact one_app (one_rep rfl) (one_map (fun _ => rfl)) | (intro u hu; simp at hu; rcases hu with rfl | hu <;> first | rfl | (subst hu; rfl))) (by simp only [maxLen]; omega) (by omega)) rfl rfl ?_
                  refine Runs_p rfl (Valid.assignk (A := Ab.Own 440 1 _ _) rfl rfl) rfl rfl ?_
                  refine Runs_nil ?_
                  refine blockQ_n ?_
                  refine thenQ_n ?_
                  refine W_regionE (c := 57) (c' := 60) (by kernel_rfl) rfl ?_
                  refine Runs_p rfl (Valid.movek (A := Is _) rfl rfl) rfl rfl ?_
                  refine Runs_p rfl (Valid.add rfl rfl rfl (room64 (by omega) (by omega))) rfl rfl ?_
                  refine Runs_p rfl (Valid.assignk (A := Is _) rfl rfl) rfl rfl ?_
                  refine Runs_nil ?_
                  refine LoopQ.next (j + 1) [(336, 440)] (by omega) (by omega) ⟨⟨(leq_is rfl rfl (by first | rfl | omega | exact tk_m (tk_halve (k := j) (by omega)))), (leq_own rfl rfl rfl (by first | rfl | omega | exact tk_m (tk_halve (k := j) (by omega))) (by first | rfl | omega | exact tk_m (tk_halve (k := j) (by omega)))), trivial⟩, ⟨(leq_is rfl rfl rfl), (leq_sl (Reads.sl rfl) rfl rfl rfl), trivial⟩, ⟨hp_row rfl (by first | rfl | omega | exact tk_m (tk_halve (k := j) (by omega))) (by first | rfl | omega | exact tk_m (tk_halve (k := j) (by omega))), trivial⟩, trivial, rfl, ⟨supg rfl, supg rfl, trivial⟩, ⟨supg rfl, supg rfl, trivial⟩, ⟨suph rfl rfl, trivial⟩, trivial, rfl, rfl⟩
                  done)
              · try simp only [decide_eq_false_iff_not] at hb4
                all_goals (
                  refine W_exit ?_
                  refine thenQ_e ?_
                  refine loopQ_e ?_
                  refine blockQ_x ?_
                  refine thenQ_n ?_
                  refine W_seq ?_
                  obtain rfl : j = v.length := by omega
                  have htj : (halve v).take v.length = halve v := List.take_of_length_le (by rw [halve_len]; omega)
                  rw [htj]
                  have hhl := halve_len v
                  have hhp := halve_pos hi2
                  have hhn := hhp.nn
                  have hhb := halve_le hi3 (by decide)
                  have hhs := sum_258 hhb (by omega)
                  refine W_regionE (c := 47) (c' := 49) (by kernel_rfl) rfl ?_
                  refine Runs_p rfl (Valid.movek (A := Ab.Own 336 1 _ _) rfl rfl) rfl rfl ?_
                  refine Runs_p rfl (Valid.assignk (A := Ab.Own 336 1 _ _) rfl rfl) rfl rfl ?_
                  refine Runs_nil ?_
                  refine thenQ_n ?_
                  refine W_regionE (c := 49) (c' := 52) (by kernel_rfl) rfl ?_
                  refine Runs_p rfl (Valid.movek (A := Ab.Own 336 1 _ _) rfl rfl) rfl rfl ?_
                  refine Runs_p rfl (Valid.call rfl (jn_t (v := halve v) (by omega) rfl (by assumption) (by omega) (by omega) (by omega)) ⟨argle_sl (Reads.own rfl), trivial⟩) rfl rfl ?_
                  refine Runs_p rfl (Valid.assignk (A := Sl 1 _ _) rfl rfl) rfl rfl ?_
                  refine Runs_nil ?_
                  refine blockQ_n ?_
                  refine LoopQ.next (⟨halve v, f - 1⟩) [] (⟨by omega, hhp, hhb, by have := (halve_sum hi2).2 (deep_three hi2 (by omega) (by omega) (show 9 ≤ most by omega) (by omega)); omega, by rw [← hi5, ← lenR_y (by omega), show f - 1 + 1 = f by omega]⟩) (by first | omega | (dsimp only; omega)) ⟨⟨(leq_sl (Reads.own rfl) rfl (by first | rfl | omega) (by first | rfl | omega)), (leq_sl (Reads.sl rfl) rfl (by first | rfl | omega) (by first | rfl | omega)), trivial⟩, ⟨(leq_is rfl rfl rfl), trivial⟩, trivial, trivial, rfl, ⟨supg rfl, supg rfl, trivial⟩, ⟨supg rfl, trivial⟩, trivial, trivial, rfl, rfl⟩
                  done)
              done)
          · try simp only [decide_eq_false_iff_not] at hb3
            all_goals (
              refine W_exit ?_
              refine thenQ_e ?_
              refine loopQ_e ?_
              refine blockQ_x ?_
              refine thenQ_n ?_
              refine W_seq ?_
              refine W_regionE (c := 40) (c' := 43) (by kernel_rfl) rfl ?_
              refine Runs_p rfl (Valid.movek (A := Sl 1 _ _) rfl rfl) rfl rfl ?_
              refine Runs_p rfl (Valid.assignk (A := Sl 1 _ _) rfl rfl) rfl rfl ?_
              refine Runs_p rfl (Valid.assignk (A := Is _) rfl rfl) rfl rfl ?_
              refine Runs_nil ?_
              refine thenQ_n ?_
              refine W_ret ?_
              refine finQ_r ?_
              refine ResOk.two rfl (RVal.sl (Reads.sl rfl) rfl (by first | (rw [lnV_n (fun h => by obtain ⟨a1, a2, a3, a4, a5⟩ := h; first | omega | (simp_all; done) | (simp_all; omega))]; done) | (rw [lnV_n (fun h => by obtain ⟨a1, a2, a3, a4, a5⟩ := h; first | omega | (simp_all; done) | (simp_all; omega))]; rfl) | (rw [lnV_y hok, ← hi5, lenR_n (by omega)]; done) | (rw [lnV_y hok, ← hi5, lenR_n (by omega)]; show w.length = (joinV v).length; omega) | (rw [lnV_y hok]; done)) (by first | (rw [lnV_n (fun h => by obtain ⟨a1, a2, a3, a4, a5⟩ := h; first | omega | (simp_all; done) | (simp_all; omega))]; done) | (rw [lnV_n (fun h => by obtain ⟨a1, a2, a3, a4, a5⟩ := h; first | omega | (simp_all; done) | (simp_all; omega))]; rfl) | (rw [lnV_y hok, ← hi5, lenR_n (by omega)]; done) | (rw [lnV_y hok, ← hi5, lenR_n (by omega)]; show w.length = (joinV v).length; omega) | (rw [lnV_y hok]; done))) (RVal.is rfl rfl (by first | (rw [lnV_n (fun h => by obtain ⟨a1, a2, a3, a4, a5⟩ := h; first | omega | (simp_all; done) | (simp_all; omega))]; done) | (rw [lnV_n (fun h => by obtain ⟨a1, a2, a3, a4, a5⟩ := h; first | omega | (simp_all; done) | (simp_all; omega))]; rfl) | (rw [lnV_y hok, ← hi5, lenR_n (by omega)]; done) | (rw [lnV_y hok, ← hi5, lenR_n (by omega)]; show w.length = (joinV v).length; omega) | (rw [lnV_y hok]; done)))
              done)
          done)
      done)
end Wu
end Go.Proofs.Ytdcenocljnlipaa
