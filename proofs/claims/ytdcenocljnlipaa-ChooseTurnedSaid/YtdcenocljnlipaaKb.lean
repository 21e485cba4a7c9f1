/-
  WALKS of stage 11: Groups, counts, Tables.
-/
import Derived.Test.YtdcenocljnlipaaRows
import Derived.Test.YtdcenocljnlipaaMgc
import Derived.Test.YtdcenocljnlipaaWa
import Derived.Test.YtdcenocljnlipaaWb
import Derived.Test.YtdcenocljnlipaaWm
import Derived.Test.YtdcenocljnlipaaWc
import Derived.Test.YtdcenocljnlipaaWd
import Derived.Test.YtdcenocljnlipaaWe
import Derived.Test.YtdcenocljnlipaaWf
import Derived.Test.YtdcenocljnlipaaWg
import Derived.Test.YtdcenocljnlipaaWk
import Derived.Test.YtdcenocljnlipaaOa
import Derived.Test.YtdcenocljnlipaaOb
import Derived.Test.YtdcenocljnlipaaOc
import Derived.Test.YtdcenocljnlipaaOd
import Derived.Test.YtdcenocljnlipaaOf
import Derived.Test.YtdcenocljnlipaaOi
import Derived.Test.YtdcenocljnlipaaWh
import Derived.Test.YtdcenocljnlipaaKa
namespace Go.Proofs.Ytdcenocljnlipaa
open Go.RowKit
namespace Kb
open Ab Wa Wb Wm Wc Wd We Wf Wg Wk Oa Ob Oc Od Of Oi Wh Ka
theorem ag22 (w : World) : (isAgg 22).run Try.prog w = .ok false w := by kernel_rfl
theorem ag27 (w : World) : (isAgg 27).run Try.prog w = .ok false w := by kernel_rfl
theorem ag3 (w : World) : (isAgg 3).run Try.prog w = .ok false w := by kernel_rfl
theorem sz22 (w : World) : (sizeOf 22).run Try.prog w = .ok 1 w := by kernel_rfl
theorem sz27 (w : World) : (sizeOf 27).run Try.prog w = .ok 1 w := by kernel_rfl
theorem sz3 (w : World) : (sizeOf 3).run Try.prog w = .ok 1 w := by kernel_rfl
theorem ti22 : TI Try.prog 22 1 24 := .mk' (z := (Value.slice none 0 0)) (by kernel_rfl) rfl
theorem ti3 : TI Try.prog 3 1 8 := .mk' (z := (Value.int .i64 0)) (by kernel_rfl) rfl
theorem tzv3 : (Try.prog.info? 3).map (fun i => (i.zero, i.size, i.bytes)) = some (some ((Value.int .i64) 0), 1, 8) := by kernel_rfl
theorem zv22 (w : World) : (zeroValue 22).run Try.prog w = .ok (Value.slice none 0 0) w := by kernel_rfl
theorem zv27 (w : World) : (zeroValue 27).run Try.prog w = .ok (Value.slice none 0 0) w := by kernel_rfl
theorem zv50 (w : World) : (zeroValue 50).run Try.prog w = .ok (.agg #[(Value.slice none 0 0), (Value.slice none 0 0)]) w := by kernel_rfl
set_option maxRecDepth 100000 in
set_option maxHeartbeats 1000000 in
theorem grps_s (m : List Int) (hl : m.length ≤ 1000000000) :
    FPure Try.prog 13 [Sl 1 m.length (m.map (Value.int .i64))] (SlA 1 (gps m).length ((gps m).map Fl)) := by
  refine FPure.of Try.func13 Try.ntmps13 rfl (by kernel_rfl) rfl rfl rfl ?_
  refine W_seq ?_
  refine W_regionE (c := 1) (c' := 2) (by kernel_rfl) rfl ?_
  refine Runs_p rfl (Valid.assignk (A := Is (.slice none 0 0)) rfl rfl) rfl rfl ?_
  refine Runs_nil ?_
  refine thenQ_n ?_
  refine W_seq ?_
  refine W_regionE (c := 2) (c' := 3) (by kernel_rfl) rfl ?_
  refine Runs_w rfl (Valid.alloc [(Value.slice none 0 0)] rfl zv27 rfl) rfl rfl ?_
  refine Runs_nil ?_
  refine thenQ_n ?_
  refine W_seq ?_
  refine W_seq ?_
  refine W_regionE (c := 3) (c' := 5) (by kernel_rfl) rfl ?_
  refine Runs_p rfl (Valid.movek (A := Sl 1 _ _) rfl rfl) rfl rfl ?_
  refine Runs_p rfl (Valid.call rfl (groups_s _) ⟨argle_sl (Reads.sl rfl), trivial⟩) rfl rfl ?_
  refine Runs_nil ?_
  refine thenQ_n ?_
  refine W_block ?_
  refine W.ent ?_ (Ent.ownnilat 16 0 22 1 rfl rfl)
  refine W.ent ?_ (Ent.toAat 16 0 40 rfl rfl rfl)
  refine W_range (n := ng m) (vals := fun q => [Is (.int .i64 (q : Int)), Sl 1 (gp m q).length ((gp m q).map (Value.int .i64))]) (go := fun _ => true) (jc := .ret) (h0 := [(1, .var 27 [OwnA 2 1 _ _]), (2, .rowA 22 1 _ _)]) (hin := fun k => [(1, .var 27 [OwnA 8 1 k ((gpA m k).map Fl)]), (8, .rowA 22 1 k ((gpA m k).map Fl))]) (hin' := fun k => [(16, .var 27 [OwnA 48 1 k ((gpA m k).map Fl)]), (48, .rowA 22 1 k ((gpA m k).map Fl))]) (fx := [(3, Ptr 1 0)]) [(1, 16), (2, 40)] [(8, 2)] rfl (capsOk_fv rfl capsOk_nil) (gr_it m (by omega)) (by kernel_rfl) (fun _ => rfl) (fun _ => rfl) (by kernel_rfl) ⟨(leq_ptr rfl rfl rfl), trivial⟩ (fun _ => by kernel_rfl) ⟨⟨_, rfl, .var ⟨(leq_owna rfl rfl rfl rfl rfl), trivial⟩⟩, ⟨_, rfl, .rowA rfl rfl⟩, trivial⟩ (by kernel_rfl) (by kernel_rfl) (by kernel_rfl) ⟨hp_var rfl ⟨(leq_owna rfl rfl rfl (by first | rfl) (by first | rfl)), trivial⟩, hp_rowA rfl (by first | rfl) (by first | rfl), trivial⟩ (by kernel_rfl) (by kernel_rfl) (fun _ => by kernel_rfl) (fun _ => by kernel_rfl) (fun _ => (hpup_cons (j := 16) rfl (cup_var (allup_cons (up_owna (id' := 48) rfl) allup_nil)) (hpup_cons (j := 48) rfl cup_rowA hpup_nil))) (by kernel_rfl) (fun _ => by kernel_rfl) ?_ ?_ ?_
  · intro k hk1 hgo1
    have hg1 := gp_1 hk1
    refine W_regionE (c := 2) (c' := 3) (by kernel_rfl) rfl ?_
    refine Runs_p rfl (Valid.assignk (A := Sl 1 _ _) rfl rfl) rfl rfl ?_
    refine Runs_nil ?_
    refine ⟨rfl, ?_⟩
    refine W_block ?_
    refine W_drawE (c := 3) (c' := 9) (by kernel_rfl) rfl ?_
    refine Runs_p rfl (Valid.load _ rfl ag27 rfl rfl rfl) rfl rfl ?_
    refine Runs_p rfl (Valid.movek (A := Sl 1 _ _) rfl rfl) rfl rfl ?_
    refine Runs_p rfl (Valid.call rfl (clone_s (gp m k) hg1.1 (by omega)) ⟨argle_sl (Reads.sl rfl), trivial⟩) rfl rfl ?_
    refine Runs_p rfl (Valid.litA1 (el := 22) rfl (Reads.sl rfl) (fun _ _ _ _ => by kernel_rfl)) rfl rfl ?_
    refine Runs_w rfl (Valid.appA rfl (by intro h; cases h) Try.underlying27 ti22 (by decide) rfl rfl (by decide) (ReadsA.sla rfl) (by first | exact oneA_flat (fun _ => (oneA_cons (One.sl (e := 1) (.sl rfl)) oneA_nil)) _ | exact oneA_map (fun _ => One.sl (e := 1) (.sl rfl)) _ | exact (oneA_cons (One.sl (e := 1) (.sl rfl)) oneA_nil)) (by (have hng : ng m = (m.length + 9) / 10 := rfl); simp only [maxLen]; omega) (by (have hng : ng m = (m.length + 9) / 10 := rfl); omega)) rfl rfl ?_
    refine Runs_op rfl (Valid.store rfl sz27 rfl rfl (Nat.le_of_ble_eq_true rfl) (One.sla (ReadsA.owna rfl))) rfl ?_
    refine Runs_nil ?_
    refine ⟨_, _, rfl, rfl, by kernel_rfl, ?_⟩
    refine blockQ_n ?_
    exact roundQ_n [(8, 56)] (by first | rfl | assumption) ⟨hp_var rfl ⟨(leq_owna rfl rfl rfl (by first | rfl | (rw [gpA_s, List.map_append]; rfl)) (by first | rfl | (rw [gpA_s, List.map_append]; rfl))), trivial⟩, hp_rowA rfl (by first | rfl | (rw [gpA_s, List.map_append]; rfl)) (by first | rfl | (rw [gpA_s, List.map_append]; rfl)), trivial⟩ rfl rfl
  · intro hall1
    refine blockQ_n ?_
    refine thenQ_n ?_
    refine W_seq ?_
    have hng : ng m = (m.length + 9) / 10 := rfl
    refine W_regionE (c := 7) (c' := 9) (by kernel_rfl) rfl ?_
    refine Runs_p rfl (Valid.load _ rfl ag27 rfl rfl rfl) rfl rfl ?_
    refine Runs_p rfl (Valid.assignk (A := OwnA 48 1 _ _) rfl rfl) rfl rfl ?_
    refine Runs_nil ?_
    refine thenQ_n ?_
    refine W_ret ?_
    refine finQ_r ?_
    refine ResOk.one rfl (RVal.tmp (argle_sla' (ReadsA.owna rfl) (by first | rfl | (rw [gps, gpA_len])) (by first | rfl | (rw [gps, gpA_len]))))
  · intro k hk1 hgo1 hgk1
    exact absurd hgk1 (by decide)
    

/-- how often each one is in every other group of the first k -/
def ctA (m : List Int) (n : Nat) (f : Int) : Nat → List Int
  | 0 => List.replicate n 0
  | k + 1 => if (k : Int) % 2 = f then incA (ctA m n f k) (gp m k) (gp m k).length else ctA m n f k
theorem ctA_y {m : List Int} {n : Nat} {f : Int} {k : Nat} (h : (k : Int) % 2 = f) : ctA m n f (k + 1) = incA (ctA m n f k) (gp m k) (gp m k).length := by rw [ctA, if_pos h]
theorem ctA_n {m : List Int} {n : Nat} {f : Int} {k : Nat} (h : ¬ (k : Int) % 2 = f) : ctA m n f (k + 1) = ctA m n f k := by rw [ctA, if_neg h]
theorem ctA_len (m : List Int) (n : Nat) (f : Int) : ∀ k, (ctA m n f k).length = n
  | 0 => List.length_replicate
  | k + 1 => by
    rw [ctA]
    split
    · rw [incA_len, ctA_len m n f k]
    · exact ctA_len m n f k
theorem ctA_bd (m : List Int) (n : Nat) (f : Int) : ∀ k, k ≤ ng m → ∀ x ∈ ctA m n f k, 0 ≤ x ∧ x ≤ (min (10 * k) m.length : Nat)
  | 0, _, x, hx => by rw [ctA] at hx; rw [List.eq_of_mem_replicate hx]; simp
  | k + 1, hk, x, hx => by
    have ih := ctA_bd m n f k (by omega)
    have hg := gp_len m k
    have hng : ng m = (m.length + 9) / 10 := rfl
    rw [ctA] at hx
    split at hx
    · have := incA_bd ih _ x hx
      omega
    · have := ih x hx
      omega
def ctF (m : List Int) (n : Nat) (f : Int) : List Int := ctA m n f (ng m)
theorem ctF_bnd {m : List Int} (n : Nat) (f : Int) (h : m.length ≤ 1048576) : bnd (ctF m n f) := fun x hx => by
  have := ctA_bd m n f (ng m) (Nat.le_refl _) x hx
  unfold okW; omega
theorem ctF_len (m : List Int) (n : Nat) (f : Int) : (ctF m n f).length = n := ctA_len m n f _

set_option maxRecDepth 100000 in
set_option maxHeartbeats 1000000 in
theorem counts_s (m : List Int) (n : Nat) (f : Int) (_hf : f = 0 ∨ f = 1) (hn : n ≤ 1000) (hm : ∀ x ∈ m, 0 ≤ x ∧ x < (n : Int)) (hl : m.length ≤ 1000000000) :
    FPure Try.prog 29 [Sl 1 m.length (m.map (Value.int .i64)), Is (.int .i64 (n : Int)), Is (.int .i64 f)] (Sl 1 n ((ctF m n f).map (Value.int .i64))) := by
  refine FPure.of Try.func29 Try.ntmps29 rfl (by kernel_rfl) rfl rfl rfl ?_
  refine W_seq ?_
  refine W_regionE (c := 1) (c' := 3) (by kernel_rfl) rfl ?_
  refine Runs_w rfl (Valid.box rfl (One.is rfl rfl rfl)) rfl rfl ?_
  refine Runs_p rfl (Valid.assignk (A := Is (.slice none 0 0)) rfl rfl) rfl rfl ?_
  refine Runs_nil ?_
  refine thenQ_n ?_
  refine W_seq ?_
  refine W_regionE (c := 3) (c' := 7) (by kernel_rfl) rfl ?_
  refine Runs_p rfl (Valid.movek (A := Is _) rfl rfl) rfl rfl ?_
  refine Runs_w rfl (Valid.makebuf (Value.int .i64) 0 rfl Try.underlying22 tzv3 rfl rfl rfl (by omega) (by omega) (by omega)) rfl rfl ?_
  refine Runs_w rfl (Valid.alloc [(Value.slice none 0 0)] rfl zv22 rfl) rfl rfl ?_
  refine Runs_op rfl (Valid.store rfl sz22 rfl rfl (Nat.le_of_ble_eq_true rfl) (One.buf rfl)) rfl ?_
  refine Runs_nil ?_
  refine thenQ_n ?_
  refine W_seq ?_
  refine W_seq ?_
  refine W_regionE (c := 7) (c' := 9) (by kernel_rfl) rfl ?_
  refine Runs_p rfl (Valid.movek (A := Sl 1 _ _) rfl rfl) rfl rfl ?_
  refine Runs_p rfl (Valid.call rfl (groups_s _) ⟨argle_sl (Reads.sl rfl), trivial⟩) rfl rfl ?_
  refine Runs_nil ?_
  refine thenQ_n ?_
  refine W_block ?_
  refine W_range (n := ng m) (vals := fun q => [Is (.int .i64 (q : Int)), Sl 1 (gp m q).length ((gp m q).map (Value.int .i64))]) (go := fun _ => true) (jc := .ret) (h0 := [(1, .var 3 [Is _]), (2, .var 22 [Buf 3 _]), (3, .buf 3 _)]) (hin := fun k => [(1, .var 3 [Is (.int .i64 f)]), (2, .var 22 [Buf 3 n]), (3, .buf 3 ((ctA m n f k).map (Value.int .i64)))]) (hin' := fun k => [(8, .var 3 [Is (.int .i64 f)]), (40, .var 22 [Buf 32 n]), (32, .buf 3 ((ctA m n f k).map (Value.int .i64)))]) (fx := [(5, Ptr 1 0), (7, Ptr 2 0)]) [(1, 8), (2, 40), (3, 32)] [] rfl (capsOk_fv rfl capsOk_nil) (gr_it m (by omega)) (by kernel_rfl) (fun _ => rfl) (fun _ => rfl) (by kernel_rfl) ⟨(leq_ptr rfl rfl rfl), (leq_ptr rfl rfl rfl), trivial⟩ (fun _ => by kernel_rfl) ⟨⟨_, rfl, .var ⟨(leq_is rfl rfl rfl), trivial⟩⟩, ⟨_, rfl, .var ⟨(leq_buf rfl rfl rfl (by first | rfl | omega)), trivial⟩⟩, ⟨_, rfl, .buf rfl⟩, trivial⟩ (by kernel_rfl) (by kernel_rfl) (by kernel_rfl) ⟨hp_var rfl ⟨(leq_is rfl rfl (by first | rfl | omega)), trivial⟩, hp_var rfl ⟨(leq_buf rfl rfl rfl (by first | rfl | omega)), trivial⟩, hp_buf rfl (by first | rfl | omega), trivial⟩ (by kernel_rfl) (by kernel_rfl) (fun _ => by kernel_rfl) (fun _ => by kernel_rfl) (fun _ => (hpup_cons (j := 8) rfl (cup_var (allup_cons (up_pure rfl) allup_nil)) (hpup_cons (j := 40) rfl (cup_var (allup_cons (up_buf (id' := 32) rfl) allup_nil)) (hpup_cons (j := 32) rfl cup_buf hpup_nil)))) (by kernel_rfl) (fun _ => by kernel_rfl) ?_ ?_ ?_
  · intro k hk1 hgo1
    have hg1 := gp_1 hk1
    have hcl := ctA_len m n f k
    have hcb := ctA_bd m n f k (by omega)
    refine W_seq ?_
    refine W_regionE (c := 2) (c' := 3) (by kernel_rfl) rfl ?_
    refine Runs_p rfl (Valid.assignk (A := Is _) rfl rfl) rfl rfl ?_
    refine Runs_nil ?_
    refine thenQ_n ?_
    refine W_regionE (c := 3) (c' := 4) (by kernel_rfl) rfl ?_
    refine Runs_p rfl (Valid.assignk (A := Sl 1 _ _) rfl rfl) rfl rfl ?_
    refine Runs_nil ?_
    refine ⟨rfl, ?_⟩
    refine W_block ?_
    refine W_seq ?_
    refine W_seq ?_
    refine W_regionE (c := 4) (c' := 8) (by kernel_rfl) rfl ?_
    refine Runs_p rfl (Valid.movek (A := Is _) rfl rfl) rfl rfl ?_
    refine Runs_p rfl (Valid.rem rfl rfl rfl (by omega) (by omega)) rfl rfl ?_
    refine Runs_p rfl (Valid.load _ rfl ag3 rfl rfl rfl) rfl rfl ?_
    refine Runs_p rfl (Valid.neq rfl rfl rfl) rfl rfl ?_
    refine Runs_nil ?_
    refine thenQ_n ?_
    refine W_cond _ rfl (fun hb1 => ?_) (fun hb1 => ?_)
    · try simp only [decide_eq_true_eq, ne_eq] at hb1
      all_goals (
        refine W_exit ?_
        refine thenQ_e ?_
        refine blockQ_x ?_
        exact roundQ_n [] (by first | rfl | assumption) ⟨hp_var rfl ⟨(leq_is rfl rfl (by first | rfl | omega | (rw [ctA_n (by omega)]; done) | (rw [ctA_y (by omega), show (gp m k).length = j by omega]; done))), trivial⟩, hp_var rfl ⟨(leq_buf rfl rfl rfl (by first | rfl | omega | (rw [ctA_n (by omega)]; done) | (rw [ctA_y (by omega), show (gp m k).length = j by omega]; done))), trivial⟩, hp_buf rfl (by first | rfl | omega | (rw [ctA_n (by omega)]; done) | (rw [ctA_y (by omega), show (gp m k).length = j by omega]; done)), trivial⟩ rfl rfl
        done)
    · try simp only [decide_eq_false_iff_not, ne_eq] at hb1
      all_goals (
        refine W_skip ?_
        refine thenQ_n ?_
        refine W_seq ?_
        refine W_regionE (c := 8) (c' := 11) (by kernel_rfl) rfl ?_
        refine Runs_p rfl (Valid.movek (A := Sl 1 _ _) rfl rfl) rfl rfl ?_
        refine Runs_p rfl (Valid.len rfl Try.underlying22 (Reads.sl rfl)) rfl rfl ?_
        refine Runs_p rfl (Valid.movek (A := Is _) rfl rfl) rfl rfl ?_
        refine Runs_nil ?_
        refine thenQ_n ?_
        refine W_block ?_
        refine W_loopx (G := Nat) (fun (j : Nat) => j ≤ (gp m k).length) [(5, Ptr 1 0), (7, Ptr 2 0), (22, Sl 1 _ _), (23, Is _)] (fun (j : Nat) => [(24, Is (.int .i64 (j : Int)))]) [(1, .var 3 [Is _])] (fun (j : Nat) => [(2, .var 22 [Buf 3 n]), (3, .buf 3 ((incA (ctA m n f k) (gp m k) j).map (Value.int .i64)))]) 11 (fun (j : Nat) => (gp m k).length - j) (0) [] (by first | trivial | omega | (simp; omega)) ⟨⟨(leq_is rfl rfl (by first | rfl | omega)), trivial⟩, ⟨(leq_ptr rfl rfl rfl), (leq_ptr rfl rfl rfl), (leq_sl (Reads.sl rfl) rfl rfl rfl), (leq_is rfl rfl rfl), trivial⟩, ⟨hp_var rfl ⟨(leq_buf rfl rfl rfl (by first | rfl | omega)), trivial⟩, hp_buf rfl (by first | rfl | omega), trivial⟩, ⟨hp_var rfl ⟨(leq_is rfl rfl rfl), trivial⟩, trivial⟩, rfl, ⟨supg rfl, trivial⟩, ⟨supg rfl, supg rfl, supg rfl, supg rfl, trivial⟩, ⟨suph rfl rfl, suph rfl rfl, trivial⟩, ⟨suph rfl rfl, trivial⟩, rfl, rfl⟩ ?_
        intro j hI1
        refine W_seq ?_
        refine W_regionE (c := 11) (c' := 12) (by kernel_rfl) rfl ?_
        refine Runs_p rfl (Valid.lss rfl rfl rfl) rfl rfl ?_
        refine Runs_nil ?_
        refine thenQ_n ?_
        refine W_seq ?_
        refine W_cond _ rfl (fun hb2 => ?_) (fun hb2 => ?_)
        · try simp only [decide_eq_true_eq] at hb2
          all_goals (
            refine W_skip ?_
            refine thenQ_n ?_
            refine W_seq ?_
            refine W_block ?_
            refine W_seq ?_
            refine W_regionE (c := 12) (c' := 15) (by kernel_rfl) rfl ?_
            refine Runs_p rfl (Valid.eltaddr1 0 rfl Try.underlying22 sz3 (Reads.sl rfl) rfl (by omega) rfl) rfl rfl ?_
            refine Runs_p rfl (Valid.loadelt rfl ag3 rfl) rfl rfl ?_
            refine Runs_p rfl (Valid.assignk (A := Is _) rfl rfl) rfl rfl ?_
            refine Runs_nil ?_
            refine thenQ_n ?_
            have hgm := hm _ (gp_mem (getD_mem' (w := gp m k) (i := j) (by omega)))
            have hgj : (gp m k).getD (j : Int).toNat 0 = (gp m k).getD j 0 := rfl
            have hil := incA_len (ctA m n f k) (gp m k) j
            have hib := incA_bd hcb j (all := gp m k) _ (getD_mem' (w := incA (ctA m n f k) (gp m k) j) (i := ((gp m k).getD j 0).toNat) (by omega))
            refine W_regionE (c := 15) (c' := 22) (by kernel_rfl) rfl ?_
            refine Runs_p rfl (Valid.load _ rfl ag22 rfl rfl rfl) rfl rfl ?_
            refine Runs_p rfl (Valid.movek (A := Is _) rfl rfl) rfl rfl ?_
            refine Runs_p rfl (Valid.idxB rfl Try.underlying22 sz3 rfl rfl (by omega)) rfl rfl ?_
            refine Runs_p rfl (Valid.loadB 0 rfl ag3 rfl rfl (by omega)) rfl rfl ?_
            refine Runs_p rfl (Valid.add rfl rfl rfl (room64 (by first | omega | (simp only [Int.toNat_natCast]; omega)) (by first | omega | (simp only [Int.toNat_natCast]; omega)))) rfl rfl ?_
            refine Runs_p rfl (Valid.idxB rfl Try.underlying22 sz3 rfl rfl (by omega)) rfl rfl ?_
            refine Runs_op rfl (Valid.storeB _ rfl sz3 rfl rfl (by omega) rfl (One.is rfl rfl rfl)) rfl ?_
            refine Runs_nil ?_
            refine blockQ_n ?_
            refine thenQ_n ?_
            refine W_regionE (c := 22) (c' := 24) (by kernel_rfl) rfl ?_
            refine Runs_p rfl (Valid.add rfl rfl rfl (room64 (by omega) (by omega))) rfl rfl ?_
            refine Runs_p rfl (Valid.movek (A := Is _) rfl rfl) rfl rfl ?_
            refine Runs_nil ?_
            refine LoopQ.next (j + 1) [] (by omega) (by omega) ⟨⟨(leq_is rfl rfl (by first | rfl | omega)), trivial⟩, ⟨(leq_ptr rfl rfl rfl), (leq_ptr rfl rfl rfl), (leq_sl (Reads.sl rfl) rfl rfl rfl), (leq_is rfl rfl rfl), trivial⟩, ⟨hp_var rfl ⟨(leq_buf rfl rfl rfl (by first | rfl | omega)), trivial⟩, hp_buf rfl (by first | rfl | omega), trivial⟩, ⟨hp_var rfl ⟨(leq_is rfl rfl rfl), trivial⟩, trivial⟩, rfl, ⟨supg rfl, trivial⟩, ⟨supg rfl, supg rfl, supg rfl, supg rfl, trivial⟩, ⟨suph rfl rfl, suph rfl rfl, trivial⟩, ⟨suph rfl rfl, trivial⟩, rfl, rfl⟩
            done)
        · try simp only [decide_eq_false_iff_not] at hb2
          all_goals (
            refine W_exit ?_
            refine thenQ_e ?_
            refine loopQ_e ?_
            refine blockQ_x ?_
            refine blockQ_n ?_
            exact roundQ_n [] (by first | rfl | assumption) ⟨hp_var rfl ⟨(leq_is rfl rfl (by first | rfl | omega | (rw [ctA_n (by omega)]; done) | (rw [ctA_y (by omega), show (gp m k).length = j by omega]; done))), trivial⟩, hp_var rfl ⟨(leq_buf rfl rfl rfl (by first | rfl | omega | (rw [ctA_n (by omega)]; done) | (rw [ctA_y (by omega), show (gp m k).length = j by omega]; done))), trivial⟩, hp_buf rfl (by first | rfl | omega | (rw [ctA_n (by omega)]; done) | (rw [ctA_y (by omega), show (gp m k).length = j by omega]; done)), trivial⟩ rfl rfl
            done)
        done)
  · intro hall1
    refine blockQ_n ?_
    refine thenQ_n ?_
    refine W_seq ?_
    refine W_regionE (c := 10) (c' := 12) (by kernel_rfl) rfl ?_
    refine Runs_p rfl (Valid.load _ rfl ag22 rfl rfl rfl) rfl rfl ?_
    refine Runs_p rfl (Valid.assignk (A := Buf 32 _) rfl rfl) rfl rfl ?_
    refine Runs_nil ?_
    refine thenQ_n ?_
    refine W.ent ?_ (Ent.freezeBuf 6 32 _ rfl rfl (by first | (rw [List.length_map, ctA_len]; done) | (rw [List.length_map, ctA_len]; omega)))
    refine W_ret ?_
    refine finQ_r ?_
    refine ResOk.one rfl (RVal.sl (Reads.sl rfl) rfl (by first | rfl | omega) (by first | rfl | omega))
  · intro k hk1 hgo1 hgk1
    exact absurd hgk1 (by decide)
    

def tb (m : List Int) (n : Nat) (f : Int) : List Int := (lnV (ctF m n f) 20).1
/-- which one each of the first k groups has -/
def chG (s t : List Int) (m : List Int) : Nat → List Int
  | 0 => []
  | k + 1 => chG s t m k ++ [if (btV t (gp m k)).1 < (btV s (gp m k)).1 then 1 else 0]
def chA (m : List Int) (n : Nat) (k : Nat) : List Int := chG (tb m n 0) (tb m n 1) m k
theorem chA_s (m : List Int) (n k : Nat) : chA m n (k + 1) = chA m n k ++ [if (btV (tb m n 1) (gp m k)).1 < (btV (tb m n 0) (gp m k)).1 then 1 else 0] := rfl
theorem chA_len (m : List Int) (n : Nat) : ∀ k, (chA m n k).length = k
  | 0 => rfl
  | k + 1 => by rw [chA_s, List.length_append, chA_len m n k]; rfl
def ch (m : List Int) (n : Nat) : List Int := chA m n (ng m)
def okT (m : List Int) (n : Int) : Prop := 2 ≤ n ∧ n ≤ 258 ∧ m ≠ [] ∧ m.length ≤ 1048576
instance (m : List Int) (n : Int) : Decidable (okT m n) := by unfold okT; infer_instance
def tbV (m : List Int) (n : Int) : List (List Int) × List Int × Int :=
  if okT m n then (if ∀ x ∈ m, 0 ≤ x ∧ x < n then ([tb m n.toNat 0, tb m n.toNat 1], ch m n.toNat, 0) else ([], [], 5)) else ([], [], 1)
theorem tb_y {m : List Int} {n : Nat} (h : okT m n) (h2 : ∀ x ∈ m, 0 ≤ x ∧ x < (n : Int)) : tbV m n = ([tb m n 0, tb m n 1], ch m n, 0) := by rw [tbV, if_pos h, if_pos h2]; rfl
theorem tb_n {m : List Int} {n : Int} (h : okT m n) (h2 : ¬ ∀ x ∈ m, 0 ≤ x ∧ x < n) : tbV m n = ([], [], 5) := by rw [tbV, if_pos h, if_neg h2]
theorem tb_e {m : List Int} {n : Int} (h : ¬ okT m n) : tbV m n = ([], [], 1) := by rw [tbV, if_neg h]
def bl (t : List Int) (i k : Nat) : List Int := if i < k then t else []
theorem lnV_len' (w : List Int) (most : Int) : (lnV w most).1.length ≤ 258 := by
  unfold lnV
  split
  · rename_i h
    obtain ⟨h1, h2, h3, _⟩ := h
    obtain ⟨v, v1, v2, v3, _⟩ := lenW_is h1 h2 h3
    show (lenW w most).length ≤ 258
    rw [v3, joinV_len (by omega)]; omega
  · simp
theorem lnV_in (w : List Int) (most : Int) : In64 (lnV w most).1 := fun x hx => by
  unfold lnV at hx
  split at hx
  · rename_i h
    obtain ⟨h1, h2, h3, _⟩ := h
    obtain ⟨v, v1, v2, v3, _⟩ := lenW_is h1 h2 h3
    have hx : x ∈ lenW w most := hx
    rw [v3] at hx
    obtain ⟨i, hi, rfl⟩ := joinV_mem v1.nn (by omega) hx
    have := Dw_n v1.nn hi
    omega
  · cases hx
theorem ln_n {w : List Int} {n : Nat} {most : Int} {xs : List Value} (hn : n = w.length) (hx : xs = w.map (Value.int .i64)) (hl : w.length ≤ 1000) : FPure Try.prog 23 [Sl 1 n xs, Is (.int .i64 most)] (Tup [Sl 1 (lnV w most).1.length ((lnV w most).1.map (Value.int .i64)), Is (.int .i64 (lnV w most).2)]) := by
  subst hn hx
  exact lengths_s w most hl
theorem ch_y {m : List Int} {n k : Nat} (h : (btV (tb m n 1) (gp m k)).1 < (btV (tb m n 0) (gp m k)).1) : chA m n (k + 1) = chA m n k ++ [1] := by rw [chA_s, if_pos h]
theorem ch_n {m : List Int} {n k : Nat} (h : ¬ (btV (tb m n 1) (gp m k)).1 < (btV (tb m n 0) (gp m k)).1) : chA m n (k + 1) = chA m n k ++ [0] := by rw [chA_s, if_neg h]

set_option maxRecDepth 100000 in
set_option maxHeartbeats 1000000 in
theorem tables_s (m : List Int) (x : Int) (hl : m.length ≤ 1000000000) :
    FPure Try.prog 15 [Sl 1 m.length (m.map (Value.int .i64)), Is (.int .i64 x)] (Tup [SlA 1 (tbV m x).1.length ((tbV m x).1.map Fl), Sl 1 (tbV m x).2.1.length ((tbV m x).2.1.map (Value.int .i64)), Is (.int .i64 (tbV m x).2.2)]) := by
  refine FPure.of Try.func15 Try.ntmps15 rfl (by kernel_rfl) rfl rfl rfl ?_
  refine W_seq ?_
  refine W_regionE (c := 1) (c' := 4) (by kernel_rfl) rfl ?_
  refine Runs_p rfl (Valid.assignk (A := Is (.slice none 0 0)) rfl rfl) rfl rfl ?_
  refine Runs_w rfl (Valid.alloc [(Value.slice none 0 0)] rfl zv22 rfl) rfl rfl ?_
  refine Runs_p rfl (Valid.assignk (A := Is _) rfl rfl) rfl rfl ?_
  refine Runs_nil ?_
  refine thenQ_n ?_
  refine W_seq ?_
  refine W_seq ?_
  refine W_regionE (c := 4) (c' := 20) (by kernel_rfl) rfl ?_
  refine Runs_p rfl (Valid.movek (A := Is _) rfl rfl) rfl rfl ?_
  refine Runs_p rfl (Valid.lss rfl rfl rfl) rfl rfl ?_
  refine Runs_p rfl (Valid.movek (A := Is _) rfl rfl) rfl rfl ?_
  refine Runs_cnd rfl rfl (Grd.is rfl) [] (fun hg => trivial) (fun hg => Valid.movek (A := Is _) rfl rfl) (by rfl) rfl ?_
  refine Runs_cnd rfl rfl (Grd.is rfl) [(18, _)] (fun hg => ⟨cnd_at rfl (by first | exact hg | exact hg.1 | exact hg.1.1 | exact hg.1.1.1), trivial⟩) (fun hg => Valid.gtr rfl rfl rfl) (by rfl) rfl ?_
  refine Runs_p rfl (Valid.pickor rfl rfl rfl rfl (fun h => by first | exact h | exact ⟨hg, h⟩)) rfl rfl ?_
  refine Runs_p rfl (Valid.movek (A := Is _) rfl rfl) rfl rfl ?_
  refine Runs_cnd rfl rfl (Grd.is rfl) [] (fun hg => trivial) (fun hg => Valid.movek (A := Sl 1 _ _) rfl rfl) (by rfl) rfl ?_
  refine Runs_cnd rfl rfl (Grd.is rfl) [(22, _)] (fun hg => ⟨cnd_at rfl (by first | exact hg | exact hg.1 | exact hg.1.1 | exact hg.1.1.1), trivial⟩) (fun hg => Valid.len rfl Try.underlying22 (Reads.sl rfl)) (by rfl) rfl ?_
  refine Runs_cnd rfl rfl (Grd.is rfl) [(23, _)] (fun hg => ⟨cnd_at rfl (by first | exact hg | exact hg.1 | exact hg.1.1 | exact hg.1.1.1), trivial⟩) (fun hg => Valid.eql rfl rfl rfl) (by rfl) rfl ?_
  refine Runs_p rfl (Valid.pickor rfl rfl rfl rfl (fun h => by first | exact h | exact ⟨hg, h⟩)) rfl rfl ?_
  refine Runs_p rfl (Valid.movek (A := Is _) rfl rfl) rfl rfl ?_
  refine Runs_cnd rfl rfl (Grd.is rfl) [] (fun hg => trivial) (fun hg => Valid.movek (A := Sl 1 _ _) rfl rfl) (by rfl) rfl ?_
  refine Runs_cnd rfl rfl (Grd.is rfl) [(27, _)] (fun hg => ⟨cnd_at rfl (by first | exact hg | exact hg.1 | exact hg.1.1 | exact hg.1.1.1), trivial⟩) (fun hg => Valid.len rfl Try.underlying22 (Reads.sl rfl)) (by rfl) rfl ?_
  refine Runs_cnd rfl rfl (Grd.is rfl) [(28, _)] (fun hg => ⟨cnd_at rfl (by first | exact hg | exact hg.1 | exact hg.1.1 | exact hg.1.1.1), trivial⟩) (fun hg => Valid.gtr rfl rfl rfl) (by rfl) rfl ?_
  refine Runs_p rfl (Valid.pickor rfl rfl rfl rfl (fun h => by first | exact h | exact ⟨hg, h⟩)) rfl rfl ?_
  refine Runs_nil ?_
  refine thenQ_n ?_
  refine W_cond _ rfl (fun hb1 => ?_) (fun hb1 => ?_)
  · try simp only [decide_eq_true_eq, Bool.or_eq_true] at hb1
    all_goals (
      refine W_seq ?_
      refine W_regionE (c := 20) (c' := 23) (by kernel_rfl) rfl ?_
      refine Runs_p rfl (Valid.assignk (A := Is (.slice none 0 0)) rfl rfl) rfl rfl ?_
      refine Runs_op rfl (Valid.store rfl sz22 rfl rfl (Nat.le_of_ble_eq_true rfl) (One.sl (e := 1) (Reads.nil rfl))) rfl ?_
      refine Runs_p rfl (Valid.assignk (A := Is _) rfl rfl) rfl rfl ?_
      refine Runs_nil ?_
      refine thenQ_n ?_
      refine W_ret ?_
      refine thenQ_r ?_
      refine finQ_r ?_
      refine ResOk.three rfl (RVal.tmp (argle_sla' (ReadsA.nil rfl) (by first | rfl | (rw [tb_e (fun h => by obtain ⟨a1, a2, a3, a4⟩ := h; have a5 := List.length_pos_iff.2 a3; omega)]; done) | (rw [tb_e (fun h => by obtain ⟨a1, a2, a3, a4⟩ := h; have a5 := List.length_pos_iff.2 a3; omega)]; rfl) | (rw [tb_n hok (by simp_all)]; done) | (rw [tb_n hok (by simp_all)]; rfl) | (rw [tb_y hok hga]; done) | (rw [tb_y hok hga]; rfl) | (rw [tb_y hok hga]; show _ = (chA m n (ng m)).length; rw [chA_len])) (by first | rfl | (rw [tb_e (fun h => by obtain ⟨a1, a2, a3, a4⟩ := h; have a5 := List.length_pos_iff.2 a3; omega)]; done) | (rw [tb_e (fun h => by obtain ⟨a1, a2, a3, a4⟩ := h; have a5 := List.length_pos_iff.2 a3; omega)]; rfl) | (rw [tb_n hok (by simp_all)]; done) | (rw [tb_n hok (by simp_all)]; rfl) | (rw [tb_y hok hga]; done) | (rw [tb_y hok hga]; rfl) | (rw [tb_y hok hga]; show _ = (chA m n (ng m)).length; rw [chA_len])))) (RVal.cell ag22 rfl rfl rfl (argle_sl' (Reads.nil rfl) (by first | rfl | (rw [tb_e (fun h => by obtain ⟨a1, a2, a3, a4⟩ := h; have a5 := List.length_pos_iff.2 a3; omega)]; done) | (rw [tb_e (fun h => by obtain ⟨a1, a2, a3, a4⟩ := h; have a5 := List.length_pos_iff.2 a3; omega)]; rfl) | (rw [tb_n hok (by simp_all)]; done) | (rw [tb_n hok (by simp_all)]; rfl) | (rw [tb_y hok hga]; done) | (rw [tb_y hok hga]; rfl) | (rw [tb_y hok hga]; show _ = (chA m n (ng m)).length; rw [chA_len])) (by first | rfl | (rw [tb_e (fun h => by obtain ⟨a1, a2, a3, a4⟩ := h; have a5 := List.length_pos_iff.2 a3; omega)]; done) | (rw [tb_e (fun h => by obtain ⟨a1, a2, a3, a4⟩ := h; have a5 := List.length_pos_iff.2 a3; omega)]; rfl) | (rw [tb_n hok (by simp_all)]; done) | (rw [tb_n hok (by simp_all)]; rfl) | (rw [tb_y hok hga]; done) | (rw [tb_y hok hga]; rfl) | (rw [tb_y hok hga]; show _ = (chA m n (ng m)).length; rw [chA_len])))) (RVal.is rfl rfl (by first | rfl | (rw [tb_e (fun h => by obtain ⟨a1, a2, a3, a4⟩ := h; have a5 := List.length_pos_iff.2 a3; omega)]; done) | (rw [tb_e (fun h => by obtain ⟨a1, a2, a3, a4⟩ := h; have a5 := List.length_pos_iff.2 a3; omega)]; rfl) | (rw [tb_n hok (by simp_all)]; done) | (rw [tb_n hok (by simp_all)]; rfl) | (rw [tb_y hok hga]; done) | (rw [tb_y hok hga]; rfl) | (rw [tb_y hok hga]; show _ = (chA m n (ng m)).length; rw [chA_len])))
      done)
  · try simp only [decide_eq_false_iff_not, Bool.or_eq_false_iff] at hb1
    all_goals (
      refine W_skip ?_
      refine thenQ_n ?_
      refine W_seq ?_
      refine W_seq ?_
      obtain ⟨n, rfl⟩ : ∃ n : Nat, x = (n : Int) := ⟨x.toNat, by omega⟩
      have hok : okT m n := ⟨by omega, by omega, fun h => by (have h9 := congrArg List.length h; rw [List.length_nil] at h9; omega), by omega⟩
      refine W_regionE (c := 20) (c' := 24) (by kernel_rfl) rfl ?_
      refine Runs_p rfl (Valid.movek (A := Sl 1 _ _) rfl rfl) rfl rfl ?_
      refine Runs_p rfl (Valid.movek (A := Is _) rfl rfl) rfl rfl ?_
      refine Runs_p rfl (Valid.call rfl (among_s _ _ (by omega)) ⟨argle_sl (Reads.sl rfl), argle rfl, trivial⟩) rfl rfl ?_
      refine Runs_p rfl (Valid.not rfl rfl) rfl rfl ?_
      refine Runs_nil ?_
      refine thenQ_n ?_
      refine W_cond _ rfl (fun hb2 => ?_) (fun hb2 => ?_)
      · try simp only [decide_eq_false_iff_not, Bool.not_eq_true'] at hb2
        all_goals (
          refine W_seq ?_
          refine W_regionE (c := 24) (c' := 27) (by kernel_rfl) rfl ?_
          refine Runs_p rfl (Valid.assignk (A := Is (.slice none 0 0)) rfl rfl) rfl rfl ?_
          refine Runs_op rfl (Valid.store rfl sz22 rfl rfl (Nat.le_of_ble_eq_true rfl) (One.sl (e := 1) (Reads.nil rfl))) rfl ?_
          refine Runs_p rfl (Valid.assignk (A := Is _) rfl rfl) rfl rfl ?_
          refine Runs_nil ?_
          refine thenQ_n ?_
          refine W_ret ?_
          refine thenQ_r ?_
          refine finQ_r ?_
          refine ResOk.three rfl (RVal.tmp (argle_sla' (ReadsA.nil rfl) (by first | rfl | (rw [tb_e (fun h => by obtain ⟨a1, a2, a3, a4⟩ := h; have a5 := List.length_pos_iff.2 a3; omega)]; done) | (rw [tb_e (fun h => by obtain ⟨a1, a2, a3, a4⟩ := h; have a5 := List.length_pos_iff.2 a3; omega)]; rfl) | (rw [tb_n hok (by simp_all)]; done) | (rw [tb_n hok (by simp_all)]; rfl) | (rw [tb_y hok hga]; done) | (rw [tb_y hok hga]; rfl) | (rw [tb_y hok hga]; show _ = (chA m n (ng m)).length; rw [chA_len])) (by first | rfl | (rw [tb_e (fun h => by obtain ⟨a1, a2, a3, a4⟩ := h; have a5 := List.length_pos_iff.2 a3; omega)]; done) | (rw [tb_e (fun h => by obtain ⟨a1, a2, a3, a4⟩ := h; have a5 := List.length_pos_iff.2 a3; omega)]; rfl) | (rw [tb_n hok (by simp_all)]; done) | (rw [tb_n hok (by simp_all)]; rfl) | (rw [tb_y hok hga]; done) | (rw [tb_y hok hga]; rfl) | (rw [tb_y hok hga]; show _ = (chA m n (ng m)).length; rw [chA_len])))) (RVal.cell ag22 rfl rfl rfl (argle_sl' (Reads.nil rfl) (by first | rfl | (rw [tb_e (fun h => by obtain ⟨a1, a2, a3, a4⟩ := h; have a5 := List.length_pos_iff.2 a3; omega)]; done) | (rw [tb_e (fun h => by obtain ⟨a1, a2, a3, a4⟩ := h; have a5 := List.length_pos_iff.2 a3; omega)]; rfl) | (rw [tb_n hok (by simp_all)]; done) | (rw [tb_n hok (by simp_all)]; rfl) | (rw [tb_y hok hga]; done) | (rw [tb_y hok hga]; rfl) | (rw [tb_y hok hga]; show _ = (chA m n (ng m)).length; rw [chA_len])) (by first | rfl | (rw [tb_e (fun h => by obtain ⟨a1, a2, a3, a4⟩ := h; have a5 := List.length_pos_iff.2 a3; omega)]; done) | (rw [tb_e (fun h => by obtain ⟨a1, a2, a3, a4⟩ := h; have a5 := List.length_pos_iff.2 a3; omega)]; rfl) | (rw [tb_n hok (by simp_all)]; done) | (rw [tb_n hok (by simp_all)]; rfl) | (rw [tb_y hok hga]; done) | (rw [tb_y hok hga]; rfl) | (rw [tb_y hok hga]; show _ = (chA m n (ng m)).length; rw [chA_len])))) (RVal.is rfl rfl (by first | rfl | (rw [tb_e (fun h => by obtain ⟨a1, a2, a3, a4⟩ := h; have a5 := List.length_pos_iff.2 a3; omega)]; done) | (rw [tb_e (fun h => by obtain ⟨a1, a2, a3, a4⟩ := h; have a5 := List.length_pos_iff.2 a3; omega)]; rfl) | (rw [tb_n hok (by simp_all)]; done) | (rw [tb_n hok (by simp_all)]; rfl) | (rw [tb_y hok hga]; done) | (rw [tb_y hok hga]; rfl) | (rw [tb_y hok hga]; show _ = (chA m n (ng m)).length; rw [chA_len])))
          done)
      · try simp only [decide_eq_true_eq, Bool.not_eq_false'] at hb2
        all_goals (
          refine W_skip ?_
          refine thenQ_n ?_
          refine W_seq ?_
          have hga : ∀ x ∈ m, 0 ≤ x ∧ x < (n : Int) := by simp_all
          refine W_regionE (c := 24) (c' := 25) (by kernel_rfl) rfl ?_
          refine Runs_w rfl (Valid.alloc [(Value.slice none 0 0), (Value.slice none 0 0)] rfl zv50 rfl) rfl rfl ?_
          refine Runs_nil ?_
          refine thenQ_n ?_
          refine W_seq ?_
          refine W_seq ?_
          refine W_regionE (c := 25) (c' := 26) (by kernel_rfl) rfl ?_
          refine Runs_p rfl (Valid.movek (A := Is _) rfl rfl) rfl rfl ?_
          refine Runs_nil ?_
          refine thenQ_n ?_
          refine W_block ?_
          refine W_loopx (G := Nat) (fun (k : Nat) => k ≤ 2) [(0, Sl 1 _ _), (1, Is _), (5, Ptr 16 0), (7, Ptr 192 0)] (fun (k : Nat) => [(35, Is (.int .i64 (k : Int)))]) [(16, .var 22 [Is (.slice none 0 0)])] (fun (k : Nat) => [(192, .var 50 [Sl 1 (bl (tb m n 0) 0 k).length ((bl (tb m n 0) 0 k).map (Value.int .i64)), Sl 1 (bl (tb m n 1) 1 k).length ((bl (tb m n 1) 1 k).map (Value.int .i64))])]) 26 (fun (k : Nat) => 2 - k) (0) [] (by first | trivial | omega | (simp; omega)) ⟨⟨(leq_is rfl rfl (by first | rfl)), trivial⟩, ⟨(leq_sl (Reads.sl rfl) rfl rfl rfl), (leq_is rfl rfl rfl), (leq_ptr rfl rfl rfl), (leq_ptr rfl rfl rfl), trivial⟩, ⟨hp_var rfl ⟨(leq_sl (Reads.nil rfl) rfl (by first | rfl) (by first | rfl)), (leq_sl (Reads.nil rfl) rfl (by first | rfl) (by first | rfl)), trivial⟩, trivial⟩, ⟨hp_var rfl ⟨(leq_is rfl rfl rfl), trivial⟩, trivial⟩, rfl, ⟨supg rfl, trivial⟩, ⟨supg rfl, supg rfl, supg rfl, supg rfl, trivial⟩, ⟨suph rfl rfl, trivial⟩, ⟨suph rfl rfl, trivial⟩, rfl, rfl⟩ ?_
          intro k hI1
          refine W_seq ?_
          refine W_regionE (c := 26) (c' := 27) (by kernel_rfl) rfl ?_
          refine Runs_p rfl (Valid.lss rfl rfl rfl) rfl rfl ?_
          refine Runs_nil ?_
          refine thenQ_n ?_
          refine W_seq ?_
          refine W_cond _ rfl (fun hb3 => ?_) (fun hb3 => ?_)
          · try simp only [decide_eq_true_eq] at hb3
            all_goals (
              refine W_skip ?_
              refine thenQ_n ?_
              refine W_seq ?_
              refine W_block ?_
              refine W_seq ?_
              refine W_regionE (c := 27) (c' := 29) (by kernel_rfl) rfl ?_
              refine Runs_p rfl (Valid.movek (A := Is _) rfl rfl) rfl rfl ?_
              refine Runs_p rfl (Valid.assignk (A := Is _) rfl rfl) rfl rfl ?_
              refine Runs_nil ?_
              refine thenQ_n ?_
              rcases (show k = 0 ∨ k = 1 by omega) with rfl | rfl
              · skip
                refine W_regionE (c := 29) (c' := 40) (by kernel_rfl) rfl ?_
                refine Runs_p rfl (Valid.movek (A := Is _) rfl rfl) rfl rfl ?_
                refine Runs_p rfl (Valid.movek (A := Sl 1 _ _) rfl rfl) rfl rfl ?_
                refine Runs_p rfl (Valid.movek (A := Is _) rfl rfl) rfl rfl ?_
                refine Runs_p rfl (Valid.movek (A := Is _) rfl rfl) rfl rfl ?_
                refine Runs_p rfl (Valid.call rfl (counts_s m n ((0 : Nat) : Int) (by omega) (by omega) hga (by omega)) ⟨argle_sl (Reads.sl rfl), argle rfl, argle rfl, trivial⟩) rfl rfl ?_
                refine Runs_p rfl (Valid.call rfl (ln_n (w := ctF m n ((0 : Nat) : Int)) (by rw [ctF_len]) rfl (by rw [ctF_len]; omega)) ⟨argle_sl (Reads.sl rfl), argle rfl, trivial⟩) rfl rfl ?_
                refine Runs_p rfl (Valid.movek (A := Tup [Sl 1 _ _, Is _]) rfl rfl) rfl rfl ?_
                refine Runs_p rfl (Valid.extract _ rfl rfl rfl) rfl rfl ?_
                refine Runs_p rfl (Valid.extract _ rfl rfl rfl) rfl rfl ?_
                refine Runs_p rfl (Valid.idxarr rfl Try.underlying50 sz22 rfl rfl (by decide)) rfl rfl ?_
                refine Runs_op rfl (Valid.store rfl sz22 rfl rfl (Nat.le_of_ble_eq_true rfl) (One.sl (Reads.sl rfl))) rfl ?_
                refine Runs_nil ?_
                refine blockQ_n ?_
                refine thenQ_n ?_
                refine W_regionE (c := 40) (c' := 42) (by kernel_rfl) rfl ?_
                refine Runs_p rfl (Valid.add rfl rfl rfl (room64 (by omega) (by omega))) rfl rfl ?_
                refine Runs_p rfl (Valid.movek (A := Is _) rfl rfl) rfl rfl ?_
                refine Runs_nil ?_
                refine LoopQ.next (0 + 1) [] (by omega) (by omega) ⟨⟨(leq_is rfl rfl (by first | rfl)), trivial⟩, ⟨(leq_sl (Reads.sl rfl) rfl rfl rfl), (leq_is rfl rfl rfl), (leq_ptr rfl rfl rfl), (leq_ptr rfl rfl rfl), trivial⟩, ⟨hp_var rfl ⟨(leq_sl (Reads.sl rfl) rfl (by first | rfl) (by first | rfl)), (leq_sl (Reads.sl rfl) rfl (by first | rfl) (by first | rfl)), trivial⟩, trivial⟩, ⟨hp_var rfl ⟨(leq_is rfl rfl rfl), trivial⟩, trivial⟩, rfl, ⟨supg rfl, trivial⟩, ⟨supg rfl, supg rfl, supg rfl, supg rfl, trivial⟩, ⟨suph rfl rfl, trivial⟩, ⟨suph rfl rfl, trivial⟩, rfl, rfl⟩
              · skip
                refine W_regionE (c := 29) (c' := 40) (by kernel_rfl) rfl ?_
                refine Runs_p rfl (Valid.movek (A := Is _) rfl rfl) rfl rfl ?_
                refine Runs_p rfl (Valid.movek (A := Sl 1 _ _) rfl rfl) rfl rfl ?_
                refine Runs_p rfl (Valid.movek (A := Is _) rfl rfl) rfl rfl ?_
                refine Runs_p rfl (Valid.movek (A := Is _) rfl rfl) rfl rfl ?_
                refine Runs_p rfl (Valid.call rfl (counts_s m n ((1 : Nat) : Int) (by omega) (by omega) hga (by omega)) ⟨argle_sl (Reads.sl rfl), argle rfl, argle rfl, trivial⟩) rfl rfl ?_
                refine Runs_p rfl (Valid.call rfl (ln_n (w := ctF m n ((1 : Nat) : Int)) (by rw [ctF_len]) rfl (by rw [ctF_len]; omega)) ⟨argle_sl (Reads.sl rfl), argle rfl, trivial⟩) rfl rfl ?_
                refine Runs_p rfl (Valid.movek (A := Tup [Sl 1 _ _, Is _]) rfl rfl) rfl rfl ?_
                refine Runs_p rfl (Valid.extract _ rfl rfl rfl) rfl rfl ?_
                refine Runs_p rfl (Valid.extract _ rfl rfl rfl) rfl rfl ?_
                refine Runs_p rfl (Valid.idxarr rfl Try.underlying50 sz22 rfl rfl (by decide)) rfl rfl ?_
                refine Runs_op rfl (Valid.store rfl sz22 rfl rfl (Nat.le_of_ble_eq_true rfl) (One.sl (Reads.sl rfl))) rfl ?_
                refine Runs_nil ?_
                refine blockQ_n ?_
                refine thenQ_n ?_
                refine W_regionE (c := 40) (c' := 42) (by kernel_rfl) rfl ?_
                refine Runs_p rfl (Valid.add rfl rfl rfl (room64 (by omega) (by omega))) rfl rfl ?_
                refine Runs_p rfl (Valid.movek (A := Is _) rfl rfl) rfl rfl ?_
                refine Runs_nil ?_
                refine LoopQ.next (1 + 1) [] (by omega) (by omega) ⟨⟨(leq_is rfl rfl (by first | rfl)), trivial⟩, ⟨(leq_sl (Reads.sl rfl) rfl rfl rfl), (leq_is rfl rfl rfl), (leq_ptr rfl rfl rfl), (leq_ptr rfl rfl rfl), trivial⟩, ⟨hp_var rfl ⟨(leq_sl (Reads.sl rfl) rfl (by first | rfl) (by first | rfl)), (leq_sl (Reads.sl rfl) rfl (by first | rfl) (by first | rfl)), trivial⟩, trivial⟩, ⟨hp_var rfl ⟨(leq_is rfl rfl rfl), trivial⟩, trivial⟩, rfl, ⟨supg rfl, trivial⟩, ⟨supg rfl, supg rfl, supg rfl, supg rfl, trivial⟩, ⟨suph rfl rfl, trivial⟩, ⟨suph rfl rfl, trivial⟩, rfl, rfl⟩
              done)
          · try simp only [decide_eq_false_iff_not] at hb3
            all_goals (
              refine W_exit ?_
              refine thenQ_e ?_
              refine loopQ_e ?_
              refine blockQ_x ?_
              refine thenQ_n ?_
              refine W_seq ?_
              refine W_seq ?_
              obtain rfl : k = 2 := by omega
              refine W_regionE (c := 27) (c' := 29) (by kernel_rfl) rfl ?_
              refine Runs_p rfl (Valid.movek (A := Sl 1 _ _) rfl rfl) rfl rfl ?_
              refine Runs_p rfl (Valid.call rfl (groups_s _) ⟨argle_sl (Reads.sl rfl), trivial⟩) rfl rfl ?_
              refine Runs_nil ?_
              refine thenQ_n ?_
              refine W_block ?_
              refine W.ent ?_ (Ent.ownnilat 16 0 3 1 rfl rfl)
              refine W_range (n := ng m) (vals := fun q => [Is (.int .i64 (q : Int)), Sl 1 (gp m q).length ((gp m q).map (Value.int .i64))]) (go := fun _ => true) (jc := .ret) (h0 := [(1, .var 22 [Ab.Own 3 1 _ _]), (2, .var 50 [Sl 1 _ _, Sl 1 _ _]), (3, .row 3 1 _ _)]) (hin := fun k => [(1, .var 22 [Ab.Own 8 1 k ((chA m n k).map (Value.int .i64))]), (2, .var 50 [Sl 1 (tb m n 0).length ((tb m n 0).map (Value.int .i64)), Sl 1 (tb m n 1).length ((tb m n 1).map (Value.int .i64))]), (8, .row 3 1 k ((chA m n k).map (Value.int .i64)))]) (hin' := fun k => [(16, .var 22 [Ab.Own 240 1 k ((chA m n k).map (Value.int .i64))]), (192, .var 50 [Sl 1 (tb m n 0).length ((tb m n 0).map (Value.int .i64)), Sl 1 (tb m n 1).length ((tb m n 1).map (Value.int .i64))]), (240, .row 3 1 k ((chA m n k).map (Value.int .i64)))]) (fx := [(5, Ptr 1 0), (7, Ptr 2 0)]) [(1, 16), (2, 192), (3, 232)] [(8, 3)] rfl (capsOk_fv rfl capsOk_nil) (gr_it m (by omega)) (by kernel_rfl) (fun _ => rfl) (fun _ => rfl) (by kernel_rfl) ⟨(leq_ptr rfl rfl rfl), (leq_ptr rfl rfl rfl), trivial⟩ (fun _ => by kernel_rfl) ⟨⟨_, rfl, .var ⟨(leq_own rfl rfl rfl rfl rfl), trivial⟩⟩, ⟨_, rfl, .var ⟨(leq_sl (Reads.sl rfl) rfl rfl rfl), (leq_sl (Reads.sl rfl) rfl rfl rfl), trivial⟩⟩, ⟨_, rfl, .row rfl rfl⟩, trivial⟩ (by kernel_rfl) (by kernel_rfl) (by kernel_rfl) ⟨hp_var rfl ⟨(leq_own rfl rfl rfl (by first | rfl) (by first | rfl)), trivial⟩, hp_var rfl ⟨(leq_sl (Reads.sl rfl) rfl (by first | rfl) (by first | rfl)), (leq_sl (Reads.sl rfl) rfl (by first | rfl) (by first | rfl)), trivial⟩, hp_row rfl (by first | rfl) (by first | rfl), trivial⟩ (by kernel_rfl) (by kernel_rfl) (fun _ => by kernel_rfl) (fun _ => by kernel_rfl) (fun _ => (hpup_cons (j := 16) rfl (cup_var (allup_cons (up_own' (id' := 240) rfl) allup_nil)) (hpup_cons (j := 192) rfl (cup_var (allup_cons (up_pure rfl) (allup_cons (up_pure rfl) allup_nil))) (hpup_cons (j := 240) rfl cup_row hpup_nil)))) (by kernel_rfl) (fun _ => by kernel_rfl) ?_ ?_ ?_
              · intro k hk1 hgo1
                have hg1 := gp_1 hk1
                have hl0 : (tb m n 0).length ≤ 258 := lnV_len' _ _
                have hl1 : (tb m n 1).length ≤ 258 := lnV_len' _ _
                have hi0 : In64 (tb m n 0) := lnV_in _ _
                have hi1 : In64 (tb m n 1) := lnV_in _ _
                have hng : ng m = (m.length + 9) / 10 := rfl
                refine W_regionE (c := 2) (c' := 3) (by kernel_rfl) rfl ?_
                refine Runs_p rfl (Valid.assignk (A := Sl 1 _ _) rfl rfl) rfl rfl ?_
                refine Runs_nil ?_
                refine ⟨rfl, ?_⟩
                refine W_block ?_
                refine W_seq ?_
                refine W_regionE (c := 3) (c' := 12) (by kernel_rfl) rfl ?_
                refine Runs_p rfl (Valid.idxarr rfl Try.underlying50 sz22 rfl rfl (by decide)) rfl rfl ?_
                refine Runs_p rfl (Valid.load _ rfl ag22 rfl rfl rfl) rfl rfl ?_
                refine Runs_p rfl (Valid.movek (A := Sl 1 _ _) rfl rfl) rfl rfl ?_
                refine Runs_p rfl (Valid.call rfl (bits_s (tb m n 0) (gp m k) hi0 (by omega) (by omega)) ⟨argle_sl (Reads.sl rfl), argle_sl (Reads.sl rfl), trivial⟩) rfl rfl ?_
                refine Runs_p rfl (Valid.movek (A := Tup [Is _, Is _]) rfl rfl) rfl rfl ?_
                refine Runs_p rfl (Valid.extract _ rfl rfl rfl) rfl rfl ?_
                refine Runs_p rfl (Valid.extract _ rfl rfl rfl) rfl rfl ?_
                refine Runs_p rfl (Valid.assignk (A := Is _) rfl rfl) rfl rfl ?_
                refine Runs_p rfl (Valid.assignk (A := Is _) rfl rfl) rfl rfl ?_
                refine Runs_nil ?_
                refine thenQ_n ?_
                refine W_seq ?_
                refine W_regionE (c := 12) (c' := 21) (by kernel_rfl) rfl ?_
                refine Runs_p rfl (Valid.idxarr rfl Try.underlying50 sz22 rfl rfl (by decide)) rfl rfl ?_
                refine Runs_p rfl (Valid.load _ rfl ag22 rfl rfl rfl) rfl rfl ?_
                refine Runs_p rfl (Valid.movek (A := Sl 1 _ _) rfl rfl) rfl rfl ?_
                refine Runs_p rfl (Valid.call rfl (bits_s (tb m n 1) (gp m k) hi1 (by omega) (by omega)) ⟨argle_sl (Reads.sl rfl), argle_sl (Reads.sl rfl), trivial⟩) rfl rfl ?_
                refine Runs_p rfl (Valid.movek (A := Tup [Is _, Is _]) rfl rfl) rfl rfl ?_
                refine Runs_p rfl (Valid.extract _ rfl rfl rfl) rfl rfl ?_
                refine Runs_p rfl (Valid.extract _ rfl rfl rfl) rfl rfl ?_
                refine Runs_p rfl (Valid.assignk (A := Is _) rfl rfl) rfl rfl ?_
                refine Runs_p rfl (Valid.assignk (A := Is _) rfl rfl) rfl rfl ?_
                refine Runs_nil ?_
                refine thenQ_n ?_
                refine W_seq ?_
                refine W_regionE (c := 21) (c' := 24) (by kernel_rfl) rfl ?_
                refine Runs_p rfl (Valid.movek (A := Is _) rfl rfl) rfl rfl ?_
                refine Runs_p rfl (Valid.movek (A := Is _) rfl rfl) rfl rfl ?_
                refine Runs_p rfl (Valid.lss rfl rfl rfl) rfl rfl ?_
                refine Runs_nil ?_
                refine thenQ_n ?_
                refine W_cond _ rfl (fun hb4 => ?_) (fun hb4 => ?_)
                · try simp only [decide_eq_true_eq] at hb4
                  all_goals (
                    refine W_regionE (c := 24) (c' := 28) (by kernel_rfl) rfl ?_
                    refine Runs_p rfl (Valid.load _ rfl ag22 rfl rfl rfl) rfl rfl ?_
                    refine Runs_p rfl (Valid.lit (el := 3) [_] rfl rfl (fun _ => by kernel_rfl) rfl (by decide)) rfl rfl ?_
                    refine Runs_w rfl (Valid.app rfl Try.underlying22 ti3 (by decide) rfl rfl (Reads.sl rfl) (by first | exact one_map (fun _ => rfl) | exact one_cons rfl one_nil | exact one_app (one_map (fun _ => rfl)) (one_cons rfl one_nil) | exact one_app (one_map (fun _ => rfl)) (one_map (fun _ => rfl)) | exact one_rep rfl | exact one_app (one_rep rfl) (one_map (fun _ => rfl)) | (intro u hu; simp at hu; rcases hu with rfl | hu <;> first | rfl | (subst hu; rfl))) (by simp only [maxLen]; omega) (by omega)) rfl rfl ?_
                    refine Runs_op rfl (Valid.store rfl sz22 rfl rfl (Nat.le_of_ble_eq_true rfl) (One.sl (Reads.own rfl))) rfl ?_
                    refine Runs_nil ?_
                    refine blockQ_n ?_
                    exact roundQ_n [(8, 208)] (by first | rfl | assumption) ⟨hp_var rfl ⟨(leq_own rfl rfl rfl (by first | rfl | (rw [ch_y (by assumption), List.map_append]; rfl) | (rw [ch_n (by assumption), List.map_append]; rfl)) (by first | rfl | (rw [ch_y (by assumption), List.map_append]; rfl) | (rw [ch_n (by assumption), List.map_append]; rfl))), trivial⟩, hp_var rfl ⟨(leq_sl (Reads.sl rfl) rfl (by first | rfl | (rw [ch_y (by assumption), List.map_append]; rfl) | (rw [ch_n (by assumption), List.map_append]; rfl)) (by first | rfl | (rw [ch_y (by assumption), List.map_append]; rfl) | (rw [ch_n (by assumption), List.map_append]; rfl))), (leq_sl (Reads.sl rfl) rfl (by first | rfl | (rw [ch_y (by assumption), List.map_append]; rfl) | (rw [ch_n (by assumption), List.map_append]; rfl)) (by first | rfl | (rw [ch_y (by assumption), List.map_append]; rfl) | (rw [ch_n (by assumption), List.map_append]; rfl))), trivial⟩, hp_row rfl (by first | rfl | (rw [ch_y (by assumption), List.map_append]; rfl) | (rw [ch_n (by assumption), List.map_append]; rfl)) (by first | rfl | (rw [ch_y (by assumption), List.map_append]; rfl) | (rw [ch_n (by assumption), List.map_append]; rfl)), trivial⟩ rfl rfl
                    done)
                · try simp only [decide_eq_false_iff_not] at hb4
                  all_goals (
                    refine W_regionE (c := 24) (c' := 28) (by kernel_rfl) rfl ?_
                    refine Runs_p rfl (Valid.load _ rfl ag22 rfl rfl rfl) rfl rfl ?_
                    refine Runs_p rfl (Valid.lit (el := 3) [_] rfl rfl (fun _ => by kernel_rfl) rfl (by decide)) rfl rfl ?_
                    refine Runs_w rfl (Valid.app rfl Try.underlying22 ti3 (by decide) rfl rfl (Reads.sl rfl) (by first | exact one_map (fun _ => rfl) | exact one_cons rfl one_nil | exact one_app (one_map (fun _ => rfl)) (one_cons rfl one_nil) | exact one_app (one_map (fun _ => rfl)) (one_map (fun _ => rfl)) | exact one_rep rfl | exact one_app (one_rep rfl) (one_map (fun _ => rfl)) | (intro u hu; simp at hu; rcases hu with rfl | hu <;> first | rfl | (subst hu; rfl))) (by simp only [maxLen]; omega) (by omega)) rfl rfl ?_
                    refine Runs_op rfl (Valid.store rfl sz22 rfl rfl (Nat.le_of_ble_eq_true rfl) (One.sl (Reads.own rfl))) rfl ?_
                    refine Runs_nil ?_
                    refine blockQ_n ?_
                    exact roundQ_n [(8, 208)] (by first | rfl | assumption) ⟨hp_var rfl ⟨(leq_own rfl rfl rfl (by first | rfl | (rw [ch_y (by assumption), List.map_append]; rfl) | (rw [ch_n (by assumption), List.map_append]; rfl)) (by first | rfl | (rw [ch_y (by assumption), List.map_append]; rfl) | (rw [ch_n (by assumption), List.map_append]; rfl))), trivial⟩, hp_var rfl ⟨(leq_sl (Reads.sl rfl) rfl (by first | rfl | (rw [ch_y (by assumption), List.map_append]; rfl) | (rw [ch_n (by assumption), List.map_append]; rfl)) (by first | rfl | (rw [ch_y (by assumption), List.map_append]; rfl) | (rw [ch_n (by assumption), List.map_append]; rfl))), (leq_sl (Reads.sl rfl) rfl (by first | rfl | (rw [ch_y (by assumption), List.map_append]; rfl) | (rw [ch_n (by assumption), List.map_append]; rfl)) (by first | rfl | (rw [ch_y (by assumption), List.map_append]; rfl) | (rw [ch_n (by assumption), List.map_append]; rfl))), trivial⟩, hp_row rfl (by first | rfl | (rw [ch_y (by assumption), List.map_append]; rfl) | (rw [ch_n (by assumption), List.map_append]; rfl)) (by first | rfl | (rw [ch_y (by assumption), List.map_append]; rfl) | (rw [ch_n (by assumption), List.map_append]; rfl)), trivial⟩ rfl rfl
                    done)
              · intro hall1
                refine blockQ_n ?_
                refine thenQ_n ?_
                refine W_seq ?_
                refine W_drawE (c := 31) (c' := 36) (by kernel_rfl) rfl ?_
                refine Runs_w rfl (Valid.sliceall rfl Try.underlying50 sz22 rfl rfl rfl (by decide) rfl) rfl rfl ?_
                refine Runs_p rfl (Valid.load _ rfl ag22 rfl rfl rfl) rfl rfl ?_
                refine Runs_p rfl (Valid.assignk (A := SlA 1 _ _) rfl rfl) rfl rfl ?_
                refine Runs_op rfl (Valid.store rfl sz22 rfl rfl (Nat.le_of_ble_eq_true rfl) (One.sl (Reads.own rfl))) rfl ?_
                refine Runs_p rfl (Valid.assignk (A := Is _) rfl rfl) rfl rfl ?_
                refine Runs_nil ?_
                refine ⟨_, _, rfl, rfl, by kernel_rfl, ?_⟩
                refine thenQ_n ?_
                refine W_ret ?_
                refine finQ_r ?_
                refine ResOk.three rfl (RVal.tmp (argle_sla' (ReadsA.sla rfl) (by first | rfl | (rw [tb_e (fun h => by obtain ⟨a1, a2, a3, a4⟩ := h; have a5 := List.length_pos_iff.2 a3; omega)]; done) | (rw [tb_e (fun h => by obtain ⟨a1, a2, a3, a4⟩ := h; have a5 := List.length_pos_iff.2 a3; omega)]; rfl) | (rw [tb_n hok (by simp_all)]; done) | (rw [tb_n hok (by simp_all)]; rfl) | (rw [tb_y hok hga]; done) | (rw [tb_y hok hga]; rfl) | (rw [tb_y hok hga]; show _ = (chA m n (ng m)).length; rw [chA_len])) (by first | rfl | (rw [tb_e (fun h => by obtain ⟨a1, a2, a3, a4⟩ := h; have a5 := List.length_pos_iff.2 a3; omega)]; done) | (rw [tb_e (fun h => by obtain ⟨a1, a2, a3, a4⟩ := h; have a5 := List.length_pos_iff.2 a3; omega)]; rfl) | (rw [tb_n hok (by simp_all)]; done) | (rw [tb_n hok (by simp_all)]; rfl) | (rw [tb_y hok hga]; done) | (rw [tb_y hok hga]; rfl) | (rw [tb_y hok hga]; show _ = (chA m n (ng m)).length; rw [chA_len])))) (RVal.cell ag22 rfl rfl rfl (argle_sl' (Reads.own rfl) (by first | rfl | (rw [tb_e (fun h => by obtain ⟨a1, a2, a3, a4⟩ := h; have a5 := List.length_pos_iff.2 a3; omega)]; done) | (rw [tb_e (fun h => by obtain ⟨a1, a2, a3, a4⟩ := h; have a5 := List.length_pos_iff.2 a3; omega)]; rfl) | (rw [tb_n hok (by simp_all)]; done) | (rw [tb_n hok (by simp_all)]; rfl) | (rw [tb_y hok hga]; done) | (rw [tb_y hok hga]; rfl) | (rw [tb_y hok hga]; show _ = (chA m n (ng m)).length; rw [chA_len])) (by first | rfl | (rw [tb_e (fun h => by obtain ⟨a1, a2, a3, a4⟩ := h; have a5 := List.length_pos_iff.2 a3; omega)]; done) | (rw [tb_e (fun h => by obtain ⟨a1, a2, a3, a4⟩ := h; have a5 := List.length_pos_iff.2 a3; omega)]; rfl) | (rw [tb_n hok (by simp_all)]; done) | (rw [tb_n hok (by simp_all)]; rfl) | (rw [tb_y hok hga]; done) | (rw [tb_y hok hga]; rfl) | (rw [tb_y hok hga]; show _ = (chA m n (ng m)).length; rw [chA_len])))) (RVal.is rfl rfl (by first | rfl | (rw [tb_e (fun h => by obtain ⟨a1, a2, a3, a4⟩ := h; have a5 := List.length_pos_iff.2 a3; omega)]; done) | (rw [tb_e (fun h => by obtain ⟨a1, a2, a3, a4⟩ := h; have a5 := List.length_pos_iff.2 a3; omega)]; rfl) | (rw [tb_n hok (by simp_all)]; done) | (rw [tb_n hok (by simp_all)]; rfl) | (rw [tb_y hok hga]; done) | (rw [tb_y hok hga]; rfl) | (rw [tb_y hok hga]; show _ = (chA m n (ng m)).length; rw [chA_len])))
              · intro k hk1 hgo1 hgk1
                exact absurd hgk1 (by decide)
                
              done)
          done)
      done)
end Kb
end Go.Proofs.Ytdcenocljnlipaa
