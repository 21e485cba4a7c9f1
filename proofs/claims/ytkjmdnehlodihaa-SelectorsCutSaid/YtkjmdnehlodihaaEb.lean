/-
  WALKS of stage 12: Put and Take.
-/
import Derived.Test.YtkjmdnehlodihaaRows
import Derived.Test.YtkjmdnehlodihaaAbs
import Derived.Test.YtkjmdnehlodihaaBb
import Derived.Test.YtkjmdnehlodihaaCm
import Derived.Test.YtkjmdnehlodihaaFz
import Derived.Test.YtkjmdnehlodihaaGm
import Derived.Test.YtkjmdnehlodihaaEa
namespace Go.Proofs.Ytkjmdnehlodihaa
open Go.RowKit
namespace Eb
open Ab Bm Bt Bb Cm Fz Gm Ea
theorem ag28 (w : World) : (isAgg 28).run Try.prog w = .ok true w := by kernel_rfl
theorem ag3 (w : World) : (isAgg 3).run Try.prog w = .ok false w := by kernel_rfl
theorem sz28 (w : World) : (sizeOf 28).run Try.prog w = .ok 2 w := by kernel_rfl
theorem sz3 (w : World) : (sizeOf 3).run Try.prog w = .ok 1 w := by kernel_rfl
theorem ti28 : TI Try.prog 28 2 24 := .mk' (z := (.agg #[(Value.string ⟨#[]⟩), (Value.int .i64 0)])) (by kernel_rfl) rfl
theorem tm28 : (Try.prog.info? 28).map (fun i => (i.zero, i.size, i.bytes)) = some (some (.agg #[(Value.string ⟨#[]⟩), (Value.int .i64 0)]), 2, 24) := by kernel_rfl
theorem zv28 (w : World) : (zeroValue 28).run Try.prog w = .ok (.agg #[(Value.string ⟨#[]⟩), (Value.int .i64 0)]) w := by kernel_rfl
theorem one_pc (l : List (ByteArray × Int)) : ∀ u ∈ pcells l, u.oneCell' = true := fun u hu => by
  obtain ⟨p, _, hp⟩ := List.mem_flatMap.1 hu
  simp at hp
  rcases hp with rfl | rfl <;> rfl
/-- the numbers, and the bits, behind so many -/
def stL (l c : List Int) : Nat → List Int
  | 0 => l
  | k + 1 => mtfI (stL l c k) (idxI (stL l c k) (c.getD k 0))
  termination_by k => k
def bsL (l c : List Int) : Nat → List (List Bool)
  | 0 => []
  | k + 1 => bsL l c k ++ [unB (idxI (stL l c k) (c.getD k 0))]
  termination_by k => k
theorem stL_0 (l c : List Int) : stL l c 0 = l := by rw [stL]
theorem stL_1 (l c : List Int) (k : Nat) : mtfI (stL l c k) (idxI (stL l c k) (c.getD (k : Int).toNat 0)) = stL l c (k + 1) := by rw [stL]; rfl
theorem bsL_0 (l c : List Int) : bsL l c 0 = [] := by rw [bsL]
theorem bsL_len (l c : List Int) : ∀ k, (bsL l c k).length = k
  | 0 => by rw [bsL_0]; rfl
  | k + 1 => by rw [bsL, List.length_append, bsL_len l c k]; rfl
theorem bsL_cells (l c : List Int) (k : Nat) : pcells ((bsL l c k).map both) ++ pcells [(pack (unB (idxI (stL l c k) (c.getD (k : Int).toNat 0))), ((unB (idxI (stL l c k) (c.getD (k : Int).toNat 0))).length : Int))] = pcells ((bsL l c (k + 1)).map both) := by
  rw [bsL, List.map_append, pcells_app]; rfl
theorem mtfI_perm (l : List Int) (k : Nat) (h : k < l.length) : (mtfI l k).Perm l := by
  have e : l = l.take k ++ l.getD k 0 :: l.drop (k + 1) := by
    rw [getD_lt l k 0 h, ← List.drop_eq_getElem_cons h, List.take_append_drop]
  unfold mtfI
  refine List.Perm.trans (List.perm_middle.symm) ?_
  rw [← e]
theorem ini_mem : ∀ t v : Nat, t ≤ 6 → v < t → (v : Int) ∈ iniL t := by
  have key : ∀ t, t ≤ 6 → iniL t = (List.range t).map (fun (k : Nat) => (k : Int)) ++ List.replicate (6 - t) 0 := by
    intro t ht
    have : t = 0 ∨ t = 1 ∨ t = 2 ∨ t = 3 ∨ t = 4 ∨ t = 5 ∨ t = 6 := by omega
    rcases this with rfl | rfl | rfl | rfl | rfl | rfl | rfl <;> simp only [iniL] <;> decide
  intro t v ht hv
  rw [key t ht]
  exact List.mem_append.2 (.inl (List.mem_map.2 ⟨v, List.mem_range.2 hv, rfl⟩))
theorem ini_form (t : Nat) (ht : t ≤ 6) : iniL t = (List.range t).map (fun (k : Nat) => (k : Int)) ++ List.replicate (6 - t) 0 := by
  have : t = 0 ∨ t = 1 ∨ t = 2 ∨ t = 3 ∨ t = 4 ∨ t = 5 ∨ t = 6 := by omega
  rcases this with rfl | rfl | rfl | rfl | rfl | rfl | rfl <;> simp only [iniL] <;> decide
def okC (c : List Int) (t : Int) : Prop := ∀ k, k < c.length → 0 ≤ c.getD k 0 ∧ c.getD k 0 < t
instance (c : List Int) (t : Int) : Decidable (okC c t) := inferInstanceAs (Decidable (∀ k, k < c.length → _))
theorem st_inv {c : List Int} {t : Int} (ht : 2 ≤ t ∧ t ≤ 6) : ∀ k, (∀ j, j < k → 0 ≤ c.getD j 0 ∧ c.getD j 0 < t) → (stL (iniL t.toNat) c k).Perm (iniL t.toNat)
  | 0, _ => by rw [stL_0]
  | k + 1, h => by
    have ih := st_inv ht k (fun j hj => h j (by omega))
    have hk := h k (by omega)
    have hm : c.getD k 0 ∈ stL (iniL t.toNat) c k := ih.mem_iff.2 (by
      have := ini_mem t.toNat (c.getD k 0).toNat (by omega) (by omega)
      rwa [Int.toNat_of_nonneg hk.1] at this)
    rw [stL]
    exact (mtfI_perm _ _ (idxI_lt hm)).trans ih
theorem st_mem {c : List Int} {t : Int} (ht : 2 ≤ t ∧ t ≤ 6) {k : Nat} (h : ∀ j, j < k → 0 ≤ c.getD j 0 ∧ c.getD j 0 < t) {v : Int} (h0 : 0 ≤ v) (h1 : v < t) : v ∈ stL (iniL t.toNat) c k := (st_inv ht k h).mem_iff.2 (by
  have := ini_mem t.toNat v.toNat (by omega) (by omega)
  rwa [Int.toNat_of_nonneg h0] at this)
def putL (c : List Int) (t : Int) : List Bool := (bsL (iniL t.toNat) c c.length).flatten
def putV (c : List Int) (t : Int) : (ByteArray × Int) × Int :=
  if t < 2 ∨ 6 < t then ((⟨#[]⟩, 0), 1) else if okC c t then ((pack (putL c t), ((putL c t).length : Int)), 0) else ((⟨#[]⟩, 0), 5)
theorem un_le (k : Nat) (h : k < 6) : (unB k).length ≤ 6 := by rw [unB_len]; omega
theorem bsL_flat {c : List Int} {t : Int} (ht : 2 ≤ t ∧ t ≤ 6) : ∀ k, (∀ j, j < k → 0 ≤ c.getD j 0 ∧ c.getD j 0 < t) → (bsL (iniL t.toNat) c k).flatten.length ≤ 6 * k
  | 0, _ => by rw [bsL_0]; simp
  | k + 1, h => by
    have ih := bsL_flat ht k (fun j hj => h j (by omega))
    have hk := h k (by omega)
    have hlt := idxI_lt (st_mem ht (k := k) (fun j hj => h j (by omega)) hk.1 hk.2)
    have hl := (st_inv ht k (fun j hj => h j (by omega))).length_eq
    rw [ini_len] at hl
    have := un_le _ (show idxI (stL (iniL t.toNat) c k) (c.getD k 0) < 6 by omega)
    rw [bsL, List.flatten_append, List.length_append]
    simp only [List.flatten_cons, List.flatten_nil, List.append_nil]
    omega
theorem put_1 {c : List Int} {t : Int} (h : t < 2 ∨ 6 < t) : putV c t = ((⟨#[]⟩, 0), 1) := by rw [putV, if_pos h]
theorem put_5 {c : List Int} {t : Int} (h : 2 ≤ t ∧ t ≤ 6) (k : Nat) (hk : k < c.length) (hb : c.getD k 0 < 0 ∨ t ≤ c.getD k 0) : putV c t = ((⟨#[]⟩, 0), 5) := by
  rw [putV, if_neg (by omega), if_neg]
  intro hok
  have := hok k hk
  omega
theorem put_0 {c : List Int} {t : Int} (h : 2 ≤ t ∧ t ≤ 6) (hok : okC c t) : putV c t = ((pack (putL c t), ((putL c t).length : Int)), 0) := by rw [putV, if_neg (by omega), if_pos hok]

set_option maxRecDepth 100000 in
set_option maxHeartbeats 1000000 in
theorem put_no (c : List Int) (t : Int) (ht : t < 2 ∨ 6 < t) :
    FPure Try.prog 11 [Sl 1 c.length (c.map (Value.int .i64)), Is (.int .i64 t)] (Tup [Agg [Is (.string (putV c t).1.1), Is (.int .i64 (putV c t).1.2)], Is (.int .i64 (putV c t).2)]) := by
  refine FPure.of Try.func11 Try.ntmps11 rfl (by kernel_rfl) rfl rfl rfl ?_
  refine W_seq ?_
  refine W_regionE (c := 1) (c' := 3) (by kernel_rfl) rfl ?_
  refine Runs_w rfl (Valid.alloc [(Value.string ⟨#[]⟩), (Value.int .i64 0)] rfl zv28 rfl) rfl rfl ?_ -- selectors.go:59 alloc
  refine Runs_p rfl (Valid.assignk (A := Is _) rfl rfl) rfl rfl ?_ -- selectors.go:59 assign
  refine Runs_nil ?_
  refine thenQ_n ?_
  refine W_seq ?_
  refine W_regionE (c := 3) (c' := 10) (by kernel_rfl) rfl ?_
  refine Runs_p rfl (Valid.movek (A := Is _) rfl rfl) rfl rfl ?_ -- selectors.go:60 move
  refine Runs_p rfl (Valid.call rfl (begin_no _ ht) ⟨argle rfl, trivial⟩) rfl rfl ?_ -- selectors.go:60 call
  refine Runs_p rfl (Valid.movek (A := Tup [Is _, Is _]) rfl rfl) rfl rfl ?_ -- selectors.go:60 move
  refine Runs_p rfl (Valid.extract _ rfl rfl rfl) rfl rfl ?_ -- selectors.go:60 extract
  refine Runs_p rfl (Valid.extract _ rfl rfl rfl) rfl rfl ?_ -- selectors.go:60 extract
  refine Runs_p rfl (Valid.assignk (A := Is _) rfl rfl) rfl rfl ?_ -- selectors.go:60 assign
  refine Runs_p rfl (Valid.assignk (A := Is _) rfl rfl) rfl rfl ?_ -- selectors.go:60 assign
  refine Runs_nil ?_
  refine thenQ_n ?_
  refine W_seq ?_
  refine W_seq ?_
  refine W_regionE (c := 10) (c' := 12) (by kernel_rfl) rfl ?_
  refine Runs_p rfl (Valid.movek (A := Is _) rfl rfl) rfl rfl ?_ -- selectors.go:61 move
  refine Runs_p rfl (Valid.not rfl rfl) rfl rfl ?_ -- selectors.go:61 unOp
  refine Runs_nil ?_
  refine thenQ_n ?_
  refine W_cond _ rfl (fun hb1 => ?_) (fun hb1 => ?_)
  · try simp only [Bool.not_eq_true'] at hb1
    all_goals (
      refine W_seq ?_
      refine W_regionE (c := 12) (c' := 15) (by kernel_rfl) rfl ?_
      refine Runs_p rfl (Valid.build [] [(Value.string ⟨#[]⟩), (Value.int .i64 0)] rfl rfl (fun _ => by kernel_rfl)) rfl rfl ?_ -- selectors.go:62 build
      refine Runs_op rfl (Valid.storeagg (l := [_, _]) rfl sz28 rfl rfl (Nat.le_of_ble_eq_true rfl) rfl ⟨(One.is rfl rfl rfl), (One.is rfl rfl rfl), trivial⟩) rfl ?_ -- selectors.go:62 store
      refine Runs_p rfl (Valid.assignk (A := Is _) rfl rfl) rfl rfl ?_ -- selectors.go:62 assign
      refine Runs_nil ?_
      refine thenQ_n ?_
      refine W_ret ?_
      refine thenQ_r ?_
      refine finQ_r ?_
      refine ResOk.two rfl (RVal.cellagg ag28 sz28 rfl rfl (Nat.le_of_ble_eq_true rfl) (argle (by rw [put_1 ht]; rfl))) (RVal.is rfl rfl (by rw [put_1 ht]))
      done)
  · try simp only [Bool.not_eq_false', Bool.false_eq_true] at hb1
    all_goals (
      exfalso
      simp at hb1
      
      done)

set_option maxRecDepth 100000 in
set_option maxHeartbeats 1000000 in
theorem put_ok (c : List Int) (t : Int) (hc : c.length ≤ 1000000) (ht : 2 ≤ t ∧ t ≤ 6) :
    FPure Try.prog 11 [Sl 1 c.length (c.map (Value.int .i64)), Is (.int .i64 t)] (Tup [Agg [Is (.string (putV c t).1.1), Is (.int .i64 (putV c t).1.2)], Is (.int .i64 (putV c t).2)]) := by
  refine FPure.of Try.func11 Try.ntmps11 rfl (by kernel_rfl) rfl rfl rfl ?_
  refine W_seq ?_
  refine W_regionE (c := 1) (c' := 3) (by kernel_rfl) rfl ?_
  refine Runs_w rfl (Valid.alloc [(Value.string ⟨#[]⟩), (Value.int .i64 0)] rfl zv28 rfl) rfl rfl ?_ -- selectors.go:59 alloc
  refine Runs_p rfl (Valid.assignk (A := Is _) rfl rfl) rfl rfl ?_ -- selectors.go:59 assign
  refine Runs_nil ?_
  refine thenQ_n ?_
  refine W_seq ?_
  refine W_regionE (c := 3) (c' := 10) (by kernel_rfl) rfl ?_
  refine Runs_p rfl (Valid.movek (A := Is _) rfl rfl) rfl rfl ?_ -- selectors.go:60 move
  refine Runs_w rfl (Valid.callm [] rfl (.inl ⟨rfl, rfl⟩) (begin_ok _ (by omega) (by omega)) ⟨(leq_is rfl rfl rfl), trivial⟩ trivial (up_tup (allup_cons (up_ptr' (id' := 33) rfl) (allup_cons (up_pure rfl) allup_nil))) (hpup_cons (j := 33) rfl cup_arr hpup_nil) (by kernel_rfl) (by kernel_rfl) (by kernel_rfl) (by kernel_rfl) (by kernel_rfl) (by kernel_rfl) (by kernel_rfl) (by kernel_rfl) (by kernel_rfl)) rfl rfl ?_ -- selectors.go:60 call
  refine Runs_p rfl (Valid.movek (A := Tup [Ptr 33 0, Is _]) rfl rfl) rfl rfl ?_ -- selectors.go:60 move
  refine Runs_p rfl (Valid.extract _ rfl rfl rfl) rfl rfl ?_ -- selectors.go:60 extract
  refine Runs_p rfl (Valid.extract _ rfl rfl rfl) rfl rfl ?_ -- selectors.go:60 extract
  refine Runs_p rfl (Valid.assignk (A := Ptr 33 0) rfl rfl) rfl rfl ?_ -- selectors.go:60 assign
  refine Runs_p rfl (Valid.assignk (A := Is _) rfl rfl) rfl rfl ?_ -- selectors.go:60 assign
  refine Runs_nil ?_
  refine thenQ_n ?_
  refine W_seq ?_
  refine W_seq ?_
  refine W_regionE (c := 10) (c' := 12) (by kernel_rfl) rfl ?_
  refine Runs_p rfl (Valid.movek (A := Is _) rfl rfl) rfl rfl ?_ -- selectors.go:61 move
  refine Runs_p rfl (Valid.not rfl rfl) rfl rfl ?_ -- selectors.go:61 unOp
  refine Runs_nil ?_
  refine thenQ_n ?_
  refine W_cond _ rfl (fun hb1 => ?_) (fun hb1 => ?_)
  · try simp only [Bool.not_eq_true', Bool.true_eq_false] at hb1
    all_goals (
      exfalso
      simp at hb1
      
      done)
  · try simp only [Bool.not_eq_false'] at hb1
    all_goals (
      refine W_skip ?_
      refine thenQ_n ?_
      refine W_seq ?_
      refine W_regionE (c := 12) (c' := 16) (by kernel_rfl) rfl ?_
      refine Runs_p rfl (Valid.movek (A := Sl 1 _ _) rfl rfl) rfl rfl ?_ -- selectors.go:64 move
      refine Runs_p rfl (Valid.len rfl Try.underlying22 (Reads.sl rfl)) rfl rfl ?_ -- selectors.go:64 call
      refine Runs_w rfl (Valid.make0 rfl Try.underlying50 tm28 rfl rfl rfl (by first | omega | (simp only [Int.toNat_natCast, toNat_add, toNat_add1, List.length_append, List.length_cons, List.length_nil, List.length_replicate]; omega)) (by first | omega | (simp only [Int.toNat_natCast, toNat_add, toNat_add1, List.length_append, List.length_cons, List.length_nil, List.length_replicate]; omega)) (by first | omega | (simp only [Int.toNat_natCast, toNat_add, toNat_add1, List.length_append, List.length_cons, List.length_nil, List.length_replicate]; omega))) rfl rfl ?_ -- selectors.go:64 makeSlice
      refine Runs_p rfl (Valid.assignk (A := Own 112 2 _ _) rfl rfl) rfl rfl ?_ -- selectors.go:64 assign
      refine Runs_nil ?_
      refine thenQ_n ?_
      refine W_seq ?_
      refine W_seq ?_
      refine W_regionE (c := 16) (c' := 19) (by kernel_rfl) rfl ?_
      refine Runs_p rfl (Valid.movek (A := Sl 1 _ _) rfl rfl) rfl rfl ?_ -- selectors.go:65 move
      refine Runs_p rfl (Valid.len rfl Try.underlying22 (Reads.sl rfl)) rfl rfl ?_ -- selectors.go:65 call
      refine Runs_p rfl (Valid.movek (A := Is _) rfl rfl) rfl rfl ?_ -- selectors.go:65 move
      refine Runs_nil ?_
      refine thenQ_n ?_
      refine W_block ?_
      refine W_loopx (G := Nat) (fun (k : Nat) => k ≤ c.length ∧ ∀ j, j < k → 0 ≤ c.getD j 0 ∧ c.getD j 0 < t) [(1, Is _), (4, Ptr 8 0), (6, Ptr 33 0), (22, Sl 1 _ _), (23, Is _)] (fun (k : Nat) => [(24, Is (.int .i64 (k : Int))), (8, Own 112 2 k (pcells ((bsL (iniL t.toNat) c k).map both)))]) [(8, .var 28 [Is _, Is _])] (fun (k : Nat) => [(33, .arr 72 (AX (Value.int .i64) (stL (iniL t.toNat) c k) [.int .i64 t])), (112, .row 28 2 k (pcells ((bsL (iniL t.toNat) c k).map both)))]) 19 (fun (k : Nat) => c.length - k) (0) [] (⟨by omega, fun j hj => by omega⟩) ⟨⟨(leq_is rfl rfl (by first | rfl | (rw [stL_0]) | (rw [bsL_0]; rfl))), (leq_own rfl rfl rfl (by first | rfl | (rw [stL_0]) | (rw [bsL_0]; rfl)) (by first | rfl | (rw [stL_0]) | (rw [bsL_0]; rfl))), trivial⟩, ⟨(leq_is rfl rfl rfl), (leq_ptr rfl rfl rfl), (leq_ptr rfl rfl rfl), (leq_sl (Reads.sl rfl) rfl rfl rfl), (leq_is rfl rfl rfl), trivial⟩, ⟨hp_ax rfl (by first | rfl | (rw [stL_0]) | (rw [bsL_0]; rfl)) (by first | rfl | (rw [stL_0]) | (rw [bsL_0]; rfl)), hp_row rfl (by first | rfl | (rw [stL_0]) | (rw [bsL_0]; rfl)) (by first | rfl | (rw [stL_0]) | (rw [bsL_0]; rfl)), trivial⟩, ⟨hp_var rfl ⟨(leq_is rfl rfl rfl), (leq_is rfl rfl rfl), trivial⟩, trivial⟩, rfl, ⟨supg rfl, supg rfl, trivial⟩, ⟨supg rfl, supg rfl, supg rfl, supg rfl, supg rfl, trivial⟩, ⟨suph rfl rfl, suph rfl rfl, trivial⟩, ⟨suph rfl rfl, trivial⟩, rfl, rfl⟩ ?_
      intro k hI1
      obtain ⟨hk1, hk2⟩ := hI1
      have hil := (st_inv ht k hk2).length_eq
      rw [ini_len] at hil
      have hcc : c.getD (k : Int).toNat 0 = c.getD k 0 := rfl
      refine W_seq ?_
      refine W_regionE (c := 19) (c' := 20) (by kernel_rfl) rfl ?_
      refine Runs_p rfl (Valid.lss rfl rfl rfl) rfl rfl ?_ -- selectors.go:65 binOp
      refine Runs_nil ?_
      refine thenQ_n ?_
      refine W_seq ?_
      refine W_cond _ rfl (fun hb2 => ?_) (fun hb2 => ?_)
      · try simp only [decide_eq_true_eq] at hb2
        all_goals (
          refine W_skip ?_
          refine thenQ_n ?_
          refine W_seq ?_
          refine W_block ?_
          refine W_seq ?_
          refine W_regionE (c := 20) (c' := 23) (by kernel_rfl) rfl ?_
          refine Runs_p rfl (Valid.eltaddr1 0 rfl Try.underlying22 sz3 (Reads.sl rfl) rfl (by first | omega | (simp only [Int.toNat_natCast, toNat_add, toNat_add1, List.length_append, List.length_cons, List.length_nil, List.length_replicate]; omega)) (by first | rfl | simp)) rfl rfl ?_ -- selectors.go:65 indexAddr
          refine Runs_p rfl (Valid.loadelt rfl ag3 rfl) rfl rfl ?_ -- selectors.go:65 load
          refine Runs_p rfl (Valid.assignk (A := Is _) rfl rfl) rfl rfl ?_ -- selectors.go:65 assign
          refine Runs_nil ?_
          refine thenQ_n ?_
          refine W_seq ?_
          refine W_seq ?_
          refine W_regionE (c := 23) (c' := 30) (by kernel_rfl) rfl ?_
          refine Runs_p rfl (Valid.movek (A := Is _) rfl rfl) rfl rfl ?_ -- selectors.go:66 move
          refine Runs_p rfl (Valid.lss rfl rfl rfl) rfl rfl ?_ -- selectors.go:66 binOp
          refine Runs_p rfl (Valid.movek (A := Is _) rfl rfl) rfl rfl ?_ -- selectors.go:66 move
          refine Runs_cnd rfl rfl (Grd.is rfl) [] (fun hg => trivial) (fun hg => Valid.movek (A := Is _) rfl rfl) (by rfl) rfl ?_
          refine Runs_cnd rfl rfl (Grd.is rfl) [] (fun hg => trivial) (fun hg => Valid.movek (A := Is _) rfl rfl) (by rfl) rfl ?_
          refine Runs_cnd rfl rfl (Grd.is rfl) [(31, _), (32, _)] (fun hg => ⟨cnd_at rfl (by first | exact hg | exact hg.1 | exact hg.1.1 | exact hg.1.1.1), cnd_at rfl (by first | exact hg | exact hg.1 | exact hg.1.1 | exact hg.1.1.1), trivial⟩) (fun hg => Valid.geq rfl rfl rfl) (by rfl) rfl ?_
          refine Runs_p rfl (Valid.pickor rfl rfl rfl rfl (fun h => by first | exact h | exact ⟨hg, h⟩)) rfl rfl ?_ -- selectors.go:66 pick
          refine Runs_nil ?_
          refine thenQ_n ?_
          refine W_cond _ rfl (fun hb3 => ?_) (fun hb3 => ?_)
          · try simp only [Int.toNat_natCast, decide_eq_true_eq, Bool.or_eq_true] at hb3
            all_goals (
              refine W_seq ?_
              refine W_regionE (c := 30) (c' := 33) (by kernel_rfl) rfl ?_
              refine Runs_p rfl (Valid.build [] [(Value.string ⟨#[]⟩), (Value.int .i64 0)] rfl rfl (fun _ => by kernel_rfl)) rfl rfl ?_ -- selectors.go:67 build
              refine Runs_op rfl (Valid.storeagg (l := [_, _]) rfl sz28 rfl rfl (Nat.le_of_ble_eq_true rfl) rfl ⟨(One.is rfl rfl rfl), (One.is rfl rfl rfl), trivial⟩) rfl ?_ -- selectors.go:67 store
              refine Runs_p rfl (Valid.assignk (A := Is _) rfl rfl) rfl rfl ?_ -- selectors.go:67 assign
              refine Runs_nil ?_
              refine thenQ_n ?_
              refine W_ret ?_
              refine thenQ_r ?_
              refine blockQ_r ?_
              refine thenQ_r ?_
              refine loopQ_r ?_
              refine blockQ_r ?_
              refine thenQ_r ?_
              refine finQ_r ?_
              refine ResOk.two rfl (RVal.cellagg ag28 sz28 rfl rfl (Nat.le_of_ble_eq_true rfl) (argle (by first | (rw [put_5 ht k (by omega) (by omega)]; rfl) | (rw [put_0 ht (fun j hj => hk2 j (by omega)), putL, show c.length = k by omega]; rfl)))) (RVal.is rfl rfl (by first | (rw [put_5 ht k (by omega) (by omega)]; done) | (rw [put_0 ht (fun j hj => hk2 j (by omega))])))
              done)
          · try simp only [Int.toNat_natCast, decide_eq_false_iff_not, Bool.or_eq_false_iff] at hb3
            all_goals (
              refine W_skip ?_
              refine thenQ_n ?_
              refine W_regionE (c := 30) (c' := 37) (by kernel_rfl) rfl ?_
              refine Runs_p rfl (Valid.movek (A := Own 112 2 _ _) rfl rfl) rfl rfl ?_ -- selectors.go:69 move
              refine Runs_p rfl (Valid.movek (A := Ptr 33 0) rfl rfl) rfl rfl ?_ -- selectors.go:69 move
              refine Runs_p rfl (Valid.movek (A := Is _) rfl rfl) rfl rfl ?_ -- selectors.go:69 move
              refine Runs_w rfl (Valid.callm [(1, 33)] rfl (.inl ⟨rfl, rfl⟩) (put_s _ _ _ (st_mem ht hk2 (by omega) (by omega)) (by omega)) ⟨(leq_ptr rfl rfl rfl), (leq_is rfl rfl rfl), trivial⟩ ⟨⟨_, rfl, .arr rfl⟩, trivial⟩ (up_pure rfl) (hpup_cons (j := 33) rfl cup_arr hpup_nil) (by kernel_rfl) (by kernel_rfl) (by kernel_rfl) (by kernel_rfl) (by kernel_rfl) (by kernel_rfl) (by kernel_rfl) (by kernel_rfl) (by kernel_rfl)) rfl rfl ?_ -- selectors.go:69 call
              refine Runs_p rfl (Valid.litP (el := 28) [(_, _)] rfl rfl (fun _ => by kernel_rfl) rfl (by decide)) rfl rfl ?_ -- selectors.go:69 buildSlice
              refine Runs_w rfl (Valid.app rfl Try.underlying50 ti28 (by decide) rfl rfl (Reads.sl rfl) (one_pc _) (by first | (simp only [maxLen]; omega) | (simp only [maxLen, Int.toNat_natCast, toNat_add, toNat_add1, List.length_append, List.length_cons, List.length_nil, List.length_replicate]; omega)) (by first | omega | (simp only [Int.toNat_natCast, toNat_add, toNat_add1, List.length_append, List.length_cons, List.length_nil, List.length_replicate]; omega))) rfl rfl ?_ -- selectors.go:69 call
              refine Runs_p rfl (Valid.assignk (A := Own 280 2 _ _) rfl rfl) rfl rfl ?_ -- selectors.go:69 assign
              refine Runs_nil ?_
              refine blockQ_n ?_
              refine thenQ_n ?_
              refine W_regionE (c := 37) (c' := 39) (by kernel_rfl) rfl ?_
              refine Runs_p rfl (Valid.add rfl rfl rfl (room64 (by first | omega | (simp only [Int.toNat_natCast, toNat_add, toNat_add1, List.length_append, List.length_cons, List.length_nil, List.length_replicate]; omega)) (by first | omega | (simp only [Int.toNat_natCast, toNat_add, toNat_add1, List.length_append, List.length_cons, List.length_nil, List.length_replicate]; omega)))) rfl rfl ?_ -- selectors.go:65 binOp
              refine Runs_p rfl (Valid.movek (A := Is _) rfl rfl) rfl rfl ?_ -- selectors.go:65 move
              refine Runs_nil ?_
              refine LoopQ.next (k + 1) [(112, 280)] (⟨by omega, fun j hj => (by
                    by_cases e : j = k
                    · subst e; omega
                    · exact hk2 j (by omega))⟩) (by first | omega | (dsimp only; omega)) ⟨⟨(leq_is rfl rfl (by first | rfl | exact stL_1 _ _ _ | exact bsL_cells _ _ _)), (leq_own rfl rfl rfl (by first | rfl | exact stL_1 _ _ _ | exact bsL_cells _ _ _) (by first | rfl | exact stL_1 _ _ _ | exact bsL_cells _ _ _)), trivial⟩, ⟨(leq_is rfl rfl rfl), (leq_ptr rfl rfl rfl), (leq_ptr rfl rfl rfl), (leq_sl (Reads.sl rfl) rfl rfl rfl), (leq_is rfl rfl rfl), trivial⟩, ⟨hp_ax rfl (by first | rfl | exact stL_1 _ _ _ | exact bsL_cells _ _ _) (by first | rfl | exact stL_1 _ _ _ | exact bsL_cells _ _ _), hp_row rfl (by first | rfl | exact stL_1 _ _ _ | exact bsL_cells _ _ _) (by first | rfl | exact stL_1 _ _ _ | exact bsL_cells _ _ _), trivial⟩, ⟨hp_var rfl ⟨(leq_is rfl rfl rfl), (leq_is rfl rfl rfl), trivial⟩, trivial⟩, rfl, ⟨supg rfl, supg rfl, trivial⟩, ⟨supg rfl, supg rfl, supg rfl, supg rfl, supg rfl, trivial⟩, ⟨suph rfl rfl, suph rfl rfl, trivial⟩, ⟨suph rfl rfl, trivial⟩, rfl, rfl⟩
              done)
          done)
      · try simp only [decide_eq_false_iff_not] at hb2
        all_goals (
          refine W_exit ?_
          refine thenQ_e ?_
          refine loopQ_e ?_
          refine blockQ_x ?_
          refine thenQ_n ?_
          refine W_seq ?_
          refine W_regionE (c := 20) (c' := 26) (by kernel_rfl) rfl ?_
          refine Runs_p rfl (Valid.movek (A := Own 112 2 _ _) rfl rfl) rfl rfl ?_ -- selectors.go:71 move
          refine Runs_p rfl (Valid.call rfl (cat_f (bsL (iniL t.toNat) c k) _ _ (bsL_len _ _ _).symm rfl (by have := bsL_flat ht k hk2; omega)) ⟨argle_sl (Reads.own rfl), trivial⟩) rfl rfl ?_ -- selectors.go:71 call
          refine Runs_p rfl (Valid.extract _ rfl rfl rfl) rfl rfl ?_ -- selectors.go:71 extract
          refine Runs_p rfl (Valid.extract _ rfl rfl rfl) rfl rfl ?_ -- selectors.go:71 extract
          refine Runs_op rfl (Valid.storeagg (l := [_, _]) rfl sz28 rfl rfl (Nat.le_of_ble_eq_true rfl) rfl ⟨(One.is rfl rfl rfl), (One.is rfl rfl rfl), trivial⟩) rfl ?_ -- selectors.go:71 store
          refine Runs_p rfl (Valid.assignk (A := Is _) rfl rfl) rfl rfl ?_ -- selectors.go:71 assign
          refine Runs_nil ?_
          refine thenQ_n ?_
          refine W_ret ?_
          refine finQ_r ?_
          refine ResOk.two rfl (RVal.cellagg ag28 sz28 rfl rfl (Nat.le_of_ble_eq_true rfl) (argle (by first | (rw [put_5 ht k (by omega) (by omega)]; rfl) | (rw [put_0 ht (fun j hj => hk2 j (by omega)), putL, show c.length = k by omega]; rfl)))) (RVal.is rfl rfl (by first | (rw [put_5 ht k (by omega) (by omega)]; done) | (rw [put_0 ht (fun j hj => hk2 j (by omega))])))
          done)
      done)

theorem put_v (c : List Int) (t : Int) (hc : c.length ≤ 1000000) : FPure Try.prog 11 [Sl 1 c.length (c.map (Value.int .i64)), Is (.int .i64 t)] (Tup [Agg [Is (.string (putV c t).1.1), Is (.int .i64 (putV c t).1.2)], Is (.int .i64 (putV c t).2)]) := by
  by_cases h : t < 2 ∨ 6 < t
  · exact put_no c t h
  · exact put_ok c t hc (by omega)
end Eb
end Go.Proofs.Ytkjmdnehlodihaa
