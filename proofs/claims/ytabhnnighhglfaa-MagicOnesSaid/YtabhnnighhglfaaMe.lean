/-
  WALKS of stage 2: where Find comes, step by step.
-/
import Derived.Test.YtabhnnighhglfaaRows
import Derived.Test.YtabhnnighhglfaaAby
import Derived.Test.YtabhnnighhglfaaBb
import Derived.Test.YtabhnnighhglfaaCm
import Derived.Test.YtabhnnighhglfaaCa
import Derived.Test.YtabhnnighhglfaaMa
import Derived.Test.YtabhnnighhglfaaMb
import Derived.Test.YtabhnnighhglfaaMc
import Derived.Test.YtabhnnighhglfaaMd
namespace Go.Proofs.Ytabhnnighhglfaa
open Go.RowKit
namespace Me
open Ab Bm Bt Bb Cm Ca Ma Mb Mc Md
theorem ag3 (w : World) : (isAgg 3).run Try.prog w = .ok false w := by kernel_rfl
theorem sz3 (w : World) : (sizeOf 3).run Try.prog w = .ok 1 w := by kernel_rfl
theorem ti3 : TI Try.prog 3 1 8 := .mk' (z := (Value.int .i64 0)) (by kernel_rfl) rfl
theorem plZ_at {s : ByteArray} {f m n : Int} {j : Nat} (hj : j < (plZ s f m n).length) : (plZ s f m n).getD j 0 = (((plL s f m n (8 * s.size)).getD j 0 : Nat) : Int) := by
  have hj' := hj
  rw [plZ_len] at hj'
  rw [getD_lt _ _ _ hj, getD_lt _ _ _ hj']; simp [plZ]
theorem plL_up {s : ByteArray} {f m n : Int} {K i j : Nat} (hij : i < j) (hj : j < (plL s f m n K).length) : (plL s f m n K).getD i 0 < (plL s f m n K).getD j 0 := by
  have hp : (plL s f m n K).Pairwise (· < ·) := List.Pairwise.filter _ List.pairwise_lt_range
  rw [getD_lt _ _ _ (by omega), getD_lt _ _ _ hj]
  exact List.pairwise_iff_getElem.1 hp i j (by omega) hj hij
theorem plZ_up {s : ByteArray} {f m n : Int} {i j : Nat} (hij : i < j) (hj : j < (plZ s f m n).length) : (plZ s f m n).getD i 0 < (plZ s f m n).getD j 0 := by
  rw [plZ_at (by omega), plZ_at hj]
  rw [plZ_len] at hj
  exact Int.ofNat_lt.2 (plL_up hij hj)
theorem plZ_0 {s : ByteArray} {f m n : Int} {j : Nat} (hj : j < (plZ s f m n).length) : 0 ≤ (plZ s f m n).getD j 0 ∧ (plZ s f m n).getD j 0 < 8 * s.size := by
  rw [plZ_at hj]
  rw [plZ_len] at hj
  have h1 : (plL s f m n (8 * s.size)).getD j 0 ∈ plL s f m n (8 * s.size) := by
    rw [getD_lt _ _ _ hj]; exact List.getElem_mem _
  have h2 := List.mem_range.1 (List.mem_filter.1 h1).1
  omega
/-- where it goes on -/
def nxV (l : List Int) (j : Nat) : Int := if j < l.length then l.getD j 0 else -1
theorem nx_pos {s : ByteArray} {f m n : Int} {j : Nat} (h : 0 ≤ nxV (plZ s f m n) j) : j < (plZ s f m n).length ∧ nxV (plZ s f m n) j = (plZ s f m n).getD j 0 := by
  unfold nxV at h ⊢
  split at h
  · rename_i h1; exact ⟨h1, by rw [if_pos h1]⟩
  · omega
theorem nx_neg {s : ByteArray} {f m n : Int} {j : Nat} (h : ¬ 0 ≤ nxV (plZ s f m n) j) : (plZ s f m n).length ≤ j := Classical.byContradiction fun e => h (by rw [nxV, if_pos (by omega)]; exact (plZ_0 (by omega)).1)
theorem nx_bd (s : ByteArray) (f m n : Int) (j : Nat) : -1 ≤ nxV (plZ s f m n) j ∧ nxV (plZ s f m n) j ≤ 8 * s.size := by
  unfold nxV
  split
  · rename_i h
    have := plZ_0 h; omega
  · omega
theorem nx_0 (s : ByteArray) (m n : Int) : findV s 0 m n = nxV (plZ s 0 m n) 0 := by
  unfold nxV
  by_cases h : 0 < (plZ s 0 m n).length
  · rw [if_pos h, findV_at h (fun j hj => absurd hj (Nat.not_lt_zero _)) (plZ_0 h).1]
  · rw [if_neg h, findV_no (fun j hj => by omega)]
theorem nx_1 {s : ByteArray} {m n : Int} {j : Nat} (h : j < (plZ s 0 m n).length) : findV s (nxV (plZ s 0 m n) j + 1) m n = nxV (plZ s 0 m n) (j + 1) := by
  have e : nxV (plZ s 0 m n) j = (plZ s 0 m n).getD j 0 := by rw [nxV, if_pos h]
  rw [e, nxV]
  have hle : ∀ i, i < j + 1 → (plZ s 0 m n).getD i 0 < (plZ s 0 m n).getD j 0 + 1 := fun i hi => by
    by_cases hij : i = j
    · subst hij; omega
    · have := plZ_up (s := s) (f := 0) (m := m) (n := n) (show i < j by omega) h
      omega
  by_cases h1 : j + 1 < (plZ s 0 m n).length
  · rw [if_pos h1, findV_at h1 hle (by have := plZ_up (s := s) (f := 0) (m := m) (n := n) (show j < j + 1 by omega) h1; omega)]
  · rw [if_neg h1, findV_no (fun i hi => hle i (by omega))]
theorem mat_out {s : ByteArray} {a m n : Int} (hn : 1 ≤ n) (h : 8 * (s.size : Int) ≤ a) : matV s a m n = false := by
  unfold matV
  by_cases h1 : 1 ≤ n ∧ n ≤ 64
  · have : ¬ (getV s a n).2 = 0 := by
      unfold getV
      rw [if_neg (by rw [decide_eq_true (show 0 ≤ n by omega), decide_eq_true (show n ≤ 64 by omega), decide_eq_true (show 0 ≤ a by omega)]; decide), if_neg (by omega)]
      decide
    rw [decide_eq_false this]; simp
  · rw [decide_eq_false h1]; rfl
/-- how many of the places are ahead -/
def nuN (s : ByteArray) (m n : Int) (i : Nat) : Nat := (plL s 0 m n (min i (8 * s.size))).length
theorem nu_le (s : ByteArray) (m n : Int) (i : Nat) : nuN s m n i ≤ (plZ s 0 m n).length := by
  obtain ⟨r, hr⟩ := plL_pre s 0 m n (min i (8 * s.size)) (8 * s.size - min i (8 * s.size))
  rw [show min i (8 * s.size) + (8 * s.size - min i (8 * s.size)) = 8 * s.size by omega] at hr
  rw [plZ_len, hr, List.length_append, nuN]; omega
theorem is_eq {s : ByteArray} {m n : Int} (hn : 1 ≤ n) (i : Nat) : (decide ((nuN s m n i : Int) < ((plZ s 0 m n).length : Int)) && decide ((plZ s 0 m n).getD (nuN s m n i) 0 = (i : Int))) = matV s (i : Int) m n := by
  by_cases hi : i < 8 * s.size
  · have hK : min i (8 * s.size) = i := by omega
    cases hm : matV s (i : Int) m n with
    | true =>
      have hc : (decide ((0 : Int) ≤ (i : Int)) && matV s (i : Int) m n) = true := by rw [hm, decide_eq_true (show (0 : Int) ≤ (i : Int) by omega)]; rfl
      have h1 := plL_lt hi hc
      have h2 := plL_at hi hc
      have h3 : nuN s m n i < (plZ s 0 m n).length := by rw [plZ_len, nuN, hK]; exact h1
      rw [plZ_at h3, nuN, hK, h2, decide_eq_true (show (((plL s 0 m n i).length : Nat) : Int) < ((plZ s 0 m n).length : Int) by rw [plZ_len]; omega), decide_eq_true rfl]; rfl
    | false =>
      by_cases h3 : nuN s m n i < (plZ s 0 m n).length
      · have h4 : ¬ (plZ s 0 m n).getD (nuN s m n i) 0 = (i : Int) := fun e => by
          rw [plZ_at h3] at e
          have h5 : (plL s 0 m n (8 * s.size)).getD (nuN s m n i) 0 = i := by omega
          rw [plZ_len] at h3
          have h6 : i ∈ plL s 0 m n (8 * s.size) := by
            rw [← h5, getD_lt _ _ _ h3]; exact List.getElem_mem _
          have h7 := (List.mem_filter.1 h6).2
          rw [hm] at h7
          simp at h7
        rw [decide_eq_false h4, Bool.and_false]
      · rw [decide_eq_false (show ¬ (nuN s m n i : Int) < ((plZ s 0 m n).length : Int) by omega)]; rfl
  · have h1 : nuN s m n i = (plZ s 0 m n).length := by rw [nuN, plZ_len, show min i (8 * s.size) = 8 * s.size by omega]
    rw [h1, mat_out hn (by omega), decide_eq_false (show ¬ ((plZ s 0 m n).length : Int) < ((plZ s 0 m n).length : Int) by omega)]; rfl
theorem nu_y {s : ByteArray} {m n : Int} (hn : 1 ≤ n) {i : Nat} (h : matV s (i : Int) m n = true) : nuN s m n i + 1 = nuN s m n (i + 1) := by
  have hi : i < 8 * s.size := Classical.byContradiction fun e => by
    rw [mat_out hn (by omega)] at h; cases h
  rw [nuN, nuN, show min i (8 * s.size) = i by omega, show min (i + 1) (8 * s.size) = i + 1 by omega, pl_yl h]
theorem nu_n {s : ByteArray} {m n : Int} {i : Nat} (h : matV s (i : Int) m n = false) : nuN s m n i = nuN s m n (i + 1) := by
  by_cases hi : i < 8 * s.size
  · rw [nuN, nuN, show min i (8 * s.size) = i by omega, show min (i + 1) (8 * s.size) = i + 1 by omega, pl_n h]
  · rw [nuN, nuN, show min i (8 * s.size) = 8 * s.size by omega, show min (i + 1) (8 * s.size) = 8 * s.size by omega]
theorem nu_0 (s : ByteArray) (m n : Int) : nuN s m n 0 = 0 := by rw [nuN, Nat.zero_min]; rfl
theorem nu_end {s : ByteArray} {m n : Int} {i : Nat} (h : 8 * s.size ≤ i) : nuN s m n i = (plZ s 0 m n).length := by rw [nuN, plZ_len, show min i (8 * s.size) = 8 * s.size by omega]
theorem tkI {l : List Int} {k : Nat} {v : Int} (h : k < l.length) (hv : v = l.getD k 0) : (l.take k).map (Value.int .i64) ++ [Value.int .i64 v] = (l.take (k + 1)).map (Value.int .i64) := by
  rw [List.take_succ_eq_append_getElem h, List.map_append, hv, getD_lt _ _ _ h]; rfl

set_option maxRecDepth 100000 in
set_option maxHeartbeats 1000000 in
theorem places_law (s : ByteArray) (hs : s.size ≤ 9223372036854775807) (m : Int) (wm : 0 ≤ m ∧ m < 18446744073709551616) (n0 : Int) (wn0 : -9223372036854775808 ≤ n0 ∧ n0 ≤ 9223372036854775807) :
    FPure Try.prog 4 [Is (.string s), Is (.int .u64 m), Is (.int .i64 n0)] (Is (.bool true)) := by
  refine FPure.of Try.func4 Try.ntmps4 rfl (by kernel_rfl) rfl rfl rfl ?_
  refine W_seq ?_
  refine W_regionE (c := 1) (c' := 2) (by kernel_rfl) rfl ?_
  refine Runs_p rfl (Valid.assignk (A := Is _) rfl rfl) rfl rfl ?_ -- law.go:47 assign
  refine Runs_nil ?_
  refine thenQ_n ?_
  refine W_seq ?_
  refine W_regionE (c := 2) (c' := 4) (by kernel_rfl) rfl ?_
  refine Runs_p rfl (Valid.call rfl (awake2_s) trivial) rfl rfl ?_ -- law.go:48 call
  refine Runs_p rfl (Valid.assignk (A := Is _) rfl rfl) rfl rfl ?_ -- law.go:48 assign
  refine Runs_nil ?_
  refine thenQ_n ?_
  refine W_seq ?_
  refine W_regionE (c := 4) (c' := 10) (by kernel_rfl) rfl ?_
  refine Runs_p rfl (Valid.movek (A := Is _) rfl rfl) rfl rfl ?_ -- law.go:49 move
  refine Runs_p rfl (Valid.movek (A := Is _) rfl rfl) rfl rfl ?_ -- law.go:49 move
  refine Runs_p rfl (Valid.slen rfl Try.underlying9 rfl) rfl rfl ?_ -- law.go:49 call
  refine Runs_p rfl (Valid.min rfl rfl rfl) rfl rfl ?_ -- law.go:49 call
  refine Runs_p rfl (Valid.ssliceto rfl Try.underlying9 rfl rfl (by first | omega | (simp only [Int.toNat_natCast, toNat_add, toNat_add1, List.length_append, List.length_cons, List.length_nil, List.length_replicate]; omega))) rfl rfl ?_ -- law.go:49 slice
  refine Runs_p rfl (Valid.assignk (A := Is _) rfl rfl) rfl rfl ?_ -- law.go:49 assign
  refine Runs_nil ?_
  refine thenQ_n ?_
  refine W_seq ?_
  have hxs : (s.extract 0 (min (s.size : Int) 40).toNat).size ≤ 40 := by rw [ByteArray.size_extract]; omega
  generalize (s.extract 0 (min (s.size : Int) 40).toNat) = x at *
  have hpk := pickV_range n0 12 (by decide)
  refine W_regionE (c := 10) (c' := 14) (by kernel_rfl) rfl ?_
  refine Runs_p rfl (Valid.movek (A := Is _) rfl rfl) rfl rfl ?_ -- law.go:50 move
  refine Runs_p rfl (Valid.call rfl (pick2_s _ _ (by omega) (by omega) (by omega) (by omega)) ⟨argle rfl, argle rfl, trivial⟩) rfl rfl ?_ -- law.go:50 call
  refine Runs_p rfl (Valid.add rfl rfl rfl (room64 (by first | omega | (simp only [Int.toNat_natCast, toNat_add, toNat_add1, List.length_append, List.length_cons, List.length_nil, List.length_replicate]; omega)) (by first | omega | (simp only [Int.toNat_natCast, toNat_add, toNat_add1, List.length_append, List.length_cons, List.length_nil, List.length_replicate]; omega)))) rfl rfl ?_ -- law.go:50 binOp
  refine Runs_p rfl (Valid.assignk (A := Is _) rfl rfl) rfl rfl ?_ -- law.go:50 assign
  refine Runs_nil ?_
  refine thenQ_n ?_
  refine W_seq ?_
  have hn1 : 1 ≤ (1 + pickV n0 12) ∧ (1 + pickV n0 12) ≤ 12 := by omega
  generalize (1 + pickV n0 12) = n at *
  have hzl := plZ_le x 0 m n
  refine W_regionE (c := 14) (c' := 19) (by kernel_rfl) rfl ?_
  refine Runs_p rfl (Valid.movek (A := Is _) rfl rfl) rfl rfl ?_ -- law.go:51 move
  refine Runs_p rfl (Valid.movek (A := Is _) rfl rfl) rfl rfl ?_ -- law.go:51 move
  refine Runs_p rfl (Valid.movek (A := Is _) rfl rfl) rfl rfl ?_ -- law.go:51 move
  refine Runs_p rfl (Valid.call rfl (all_z _ _ wm _ (by omega) (by omega)) ⟨argle rfl, argle rfl, argle rfl, trivial⟩) rfl rfl ?_ -- law.go:51 call
  refine Runs_p rfl (Valid.assignk (A := Sl 1 _ _) rfl rfl) rfl rfl ?_ -- law.go:51 assign
  refine Runs_nil ?_
  refine thenQ_n ?_
  refine W_seq ?_
  refine W_regionE (c := 19) (c' := 20) (by kernel_rfl) rfl ?_
  refine Runs_p rfl (Valid.assignk (A := Is (.slice none 0 0)) rfl rfl) rfl rfl ?_ -- law.go:52 assign
  refine Runs_nil ?_
  refine thenQ_n ?_
  refine W_seq ?_
  refine W_seq ?_
  refine W_regionE (c := 20) (c' := 25) (by kernel_rfl) rfl ?_
  refine Runs_p rfl (Valid.movek (A := Is _) rfl rfl) rfl rfl ?_ -- law.go:53 move
  refine Runs_p rfl (Valid.movek (A := Is _) rfl rfl) rfl rfl ?_ -- law.go:53 move
  refine Runs_p rfl (Valid.movek (A := Is _) rfl rfl) rfl rfl ?_ -- law.go:53 move
  refine Runs_p rfl (Valid.call rfl (find_t (nx_0 x m n) (by decide) wm (by omega) (by omega)) ⟨argle rfl, argle rfl, argle rfl, argle rfl, trivial⟩) rfl rfl ?_ -- law.go:53 call
  refine Runs_p rfl (Valid.assignk (A := Is _) rfl rfl) rfl rfl ?_ -- law.go:53 assign
  refine Runs_nil ?_
  refine thenQ_n ?_
  refine W_block ?_
  refine W.ent ?_ (Ent.ownnil 11 3 1 rfl)
  refine W_loopx (G := Nat) (fun (j : Nat) => j ≤ (plZ x 0 m n).length) [(1, Is _), (7, Is _), (8, Is _), (9, Is _), (10, Sl 1 _ _)] (fun (j : Nat) => [(12, Is (.int .i64 (nxV (plZ x 0 m n) j))), (11, Ab.Own 200 1 j (((plZ x 0 m n).take j).map (Value.int .i64)))]) [] (fun (j : Nat) => [(200, .row 3 1 j (((plZ x 0 m n).take j).map (Value.int .i64)))]) 26 (fun (j : Nat) => (plZ x 0 m n).length - j) (0) [] (by first | trivial | omega | (simp; omega)) ⟨⟨(leq_is rfl rfl (by first | rfl)), (leq_own rfl rfl rfl (by first | rfl) (by first | rfl)), trivial⟩, ⟨(leq_is rfl rfl rfl), (leq_is rfl rfl rfl), (leq_is rfl rfl rfl), (leq_is rfl rfl rfl), (leq_sl (Reads.sl rfl) rfl rfl rfl), trivial⟩, ⟨hp_row rfl (by first | rfl) (by first | rfl), trivial⟩, trivial, rfl, ⟨supg rfl, supg rfl, trivial⟩, ⟨supg rfl, supg rfl, supg rfl, supg rfl, supg rfl, trivial⟩, ⟨suph rfl rfl, trivial⟩, trivial, rfl, rfl⟩ ?_
  intro j hI1
  have hnb := nx_bd x 0 m n j
  refine W_seq ?_
  refine W_seq ?_
  refine W_regionE (c := 26) (c' := 33) (by kernel_rfl) rfl ?_
  refine Runs_p rfl (Valid.movek (A := Is _) rfl rfl) rfl rfl ?_ -- law.go:53 move
  refine Runs_p rfl (Valid.geq rfl rfl rfl) rfl rfl ?_ -- law.go:53 binOp
  refine Runs_p rfl (Valid.movek (A := Is _) rfl rfl) rfl rfl ?_ -- law.go:53 move
  refine Runs_cnd rfl rfl (Grd.is rfl) [] (fun hg => trivial) (fun hg => Valid.moveS rfl (Reads.own rfl)) (by rfl) rfl ?_
  refine Runs_cnd rfl rfl (Grd.is rfl) [(36, _)] (fun hg => ⟨cnd_at rfl (by first | exact hg | exact hg.1 | exact hg.1.1 | exact hg.1.1.1), trivial⟩) (fun hg => Valid.len rfl Try.underlying25 (Reads.sl rfl)) (by rfl) rfl ?_
  refine Runs_cnd rfl rfl (Grd.is rfl) [(37, _)] (fun hg => ⟨cnd_at rfl (by first | exact hg | exact hg.1 | exact hg.1.1 | exact hg.1.1.1), trivial⟩) (fun hg => Valid.lss rfl rfl rfl) (by rfl) rfl ?_
  refine Runs_p rfl (Valid.pickand rfl rfl rfl (fun h => by first | exact h | exact ⟨hg, h⟩) rfl) rfl rfl ?_ -- law.go:53 pick
  refine Runs_nil ?_
  refine thenQ_n ?_
  refine W_cond _ rfl (fun hb1 => ?_) (fun hb1 => ?_)
  · try simp only [decide_eq_true_eq, Bool.and_eq_true] at hb1
    all_goals (
      refine W_skip ?_
      refine thenQ_n ?_
      refine W_seq ?_
      refine W_block ?_
      obtain ⟨hjl, hjn⟩ := nx_pos (show 0 ≤ nxV (plZ x 0 m n) j by first | exact hb1.1 | omega)
      refine W_regionE (c := 33) (c' := 38) (by kernel_rfl) rfl ?_
      refine Runs_p rfl (Valid.movek (A := Ab.Own 200 1 _ _) rfl rfl) rfl rfl ?_ -- law.go:54 move
      refine Runs_p rfl (Valid.movek (A := Is _) rfl rfl) rfl rfl ?_ -- law.go:54 move
      refine Runs_p rfl (Valid.lit (el := 3) [_] rfl rfl (fun _ => by kernel_rfl) rfl (by decide)) rfl rfl ?_ -- law.go:54 buildSlice
      refine Runs_w rfl (Valid.app rfl Try.underlying25 ti3 (by decide) rfl rfl (Reads.sl rfl) (by first | exact one_map (fun _ => rfl) | exact one_cons rfl one_nil | exact one_app (one_map (fun _ => rfl)) (one_cons rfl one_nil) | exact one_app (one_map (fun _ => rfl)) (one_map (fun _ => rfl)) | exact one_rep rfl | exact one_app (one_rep rfl) (one_map (fun _ => rfl)) | (intro u hu; simp at hu; rcases hu with rfl | hu <;> first | rfl | (subst hu; rfl))) (by first | (simp only [maxLen]; omega) | (simp only [maxLen, Int.toNat_natCast, toNat_add, toNat_add1, List.length_append, List.length_cons, List.length_nil, List.length_replicate]; omega)) (by first | omega | (simp only [Int.toNat_natCast, toNat_add, toNat_add1, List.length_append, List.length_cons, List.length_nil, List.length_replicate]; omega))) rfl rfl ?_ -- law.go:54 call
      refine Runs_p rfl (Valid.assignk (A := Ab.Own 288 1 _ _) rfl rfl) rfl rfl ?_ -- law.go:54 assign
      refine Runs_nil ?_
      refine blockQ_n ?_
      refine thenQ_n ?_
      refine W_regionE (c := 38) (c' := 45) (by kernel_rfl) rfl ?_
      refine Runs_p rfl (Valid.movek (A := Is _) rfl rfl) rfl rfl ?_ -- law.go:53 move
      refine Runs_p rfl (Valid.movek (A := Is _) rfl rfl) rfl rfl ?_ -- law.go:53 move
      refine Runs_p rfl (Valid.add rfl rfl rfl (room64 (by first | omega | (simp only [Int.toNat_natCast, toNat_add, toNat_add1, List.length_append, List.length_cons, List.length_nil, List.length_replicate]; omega)) (by first | omega | (simp only [Int.toNat_natCast, toNat_add, toNat_add1, List.length_append, List.length_cons, List.length_nil, List.length_replicate]; omega)))) rfl rfl ?_ -- law.go:53 binOp
      refine Runs_p rfl (Valid.movek (A := Is _) rfl rfl) rfl rfl ?_ -- law.go:53 move
      refine Runs_p rfl (Valid.movek (A := Is _) rfl rfl) rfl rfl ?_ -- law.go:53 move
      refine Runs_p rfl (Valid.call rfl (find_t (nx_1 hjl) (by omega) wm (by omega) (by omega)) ⟨argle rfl, argle rfl, argle rfl, argle rfl, trivial⟩) rfl rfl ?_ -- law.go:53 call
      refine Runs_p rfl (Valid.assignk (A := Is _) rfl rfl) rfl rfl ?_ -- law.go:53 assign
      refine Runs_nil ?_
      refine LoopQ.next (j + 1) [(200, 288)] (by omega) (by omega) ⟨⟨(leq_is rfl rfl (by first | rfl | exact tkI hjl hjn | omega)), (leq_own rfl rfl rfl (by first | rfl | exact tkI hjl hjn | omega) (by first | rfl | exact tkI hjl hjn | omega)), trivial⟩, ⟨(leq_is rfl rfl rfl), (leq_is rfl rfl rfl), (leq_is rfl rfl rfl), (leq_is rfl rfl rfl), (leq_sl (Reads.sl rfl) rfl rfl rfl), trivial⟩, ⟨hp_row rfl (by first | rfl | exact tkI hjl hjn | omega) (by first | rfl | exact tkI hjl hjn | omega), trivial⟩, trivial, rfl, ⟨supg rfl, supg rfl, trivial⟩, ⟨supg rfl, supg rfl, supg rfl, supg rfl, supg rfl, trivial⟩, ⟨suph rfl rfl, trivial⟩, trivial, rfl, rfl⟩
      done)
  · try simp only [decide_eq_false_iff_not, Bool.and_eq_false_iff] at hb1
    all_goals (
      refine W_exit ?_
      refine thenQ_e ?_
      refine loopQ_e ?_
      refine blockQ_x ?_
      refine thenQ_n ?_
      refine W_seq ?_
      have hje : j = (plZ x 0 m n).length := by
        rcases hb1 with h | h
        · have := nx_neg h; omega
        · omega
      refine W_regionE (c := 33) (c' := 34) (by kernel_rfl) rfl ?_
      refine Runs_p rfl (Valid.assignk (A := Is _) rfl rfl) rfl rfl ?_ -- law.go:56 assign
      refine Runs_nil ?_
      refine thenQ_n ?_
      refine W_seq ?_
      refine W_seq ?_
      refine W_regionE (c := 34) (c' := 35) (by kernel_rfl) rfl ?_
      refine Runs_p rfl (Valid.assignk (A := Is _) rfl rfl) rfl rfl ?_ -- law.go:57 assign
      refine Runs_nil ?_
      refine thenQ_n ?_
      refine W_block ?_
      refine W_loopx (G := Nat) (fun (i : Nat) => i ≤ 8 * x.size + 3) [(1, Is _), (7, Is _), (8, Is _), (9, Is _), (10, Sl 1 _ _), (11, Ab.Own 200 1 _ _)] (fun (i : Nat) => [(14, Is (.int .i64 (i : Int))), (13, Is (.int .i64 (nuN x m n i : Int)))]) [(200, .row 3 1 _ _)] (fun (i : Nat) => []) 35 (fun (i : Nat) => 8 * x.size + 3 - i) (0) [] (by first | trivial | omega | (simp; omega)) ⟨⟨(leq_is rfl rfl (by first | rfl | exact congrArg (Value.int .i64) (by rw [nu_0]; rfl))), (leq_is rfl rfl (by first | rfl | exact congrArg (Value.int .i64) (by rw [nu_0]; rfl))), trivial⟩, ⟨(leq_is rfl rfl rfl), (leq_is rfl rfl rfl), (leq_is rfl rfl rfl), (leq_is rfl rfl rfl), (leq_sl (Reads.sl rfl) rfl rfl rfl), (leq_own rfl rfl rfl rfl rfl), trivial⟩, trivial, ⟨hp_row rfl rfl rfl, trivial⟩, rfl, ⟨supg rfl, supg rfl, trivial⟩, ⟨supg rfl, supg rfl, supg rfl, supg rfl, supg rfl, supg rfl, trivial⟩, trivial, ⟨suph rfl rfl, trivial⟩, rfl, rfl⟩ ?_
      intro i hI2
      refine W_seq ?_
      refine W_seq ?_
      refine W_regionE (c := 35) (c' := 41) (by kernel_rfl) rfl ?_
      refine Runs_p rfl (Valid.movek (A := Is _) rfl rfl) rfl rfl ?_ -- law.go:57 move
      refine Runs_p rfl (Valid.movek (A := Is _) rfl rfl) rfl rfl ?_ -- law.go:57 move
      refine Runs_p rfl (Valid.slen rfl Try.underlying9 rfl) rfl rfl ?_ -- law.go:57 call
      refine Runs_p rfl (Valid.mul rfl rfl rfl (room64 (by first | omega | (simp only [Int.toNat_natCast, toNat_add, toNat_add1, List.length_append, List.length_cons, List.length_nil, List.length_replicate]; omega)) (by first | omega | (simp only [Int.toNat_natCast, toNat_add, toNat_add1, List.length_append, List.length_cons, List.length_nil, List.length_replicate]; omega)))) rfl rfl ?_ -- law.go:57 binOp
      refine Runs_p rfl (Valid.add rfl rfl rfl (room64 (by first | omega | (simp only [Int.toNat_natCast, toNat_add, toNat_add1, List.length_append, List.length_cons, List.length_nil, List.length_replicate]; omega)) (by first | omega | (simp only [Int.toNat_natCast, toNat_add, toNat_add1, List.length_append, List.length_cons, List.length_nil, List.length_replicate]; omega)))) rfl rfl ?_ -- law.go:57 binOp
      refine Runs_p rfl (Valid.lss rfl rfl rfl) rfl rfl ?_ -- law.go:57 binOp
      refine Runs_nil ?_
      refine thenQ_n ?_
      refine W_cond _ rfl (fun hb2 => ?_) (fun hb2 => ?_)
      · try simp only [decide_eq_true_eq] at hb2
        all_goals (
          refine W_skip ?_
          refine thenQ_n ?_
          refine W_seq ?_
          refine W_block ?_
          refine W_seq ?_
          have hiq := is_eq (s := x) (m := m) (n := n) (by omega) i
          have hnu := nu_le x m n i
          refine W_regionE (c := 41) (c' := 54) (by kernel_rfl) rfl ?_
          refine Runs_p rfl (Valid.movek (A := Is _) rfl rfl) rfl rfl ?_ -- law.go:58 move
          refine Runs_p rfl (Valid.movek (A := Sl 1 _ _) rfl rfl) rfl rfl ?_ -- law.go:58 move
          refine Runs_p rfl (Valid.len rfl Try.underlying25 (Reads.sl rfl)) rfl rfl ?_ -- law.go:58 call
          refine Runs_p rfl (Valid.lss rfl rfl rfl) rfl rfl ?_ -- law.go:58 binOp
          refine Runs_p rfl (Valid.movek (A := Is _) rfl rfl) rfl rfl ?_ -- law.go:58 move
          refine Runs_cnd rfl rfl (Grd.is rfl) [] (fun hg => trivial) (fun hg => Valid.movek (A := Sl 1 _ _) rfl rfl) (by rfl) rfl ?_
          refine Runs_cnd rfl rfl (Grd.is rfl) [] (fun hg => trivial) (fun hg => Valid.movek (A := Is _) rfl rfl) (by rfl) rfl ?_
          refine Runs_cnd rfl rfl (Grd.is rfl) [(63, _), (64, _)] (fun hg => ⟨cnd_at rfl (by first | exact hg | exact hg.1 | exact hg.1.1 | exact hg.1.1.1), cnd_at rfl (by first | exact hg | exact hg.1 | exact hg.1.1 | exact hg.1.1.1), trivial⟩) (fun hg => Valid.eltaddr1 0 rfl Try.underlying25 sz3 (Reads.sl rfl) rfl (by (try simp only [decide_eq_true_eq] at hg); first | omega | (simp only [Int.toNat_natCast, toNat_add, toNat_add1, List.length_append, List.length_cons, List.length_nil, List.length_replicate]; omega)) (by first | rfl | simp)) (by rfl) rfl ?_
          refine Runs_cnd rfl rfl (Grd.is rfl) [(65, _)] (fun hg => ⟨cnd_at rfl (by first | exact hg | exact hg.1 | exact hg.1.1 | exact hg.1.1.1), trivial⟩) (fun hg => Valid.loadelt rfl ag3 rfl) (by rfl) rfl ?_
          refine Runs_cnd rfl rfl (Grd.is rfl) [] (fun hg => trivial) (fun hg => Valid.movek (A := Is _) rfl rfl) (by rfl) rfl ?_
          refine Runs_cnd rfl rfl (Grd.is rfl) [(66, _), (67, _)] (fun hg => ⟨cnd_at rfl (by first | exact hg | exact hg.1 | exact hg.1.1 | exact hg.1.1.1), cnd_at rfl (by first | exact hg | exact hg.1 | exact hg.1.1 | exact hg.1.1.1), trivial⟩) (fun hg => Valid.eql rfl rfl rfl) (by rfl) rfl ?_
          refine Runs_p rfl (Valid.pickand rfl rfl rfl (fun h => by first | exact h | exact ⟨hg, h⟩) rfl) rfl rfl ?_ -- law.go:58 pick
          refine Runs_p rfl (Valid.assignk (A := Is _) rfl rfl) rfl rfl ?_ -- law.go:58 assign
          refine Runs_nil ?_
          refine thenQ_n ?_
          refine W_seq ?_
          refine W_seq ?_
          refine W_regionE (c := 54) (c' := 61) (by kernel_rfl) rfl ?_
          refine Runs_p rfl (Valid.movek (A := Is _) rfl rfl) rfl rfl ?_ -- law.go:59 move
          refine Runs_p rfl (Valid.movek (A := Is _) rfl rfl) rfl rfl ?_ -- law.go:59 move
          refine Runs_p rfl (Valid.movek (A := Is _) rfl rfl) rfl rfl ?_ -- law.go:59 move
          refine Runs_p rfl (Valid.movek (A := Is _) rfl rfl) rfl rfl ?_ -- law.go:59 move
          refine Runs_p rfl (Valid.call rfl (mat_s _ _ _ wm _ (by omega) (by omega) (by omega)) ⟨argle rfl, argle rfl, argle rfl, argle rfl, trivial⟩) rfl rfl ?_ -- law.go:59 call
          refine Runs_p rfl (Valid.movek (A := Is _) rfl rfl) rfl rfl ?_ -- law.go:59 move
          refine Runs_p rfl (Valid.bneq rfl rfl rfl Try.underlying4) rfl rfl ?_ -- law.go:59 binOp
          refine Runs_nil ?_
          refine thenQ_n ?_
          refine W_cond _ rfl (fun hb3 => ?_) (fun hb3 => ?_)
          · try simp only [Int.toNat_natCast, Bool.not_eq_true'] at hb3
            all_goals (
              exfalso
              rw [← hiq] at hb3
              simp at hb3
              
              done)
          · try simp only [Int.toNat_natCast, Bool.not_eq_false'] at hb3
            all_goals (
              refine W_skip ?_
              refine thenQ_n ?_
              refine W_seq ?_
              refine W_regionE (c := 61) (c' := 62) (by kernel_rfl) rfl ?_
              refine Runs_p rfl (Valid.movek (A := Is _) rfl rfl) rfl rfl ?_ -- law.go:62 move
              refine Runs_nil ?_
              refine thenQ_n ?_
              refine W_cond _ rfl (fun hb4 => ?_) (fun hb4 => ?_)
              · try simp only [Int.toNat_natCast, decide_eq_true_eq, Bool.and_eq_true] at hb4
                all_goals (
                  refine W_regionE (c := 62) (c' := 65) (by kernel_rfl) rfl ?_
                  refine Runs_p rfl (Valid.movek (A := Is _) rfl rfl) rfl rfl ?_ -- law.go:63 move
                  refine Runs_p rfl (Valid.add rfl rfl rfl (room64 (by first | omega | (simp only [Int.toNat_natCast, toNat_add, toNat_add1, List.length_append, List.length_cons, List.length_nil, List.length_replicate]; omega)) (by first | omega | (simp only [Int.toNat_natCast, toNat_add, toNat_add1, List.length_append, List.length_cons, List.length_nil, List.length_replicate]; omega)))) rfl rfl ?_ -- law.go:63 binOp
                  refine Runs_p rfl (Valid.assignk (A := Is _) rfl rfl) rfl rfl ?_ -- law.go:63 assign
                  refine Runs_nil ?_
                  refine blockQ_n ?_
                  refine thenQ_n ?_
                  refine W_regionE (c := 65) (c' := 68) (by kernel_rfl) rfl ?_
                  refine Runs_p rfl (Valid.movek (A := Is _) rfl rfl) rfl rfl ?_ -- law.go:57 move
                  refine Runs_p rfl (Valid.add rfl rfl rfl (room64 (by first | omega | (simp only [Int.toNat_natCast, toNat_add, toNat_add1, List.length_append, List.length_cons, List.length_nil, List.length_replicate]; omega)) (by first | omega | (simp only [Int.toNat_natCast, toNat_add, toNat_add1, List.length_append, List.length_cons, List.length_nil, List.length_replicate]; omega)))) rfl rfl ?_ -- law.go:57 binOp
                  refine Runs_p rfl (Valid.assignk (A := Is _) rfl rfl) rfl rfl ?_ -- law.go:57 assign
                  refine Runs_nil ?_
                  refine LoopQ.next (i + 1) [] (by omega) (by omega) ⟨⟨(leq_is rfl rfl (by first | rfl | exact congrArg (fun z : Nat => Value.int .i64 (z : Int)) (nu_y (by omega) (by rw [← hiq, decide_eq_true hb4.1, decide_eq_true hb4.2]; rfl)) | exact congrArg (fun z : Nat => Value.int .i64 (z : Int)) (nu_n (by rw [← hiq]; rcases hb4 with h | h; (· rw [decide_eq_false h]; rfl); (· rw [decide_eq_false h, Bool.and_false]))) | exact congrArg (Value.int .i64) (by omega))), (leq_is rfl rfl (by first | rfl | exact congrArg (fun z : Nat => Value.int .i64 (z : Int)) (nu_y (by omega) (by rw [← hiq, decide_eq_true hb4.1, decide_eq_true hb4.2]; rfl)) | exact congrArg (fun z : Nat => Value.int .i64 (z : Int)) (nu_n (by rw [← hiq]; rcases hb4 with h | h; (· rw [decide_eq_false h]; rfl); (· rw [decide_eq_false h, Bool.and_false]))) | exact congrArg (Value.int .i64) (by omega))), trivial⟩, ⟨(leq_is rfl rfl rfl), (leq_is rfl rfl rfl), (leq_is rfl rfl rfl), (leq_is rfl rfl rfl), (leq_sl (Reads.sl rfl) rfl rfl rfl), (leq_own rfl rfl rfl rfl rfl), trivial⟩, trivial, ⟨hp_row rfl rfl rfl, trivial⟩, rfl, ⟨supg rfl, supg rfl, trivial⟩, ⟨supg rfl, supg rfl, supg rfl, supg rfl, supg rfl, supg rfl, trivial⟩, trivial, ⟨suph rfl rfl, trivial⟩, rfl, rfl⟩
                  done)
              · try simp only [Int.toNat_natCast, decide_eq_false_iff_not, Bool.and_eq_false_iff] at hb4
                all_goals (
                  refine W_skip ?_
                  refine blockQ_n ?_
                  refine thenQ_n ?_
                  refine W_regionE (c := 62) (c' := 65) (by kernel_rfl) rfl ?_
                  refine Runs_p rfl (Valid.movek (A := Is _) rfl rfl) rfl rfl ?_ -- law.go:57 move
                  refine Runs_p rfl (Valid.add rfl rfl rfl (room64 (by first | omega | (simp only [Int.toNat_natCast, toNat_add, toNat_add1, List.length_append, List.length_cons, List.length_nil, List.length_replicate]; omega)) (by first | omega | (simp only [Int.toNat_natCast, toNat_add, toNat_add1, List.length_append, List.length_cons, List.length_nil, List.length_replicate]; omega)))) rfl rfl ?_ -- law.go:57 binOp
                  refine Runs_p rfl (Valid.assignk (A := Is _) rfl rfl) rfl rfl ?_ -- law.go:57 assign
                  refine Runs_nil ?_
                  refine LoopQ.next (i + 1) [] (by omega) (by omega) ⟨⟨(leq_is rfl rfl (by first | rfl | exact congrArg (fun z : Nat => Value.int .i64 (z : Int)) (nu_y (by omega) (by rw [← hiq, decide_eq_true hb4.1, decide_eq_true hb4.2]; rfl)) | exact congrArg (fun z : Nat => Value.int .i64 (z : Int)) (nu_n (by rw [← hiq]; rcases hb4 with h | h; (· rw [decide_eq_false h]; rfl); (· rw [decide_eq_false h, Bool.and_false]))) | exact congrArg (Value.int .i64) (by omega))), (leq_is rfl rfl (by first | rfl | exact congrArg (fun z : Nat => Value.int .i64 (z : Int)) (nu_y (by omega) (by rw [← hiq, decide_eq_true hb4.1, decide_eq_true hb4.2]; rfl)) | exact congrArg (fun z : Nat => Value.int .i64 (z : Int)) (nu_n (by rw [← hiq]; rcases hb4 with h | h; (· rw [decide_eq_false h]; rfl); (· rw [decide_eq_false h, Bool.and_false]))) | exact congrArg (Value.int .i64) (by omega))), trivial⟩, ⟨(leq_is rfl rfl rfl), (leq_is rfl rfl rfl), (leq_is rfl rfl rfl), (leq_is rfl rfl rfl), (leq_sl (Reads.sl rfl) rfl rfl rfl), (leq_own rfl rfl rfl rfl rfl), trivial⟩, trivial, ⟨hp_row rfl rfl rfl, trivial⟩, rfl, ⟨supg rfl, supg rfl, trivial⟩, ⟨supg rfl, supg rfl, supg rfl, supg rfl, supg rfl, supg rfl, trivial⟩, trivial, ⟨suph rfl rfl, trivial⟩, rfl, rfl⟩
                  done)
              done)
          done)
      · try simp only [decide_eq_false_iff_not] at hb2
        all_goals (
          refine W_exit ?_
          refine thenQ_e ?_
          refine loopQ_e ?_
          refine blockQ_x ?_
          refine thenQ_n ?_
          refine W_seq ?_
          refine W_regionE (c := 41) (c' := 54) (by kernel_rfl) rfl ?_
          refine Runs_p rfl (Valid.movek (A := Is _) rfl rfl) rfl rfl ?_ -- law.go:66 move
          refine Runs_p rfl (Valid.movek (A := Is _) rfl rfl) rfl rfl ?_ -- law.go:66 move
          refine Runs_cnd rfl rfl (Grd.is rfl) [] (fun hg => trivial) (fun hg => Valid.movek (A := Is _) rfl rfl) (by rfl) rfl ?_
          refine Runs_cnd rfl rfl (Grd.is rfl) [] (fun hg => trivial) (fun hg => Valid.movek (A := Sl 1 _ _) rfl rfl) (by rfl) rfl ?_
          refine Runs_cnd rfl rfl (Grd.is rfl) [(83, _)] (fun hg => ⟨cnd_at rfl (by first | exact hg | exact hg.1 | exact hg.1.1 | exact hg.1.1.1), trivial⟩) (fun hg => Valid.len rfl Try.underlying25 (Reads.sl rfl)) (by rfl) rfl ?_
          refine Runs_cnd rfl rfl (Grd.is rfl) [(82, _), (84, _)] (fun hg => ⟨cnd_at rfl (by first | exact hg | exact hg.1 | exact hg.1.1 | exact hg.1.1.1), cnd_at rfl (by first | exact hg | exact hg.1 | exact hg.1.1 | exact hg.1.1.1), trivial⟩) (fun hg => Valid.eql rfl rfl rfl) (by rfl) rfl ?_
          refine Runs_p rfl (Valid.pickand rfl rfl rfl (fun h => by first | exact h | exact ⟨hg, h⟩) rfl) rfl rfl ?_ -- law.go:66 pick
          refine Runs_p rfl (Valid.movek (A := Is _) rfl rfl) rfl rfl ?_ -- law.go:66 move
          refine Runs_cnd rfl rfl (Grd.is rfl) [] (fun hg => trivial) (fun hg => Valid.movek (A := Sl 1 _ _) rfl rfl) (by rfl) rfl ?_
          refine Runs_cnd rfl rfl (Grd.is rfl) [] (fun hg => trivial) (fun hg => Valid.moveS rfl (Reads.own rfl)) (by rfl) rfl ?_
          refine Runs_cnd rfl rfl (Grd.is rfl) [(88, _), (89, _)] (fun hg => ⟨cnd_at rfl (by first | exact hg | exact hg.1 | exact hg.1.1 | exact hg.1.1.1), cnd_at rfl (by first | exact hg | exact hg.1 | exact hg.1.1 | exact hg.1.1.1), trivial⟩) (fun hg => Valid.call rfl (ints_t (l := plZ x 0 m n) (m := (plZ x 0 m n).take j) rfl rfl (by (try simp only [decide_eq_true_eq, Bool.and_eq_true] at hg); rw [List.length_take]; omega) rfl (by (try simp only [decide_eq_true_eq, Bool.and_eq_true] at hg); omega) (by (try simp only [decide_eq_true_eq, Bool.and_eq_true] at hg); rw [hje, List.take_length])) ⟨argle_sl (Reads.sl rfl), argle_sl (Reads.sl rfl), trivial⟩) (by rfl) rfl ?_
          refine Runs_p rfl (Valid.pickand rfl rfl rfl (fun h => by first | exact h | exact ⟨hg, h⟩) rfl) rfl rfl ?_ -- law.go:66 pick
          refine Runs_p rfl (Valid.assignk (A := Is _) rfl rfl) rfl rfl ?_ -- law.go:66 assign
          refine Runs_nil ?_
          refine thenQ_n ?_
          refine W_ret ?_
          refine finQ_r ?_
          refine ResOk.one rfl (RVal.is rfl rfl (by rw [nu_end (by omega)]; simp))
          done)
      done)
end Me
end Go.Proofs.Ytabhnnighhglfaa
