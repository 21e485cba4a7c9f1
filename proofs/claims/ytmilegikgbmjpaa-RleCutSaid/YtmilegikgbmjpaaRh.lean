/-
  WALKS of stage 4: laws on what has room.
-/
import Derived.Test.YtmilegikgbmjpaaRows
import Derived.Test.YtmilegikgbmjpaaRg
namespace Go.Proofs.Ytmilegikgbmjpaa
open Go.RowKit
namespace Rh
open Ab Rl Rl Ra Rb Rc Rd Re Rf Rg

theorem cut_all {l : List UInt8} {r : Int} (h : (lenL l : Int) ≤ r) : cutF (pcs l) r = (l.length : Int) :=
  cut_uniq (by omega) (Nat.le_refl _) (by rw [List.take_length]; exact h) (fun h2 => absurd h2 (Nat.lt_irrefl _))
theorem take_of_app {a b : List UInt8} {j : Nat} (h : j ≤ a.length) : (a ++ b).take j = a.take j := List.take_append_of_le_length h
theorem cut_pre {a b : List UInt8} {r : Int} (hr : 0 ≤ r) : cutF (pcs a) r = min (cutF (pcs (a ++ b)) r) (a.length : Int) := by
  obtain ⟨k, e, k1, k2, k3⟩ := cut_spec (a ++ b) r hr
  rw [e]
  rw [List.length_append] at k1 k3
  by_cases h : k ≤ a.length
  · rw [show min (k : Int) (a.length : Int) = (k : Int) by omega]
    refine cut_uniq hr h (by rw [← take_of_app (b := b) h]; exact k2) (fun h2 => ?_)
    have := k3 (by omega)
    rwa [take_of_app (by omega)] at this
  · rw [show min (k : Int) (a.length : Int) = (a.length : Int) by omega]
    refine cut_all ?_
    have := len_mono (a ++ b) a.length k (by omega)
    rw [List.take_left] at this
    omega
structure SumF (la lb : List UInt8) (r : Int) : Prop where
  c1 : (lenV (ba la ++ ba lb) : Int) ≤ (lenV (ba la) : Int) + (lenV (ba lb) : Int) + 1
  c2 : (lenV (ba la) : Int) ≤ (lenV (ba la ++ ba lb) : Int)
  c3 : (lenV (ba lb) : Int) ≤ (lenV (ba la ++ ba lb) : Int)
  c4 : cutV (ba la) r = min (cutV (ba la ++ ba lb) r) ((ba la).size : Int)
  c5 : r < (lenV (ba la ++ ba lb) : Int) ∨ cutV (ba la ++ ba lb) r = ((ba la ++ ba lb).size : Int)
theorem sumF (la lb : List UInt8) {r : Int} (hr : 0 ≤ r) : SumF la lb r := by
  have h1 := len_cat la lb
  have h2 := len_take_le (la ++ lb) la.length
  rw [List.take_left] at h2
  have e : ∀ l, lenV (ba l) = lenL l := fun _ => rfl
  refine ⟨?_, ?_, ?_, ?_, ?_⟩
  · rw [ba_app, e, e, e]; omega
  · rw [ba_app, e, e]; omega
  · rw [ba_app, e, e]; omega
  · rw [ba_app]; exact cut_pre hr
  · rw [ba_app, e]
    by_cases h : r < (lenL (la ++ lb) : Int)
    · exact .inl h
    · exact .inr (cut_all (l := la ++ lb) (show (lenL (la ++ lb) : Int) ≤ r by omega))

set_option maxRecDepth 100000 in
set_option maxHeartbeats 1000000 in
theorem sum_law (one : List (Int × Int)) (hone : in2 one) (lone : one.length ≤ 9223372036854775807) (two : List (Int × Int)) (htwo : in2 two) (ltwo : two.length ≤ 9223372036854775807) (n0 : Int) (hn0 : -9223372036854775808 ≤ n0 ∧ n0 ≤ 9223372036854775807) :
    FPure Try.prog 8 [Sl 2 one.length (prs one), Sl 2 two.length (prs two), Is (.int .i64 n0)] (Is (.bool true)) := by
  refine FPure.of Try.func8 Try.ntmps8 rfl (by kernel_rfl) rfl rfl rfl ?_
  refine W_seq ?_
  refine W_regionE (c := 1) (c' := 2) (by kernel_rfl) rfl ?_
  refine Runs_p rfl (Valid.assignk (A := Is _) rfl rfl) rfl rfl ?_ -- law.go:133 assign
  refine Runs_nil ?_
  refine thenQ_n ?_
  refine W_seq ?_
  refine W_regionE (c := 2) (c' := 4) (by kernel_rfl) rfl ?_
  refine Runs_p rfl (Valid.call rfl (awake4_s) trivial) rfl rfl ?_ -- law.go:134 call
  refine Runs_p rfl (Valid.assignk (A := Is _) rfl rfl) rfl rfl ?_ -- law.go:134 assign
  refine Runs_nil ?_
  refine thenQ_n ?_
  refine W_seq ?_
  refine W_regionE (c := 4) (c' := 7) (by kernel_rfl) rfl ?_
  refine Runs_p rfl (Valid.movek (A := Sl 2 _ _) rfl rfl) rfl rfl ?_ -- law.go:135 move
  refine Runs_p rfl (Valid.call rfl (runs_s one hone lone 300 (by decide)) ⟨argle_sl (Reads.sl rfl), argle rfl, trivial⟩) rfl rfl ?_ -- law.go:135 call
  refine Runs_p rfl (Valid.assignk (A := Is _) rfl rfl) rfl rfl ?_ -- law.go:135 assign
  refine Runs_nil ?_
  refine thenQ_n ?_
  refine W_seq ?_
  refine W_regionE (c := 7) (c' := 10) (by kernel_rfl) rfl ?_
  refine Runs_p rfl (Valid.movek (A := Sl 2 _ _) rfl rfl) rfl rfl ?_ -- law.go:136 move
  refine Runs_p rfl (Valid.call rfl (runs_s two htwo ltwo 300 (by decide)) ⟨argle_sl (Reads.sl rfl), argle rfl, trivial⟩) rfl rfl ?_ -- law.go:136 call
  refine Runs_p rfl (Valid.assignk (A := Is _) rfl rfl) rfl rfl ?_ -- law.go:136 assign
  refine Runs_nil ?_
  refine thenQ_n ?_
  refine W_seq ?_
  have hza : (ba (runsL one 300)).size ≤ 300 := runs_le one 300 _
  have hzb : (ba (runsL two 300)).size ≤ 300 := runs_le two 300 _
  generalize runsL one 300 = la at *
  generalize runsL two 300 = lb at *
  have hsz : (ba la ++ ba lb).size = (ba la).size + (ba lb).size := ByteArray.size_append
  have hp1 := pickV_range n0 100 (by decide)
  have hS := sumF la lb hp1.1
  have hv1 := lenV_hi (ba la)
  have hv2 := lenV_hi (ba lb)
  refine W_regionE (c := 10) (c' := 15) (by kernel_rfl) rfl ?_
  refine Runs_p rfl (Valid.movek (A := Is _) rfl rfl) rfl rfl ?_ -- law.go:137 move
  refine Runs_p rfl (Valid.movek (A := Is _) rfl rfl) rfl rfl ?_ -- law.go:137 move
  refine Runs_p rfl (Valid.cat rfl rfl rfl (by first | omega | (simp only [ByteArray.size_append, ByteArray.size_extract]; omega) | (simp only [maxLen]; omega))) rfl rfl ?_ -- law.go:137 binOp
  refine Runs_p rfl (Valid.call rfl (len_s _ (by omega)) ⟨argle rfl, trivial⟩) rfl rfl ?_ -- law.go:137 call
  refine Runs_p rfl (Valid.assignk (A := Is _) rfl rfl) rfl rfl ?_ -- law.go:137 assign
  refine Runs_nil ?_
  refine thenQ_n ?_
  refine W_seq ?_
  refine W_regionE (c := 15) (c' := 18) (by kernel_rfl) rfl ?_
  refine Runs_p rfl (Valid.movek (A := Is _) rfl rfl) rfl rfl ?_ -- law.go:138 move
  refine Runs_p rfl (Valid.call rfl (pick4_s _ _ (by omega) (by omega) (by omega) (by omega)) ⟨argle rfl, argle rfl, trivial⟩) rfl rfl ?_ -- law.go:138 call
  refine Runs_p rfl (Valid.assignk (A := Is _) rfl rfl) rfl rfl ?_ -- law.go:138 assign
  refine Runs_nil ?_
  refine thenQ_n ?_
  refine W_seq ?_
  refine W_regionE (c := 18) (c' := 24) (by kernel_rfl) rfl ?_
  refine Runs_p rfl (Valid.movek (A := Is _) rfl rfl) rfl rfl ?_ -- law.go:139 move
  refine Runs_p rfl (Valid.movek (A := Is _) rfl rfl) rfl rfl ?_ -- law.go:139 move
  refine Runs_p rfl (Valid.cat rfl rfl rfl (by first | omega | (simp only [ByteArray.size_append, ByteArray.size_extract]; omega) | (simp only [maxLen]; omega))) rfl rfl ?_ -- law.go:139 binOp
  refine Runs_p rfl (Valid.movek (A := Is _) rfl rfl) rfl rfl ?_ -- law.go:139 move
  refine Runs_p rfl (Valid.call rfl (cut_s _ _ (by omega) (by omega)) ⟨argle rfl, argle rfl, trivial⟩) rfl rfl ?_ -- law.go:139 call
  refine Runs_p rfl (Valid.assignk (A := Is _) rfl rfl) rfl rfl ?_ -- law.go:139 assign
  refine Runs_nil ?_
  refine thenQ_n ?_
  refine W_seq ?_
  refine W_regionE (c := 24) (c' := 71) (by kernel_rfl) rfl ?_
  refine Runs_p rfl (Valid.movek (A := Is _) rfl rfl) rfl rfl ?_ -- law.go:140 move
  refine Runs_p rfl (Valid.movek (A := Is _) rfl rfl) rfl rfl ?_ -- law.go:140 move
  refine Runs_cnd rfl rfl (Grd.is rfl) [] (fun hg => trivial) (fun hg => Valid.movek (A := Is _) rfl rfl) (by rfl) rfl ?_
  refine Runs_cnd rfl rfl (Grd.is rfl) [] (fun hg => trivial) (fun hg => Valid.movek (A := Is _) rfl rfl) (by rfl) rfl ?_
  refine Runs_cnd rfl rfl (Grd.is rfl) [(32, _)] (fun hg => ⟨cnd_at rfl (by first | exact hg | exact hg.1 | exact hg.1.1 | exact hg.1.1.1), trivial⟩) (fun hg => Valid.call rfl (len_s _ (by (try simp only [] at hg); omega)) ⟨argle rfl, trivial⟩) (by rfl) rfl ?_
  refine Runs_cnd rfl rfl (Grd.is rfl) [] (fun hg => trivial) (fun hg => Valid.movek (A := Is _) rfl rfl) (by rfl) rfl ?_
  refine Runs_cnd rfl rfl (Grd.is rfl) [(34, _)] (fun hg => ⟨cnd_at rfl (by first | exact hg | exact hg.1 | exact hg.1.1 | exact hg.1.1.1), trivial⟩) (fun hg => Valid.call rfl (len_s _ (by (try simp only [] at hg); omega)) ⟨argle rfl, trivial⟩) (by rfl) rfl ?_
  refine Runs_cnd rfl rfl (Grd.is rfl) [(33, _), (35, _)] (fun hg => ⟨cnd_at rfl (by first | exact hg | exact hg.1 | exact hg.1.1 | exact hg.1.1.1), cnd_at rfl (by first | exact hg | exact hg.1 | exact hg.1.1 | exact hg.1.1.1), trivial⟩) (fun hg => Valid.add rfl rfl rfl (room64 (by (try simp only [] at hg); first | omega | (simp only [Int.toNat_natCast, toNat_add, toNat_add1, List.length_append, List.length_cons, List.length_nil, List.length_replicate]; omega)) (by (try simp only [] at hg); first | omega | (simp only [Int.toNat_natCast, toNat_add, toNat_add1, List.length_append, List.length_cons, List.length_nil, List.length_replicate]; omega)))) (by rfl) rfl ?_
  refine Runs_cnd rfl rfl (Grd.is rfl) [(36, _)] (fun hg => ⟨cnd_at rfl (by first | exact hg | exact hg.1 | exact hg.1.1 | exact hg.1.1.1), trivial⟩) (fun hg => Valid.add rfl rfl rfl (room64 (by (try simp only [] at hg); first | omega | (simp only [Int.toNat_natCast, toNat_add, toNat_add1, List.length_append, List.length_cons, List.length_nil, List.length_replicate]; omega)) (by (try simp only [] at hg); first | omega | (simp only [Int.toNat_natCast, toNat_add, toNat_add1, List.length_append, List.length_cons, List.length_nil, List.length_replicate]; omega)))) (by rfl) rfl ?_
  refine Runs_cnd rfl rfl (Grd.is rfl) [(31, _), (37, _)] (fun hg => ⟨cnd_at rfl (by first | exact hg | exact hg.1 | exact hg.1.1 | exact hg.1.1.1), cnd_at rfl (by first | exact hg | exact hg.1 | exact hg.1.1 | exact hg.1.1.1), trivial⟩) (fun hg => Valid.leq rfl rfl rfl) (by rfl) rfl ?_
  refine Runs_p rfl (Valid.pickand rfl rfl rfl (fun h => by first | exact h | exact ⟨hg, h⟩) rfl) rfl rfl ?_ -- law.go:140 pick
  refine Runs_p rfl (Valid.movek (A := Is _) rfl rfl) rfl rfl ?_ -- law.go:140 move
  refine Runs_cnd rfl rfl (Grd.is rfl) [] (fun hg => trivial) (fun hg => Valid.movek (A := Is _) rfl rfl) (by rfl) rfl ?_
  refine Runs_cnd rfl rfl (Grd.is rfl) [] (fun hg => trivial) (fun hg => Valid.movek (A := Is _) rfl rfl) (by rfl) rfl ?_
  refine Runs_cnd rfl rfl (Grd.is rfl) [(42, _)] (fun hg => ⟨cnd_at rfl (by first | exact hg | exact hg.1 | exact hg.1.1 | exact hg.1.1.1), trivial⟩) (fun hg => Valid.call rfl (len_s _ (by (try simp only [decide_eq_true_eq, Bool.and_eq_true] at hg); omega)) ⟨argle rfl, trivial⟩) (by rfl) rfl ?_
  refine Runs_cnd rfl rfl (Grd.is rfl) [(41, _), (43, _)] (fun hg => ⟨cnd_at rfl (by first | exact hg | exact hg.1 | exact hg.1.1 | exact hg.1.1.1), cnd_at rfl (by first | exact hg | exact hg.1 | exact hg.1.1 | exact hg.1.1.1), trivial⟩) (fun hg => Valid.geq rfl rfl rfl) (by rfl) rfl ?_
  refine Runs_p rfl (Valid.pickand rfl rfl rfl (fun h => by first | exact h | exact ⟨hg, h⟩) rfl) rfl rfl ?_ -- law.go:140 pick
  refine Runs_p rfl (Valid.movek (A := Is _) rfl rfl) rfl rfl ?_ -- law.go:140 move
  refine Runs_cnd rfl rfl (Grd.is rfl) [] (fun hg => trivial) (fun hg => Valid.movek (A := Is _) rfl rfl) (by rfl) rfl ?_
  refine Runs_cnd rfl rfl (Grd.is rfl) [] (fun hg => trivial) (fun hg => Valid.movek (A := Is _) rfl rfl) (by rfl) rfl ?_
  refine Runs_cnd rfl rfl (Grd.is rfl) [(48, _)] (fun hg => ⟨cnd_at rfl (by first | exact hg | exact hg.1 | exact hg.1.1 | exact hg.1.1.1), trivial⟩) (fun hg => Valid.call rfl (len_s _ (by (try simp only [decide_eq_true_eq, Bool.and_eq_true] at hg); omega)) ⟨argle rfl, trivial⟩) (by rfl) rfl ?_
  refine Runs_cnd rfl rfl (Grd.is rfl) [(47, _), (49, _)] (fun hg => ⟨cnd_at rfl (by first | exact hg | exact hg.1 | exact hg.1.1 | exact hg.1.1.1), cnd_at rfl (by first | exact hg | exact hg.1 | exact hg.1.1 | exact hg.1.1.1), trivial⟩) (fun hg => Valid.geq rfl rfl rfl) (by rfl) rfl ?_
  refine Runs_p rfl (Valid.pickand rfl rfl rfl (fun h => by first | exact h | exact ⟨hg, h⟩) rfl) rfl rfl ?_ -- law.go:140 pick
  refine Runs_p rfl (Valid.movek (A := Is _) rfl rfl) rfl rfl ?_ -- law.go:140 move
  refine Runs_cnd rfl rfl (Grd.is rfl) [] (fun hg => trivial) (fun hg => Valid.movek (A := Is _) rfl rfl) (by rfl) rfl ?_
  refine Runs_cnd rfl rfl (Grd.is rfl) [] (fun hg => trivial) (fun hg => Valid.movek (A := Is _) rfl rfl) (by rfl) rfl ?_
  refine Runs_cnd rfl rfl (Grd.is rfl) [(53, _), (54, _)] (fun hg => ⟨cnd_at rfl (by first | exact hg | exact hg.1 | exact hg.1.1 | exact hg.1.1.1), cnd_at rfl (by first | exact hg | exact hg.1 | exact hg.1.1 | exact hg.1.1.1), trivial⟩) (fun hg => Valid.call rfl (cut_s _ _ (by (try simp only [decide_eq_true_eq, Bool.and_eq_true] at hg); omega) (by (try simp only [decide_eq_true_eq, Bool.and_eq_true] at hg); omega)) ⟨argle rfl, argle rfl, trivial⟩) (by rfl) rfl ?_
  refine Runs_cnd rfl rfl (Grd.is rfl) [] (fun hg => trivial) (fun hg => Valid.movek (A := Is _) rfl rfl) (by rfl) rfl ?_
  refine Runs_cnd rfl rfl (Grd.is rfl) [] (fun hg => trivial) (fun hg => Valid.movek (A := Is _) rfl rfl) (by rfl) rfl ?_
  refine Runs_cnd rfl rfl (Grd.is rfl) [(57, _)] (fun hg => ⟨cnd_at rfl (by first | exact hg | exact hg.1 | exact hg.1.1 | exact hg.1.1.1), trivial⟩) (fun hg => Valid.slen rfl Try.underlying9 rfl) (by rfl) rfl ?_
  refine Runs_cnd rfl rfl (Grd.is rfl) [(56, _), (58, _)] (fun hg => ⟨cnd_at rfl (by first | exact hg | exact hg.1 | exact hg.1.1 | exact hg.1.1.1), cnd_at rfl (by first | exact hg | exact hg.1 | exact hg.1.1 | exact hg.1.1.1), trivial⟩) (fun hg => Valid.min rfl rfl rfl) (by rfl) rfl ?_
  refine Runs_cnd rfl rfl (Grd.is rfl) [(55, _), (59, _)] (fun hg => ⟨cnd_at rfl (by first | exact hg | exact hg.1 | exact hg.1.1 | exact hg.1.1.1), cnd_at rfl (by first | exact hg | exact hg.1 | exact hg.1.1 | exact hg.1.1.1), trivial⟩) (fun hg => Valid.eql rfl rfl rfl) (by rfl) rfl ?_
  refine Runs_p rfl (Valid.pickand rfl rfl rfl (fun h => by first | exact h | exact ⟨hg, h⟩) rfl) rfl rfl ?_ -- law.go:140 pick
  refine Runs_p rfl (Valid.movek (A := Is _) rfl rfl) rfl rfl ?_ -- law.go:140 move
  refine Runs_cnd rfl rfl (Grd.is rfl) [] (fun hg => trivial) (fun hg => Valid.movek (A := Is _) rfl rfl) (by rfl) rfl ?_
  refine Runs_cnd rfl rfl (Grd.is rfl) [] (fun hg => trivial) (fun hg => Valid.movek (A := Is _) rfl rfl) (by rfl) rfl ?_
  refine Runs_cnd rfl rfl (Grd.is rfl) [(63, _), (64, _)] (fun hg => ⟨cnd_at rfl (by first | exact hg | exact hg.1 | exact hg.1.1 | exact hg.1.1.1), cnd_at rfl (by first | exact hg | exact hg.1 | exact hg.1.1 | exact hg.1.1.1), trivial⟩) (fun hg => Valid.lss rfl rfl rfl) (by rfl) rfl ?_
  refine Runs_cnd rfl rfl (Grd.is rfl) [(65, _)] (fun hg => ⟨cnd_at rfl (by first | exact hg | exact hg.1 | exact hg.1.1 | exact hg.1.1.1), trivial⟩) (fun hg => Valid.movek (A := Is _) rfl rfl) (by rfl) rfl ?_
  refine Runs_cnd rfl rfl (Grd.cnd rfl) [] (fun hg => trivial) (fun hg => Valid.movek (A := Is _) rfl rfl) (by rfl) rfl ?_
  refine Runs_cnd rfl rfl (Grd.cnd rfl) [] (fun hg => trivial) (fun hg => Valid.movek (A := Is _) rfl rfl) (by rfl) rfl ?_
  refine Runs_cnd rfl rfl (Grd.cnd rfl) [] (fun hg => trivial) (fun hg => Valid.movek (A := Is _) rfl rfl) (by rfl) rfl ?_
  refine Runs_cnd rfl rfl (Grd.cnd rfl) [(68, _), (69, _)] (fun hg => ⟨cnd_at rfl (by first | exact hg | exact hg.1 | exact hg.1.1 | exact hg.1.1.1), cnd_at rfl (by first | exact hg | exact hg.1 | exact hg.1.1 | exact hg.1.1.1), trivial⟩) (fun hg => Valid.cat rfl rfl rfl (by (try simp only [decide_eq_true_eq, decide_eq_false_iff_not, Bool.and_eq_true] at hg); first | omega | (simp only [ByteArray.size_append, ByteArray.size_extract]; omega) | (simp only [maxLen]; omega))) (by rfl) rfl ?_
  refine Runs_cnd rfl rfl (Grd.cnd rfl) [(70, _)] (fun hg => ⟨cnd_at rfl (by first | exact hg | exact hg.1 | exact hg.1.1 | exact hg.1.1.1), trivial⟩) (fun hg => Valid.slen rfl Try.underlying9 rfl) (by rfl) rfl ?_
  refine Runs_cnd rfl rfl (Grd.cnd rfl) [(67, _), (71, _)] (fun hg => ⟨cnd_at rfl (by first | exact hg | exact hg.1 | exact hg.1.1 | exact hg.1.1.1), cnd_at rfl (by first | exact hg | exact hg.1 | exact hg.1.1 | exact hg.1.1.1), trivial⟩) (fun hg => Valid.eql rfl rfl rfl) (by rfl) rfl ?_
  refine Runs_cnd rfl rfl (Grd.is rfl) [(66, _)] (fun hg => ⟨cnd_at rfl (by first | exact hg | exact hg.1 | exact hg.1.1 | exact hg.1.1.1), trivial⟩) (fun hg => Valid.pickor rfl rfl rfl rfl (fun h => by first | exact h | exact ⟨hg, h⟩)) (by rfl) rfl ?_
  refine Runs_p rfl (Valid.pickand rfl rfl rfl (fun h => by first | exact h | exact ⟨hg, h⟩) rfl) rfl rfl ?_ -- law.go:140 pick
  refine Runs_p rfl (Valid.assignk (A := Is _) rfl rfl) rfl rfl ?_ -- law.go:140 assign
  refine Runs_nil ?_
  refine thenQ_n ?_
  refine W_ret ?_
  refine finQ_r ?_
  refine ResOk.one rfl (RVal.is rfl rfl (by have h1 := hS.c1; have h2 := hS.c2; have h3 := hS.c3; have h4 := hS.c4; have h5 := hS.c5; rw [decide_eq_true h1, decide_eq_true h2, decide_eq_true h3, decide_eq_true h4]; rcases h5 with h5 | h5; (rw [decide_eq_true h5]; rfl); (rw [decide_eq_true h5]; simp)))

theorem ba_to (m : List UInt8) (k : Nat) : (ba m).extract 0 k = ba (m.take k) := by
  apply ByteArray.ext
  simp [ba, ByteArray.data_extract]
theorem ba_from (m : List UInt8) (k : Nat) : (ba m).extract k (ba m).size = ba (m.drop k) := by
  apply ByteArray.ext
  simp [ba, ByteArray.data_extract, ByteArray.size]
  exact List.take_of_length_le (by simp)
theorem cut_out (l : List UInt8) (p k : Nat) : ba (l.take p) ++ (ba (l.drop p)).extract 0 ((k : Int)).toNat = ba (l.take (p + k)) := by
  rw [Int.toNat_natCast, ba_to, ba_app, List.take_add]
theorem cut_rest (l : List UInt8) (p k : Nat) : (ba (l.drop p)).extract ((k : Int)).toNat (ba (l.drop p)).size = ba (l.drop (p + k)) := by
  rw [Int.toNat_natCast, ba_from, List.drop_drop]
structure CutF (m : List UInt8) (r : Int) (k : Nat) : Prop where
  e : cutV (ba m) r = (k : Int)
  k1 : 1 ≤ k
  k2 : k ≤ m.length
  k3 : (lenV (ba (m.take k)) : Int) ≤ r
  k4 : k < m.length → r < (lenV (ba (m.take (k + 1))) : Int)
  k5 : (k : Int) ≤ cutV (ba m) (r + 1)
theorem cutFx {m : List UInt8} {r : Int} (hr : 4 ≤ r) (hm : m ≠ []) : ∃ k, CutF m r k := by
  obtain ⟨k, e, k1, k2, k3⟩ := cut_spec m r (by omega)
  have hp := rn_pos hm
  have h1 : lenL (m.take 1) = 1 := by rw [lenL_take, if_pos hp.1]; rfl
  refine ⟨k, e, ?_, k1, k2, k3, ?_⟩
  · apply Classical.byContradiction
    intro h
    have := k3 (by have := len_of_ne hm; omega)
    rw [show k + 1 = 1 by omega, h1] at this; omega
  · obtain ⟨j, e2, j1, j2, j3⟩ := cut_spec m (r + 1) (by omega)
    show (k : Int) ≤ cutF (pcs m) (r + 1)
    rw [e2]
    apply Classical.byContradiction
    intro h
    have := j3 (by omega)
    have h2 := len_mono m (j + 1) k (by omega)
    omega
theorem cut_done {l : List UInt8} {i p : Nat} (h1 : i ≤ p) (h2 : p ≤ l.length) (h3 : l.length ≤ 600) (hb : ¬ (i : Int) < 700 ∨ ¬ ¬ ba (l.drop p) = ⟨#[]⟩) : p = l.length := by
  rcases hb with h | h
  · omega
  · have h4 := ba_inj (show ba (l.drop p) = ba [] from Classical.not_not.1 h)
    have := List.drop_eq_nil_iff.1 h4
    omega
structure EndF (l : List UInt8) (r : Int) : Prop where
  c0 : cutV (ba l) 0 = 0
  c1 : cutV (ba l) (0 - r) = 0
  c2 : cutV (ba l) 800 = ((ba l).size : Int)
theorem endF {l : List UInt8} {r : Int} (hr : 4 ≤ r) (hl : l.length ≤ 600) : EndF l r := by
  refine ⟨?_, cut_neg (by omega), cut_all (l := l) ?_⟩
  · show cutF (pcs l) 0 = ((0 : Nat) : Int)
    refine cut_uniq (k := 0) (Int.le_refl 0) (Nat.zero_le _) (by rw [List.take_zero]; decide) (fun h => ?_)
    have hm : l ≠ [] := ne_nil_of h
    have hp := rn_pos hm
    rw [lenL_take, if_pos (by omega)]; decide
  · have := len_hi l
    omega

set_option maxRecDepth 100000 in
set_option maxHeartbeats 1000000 in
theorem cut_law (raw : List (Int × Int)) (hraw : in2 raw) (lraw : raw.length ≤ 9223372036854775807) (n0 : Int) (hn0 : -9223372036854775808 ≤ n0 ∧ n0 ≤ 9223372036854775807) :
    FPure Try.prog 6 [Sl 2 raw.length (prs raw), Is (.int .i64 n0)] (Is (.bool true)) := by
  refine FPure.of Try.func6 Try.ntmps6 rfl (by kernel_rfl) rfl rfl rfl ?_
  refine W_seq ?_
  refine W_regionE (c := 1) (c' := 2) (by kernel_rfl) rfl ?_
  refine Runs_p rfl (Valid.assignk (A := Is _) rfl rfl) rfl rfl ?_ -- law.go:97 assign
  refine Runs_nil ?_
  refine thenQ_n ?_
  refine W_seq ?_
  refine W_regionE (c := 2) (c' := 4) (by kernel_rfl) rfl ?_
  refine Runs_p rfl (Valid.call rfl (awake4_s) trivial) rfl rfl ?_ -- law.go:98 call
  refine Runs_p rfl (Valid.assignk (A := Is _) rfl rfl) rfl rfl ?_ -- law.go:98 assign
  refine Runs_nil ?_
  refine thenQ_n ?_
  refine W_seq ?_
  refine W_regionE (c := 4) (c' := 7) (by kernel_rfl) rfl ?_
  refine Runs_p rfl (Valid.movek (A := Sl 2 _ _) rfl rfl) rfl rfl ?_ -- law.go:99 move
  refine Runs_p rfl (Valid.call rfl (runs_s raw hraw lraw 600 (by decide)) ⟨argle_sl (Reads.sl rfl), argle rfl, trivial⟩) rfl rfl ?_ -- law.go:99 call
  refine Runs_p rfl (Valid.assignk (A := Is _) rfl rfl) rfl rfl ?_ -- law.go:99 assign
  refine Runs_nil ?_
  refine thenQ_n ?_
  refine W_seq ?_
  have hlz : (runsL raw 600).length ≤ 600 := runs_le raw 600 _
  generalize runsL raw 600 = l at *
  have hp6 := pickV_range n0 60 (by decide)
  have hbz : (ba l).size = l.length := rfl
  refine W_regionE (c := 7) (c' := 11) (by kernel_rfl) rfl ?_
  refine Runs_p rfl (Valid.movek (A := Is _) rfl rfl) rfl rfl ?_ -- law.go:100 move
  refine Runs_p rfl (Valid.call rfl (pick4_s _ _ (by omega) (by omega) (by omega) (by omega)) ⟨argle rfl, argle rfl, trivial⟩) rfl rfl ?_ -- law.go:100 call
  refine Runs_p rfl (Valid.add rfl rfl rfl (room64 (by first | omega | (simp only [Int.toNat_natCast, toNat_add, toNat_add1, List.length_append, List.length_cons, List.length_nil, List.length_replicate]; omega)) (by first | omega | (simp only [Int.toNat_natCast, toNat_add, toNat_add1, List.length_append, List.length_cons, List.length_nil, List.length_replicate]; omega)))) rfl rfl ?_ -- law.go:100 binOp
  refine Runs_p rfl (Valid.assignk (A := Is _) rfl rfl) rfl rfl ?_ -- law.go:100 assign
  refine Runs_nil ?_
  refine thenQ_n ?_
  refine W_seq ?_
  refine W_regionE (c := 11) (c' := 12) (by kernel_rfl) rfl ?_
  refine Runs_p rfl (Valid.assignk (A := Is _) rfl rfl) rfl rfl ?_ -- law.go:101 assign
  refine Runs_nil ?_
  refine thenQ_n ?_
  refine W_seq ?_
  refine W_regionE (c := 12) (c' := 14) (by kernel_rfl) rfl ?_
  refine Runs_p rfl (Valid.movek (A := Is _) rfl rfl) rfl rfl ?_ -- law.go:102 move
  refine Runs_p rfl (Valid.assignk (A := Is _) rfl rfl) rfl rfl ?_ -- law.go:102 assign
  refine Runs_nil ?_
  refine thenQ_n ?_
  refine W_seq ?_
  refine W_seq ?_
  refine W_regionE (c := 14) (c' := 15) (by kernel_rfl) rfl ?_
  refine Runs_p rfl (Valid.assignk (A := Is _) rfl rfl) rfl rfl ?_ -- law.go:103 assign
  refine Runs_nil ?_
  refine thenQ_n ?_
  refine W_block ?_
  refine W_loopx (G := Nat × Nat) (fun (g : Nat × Nat) => g.1 ≤ g.2 ∧ g.2 ≤ l.length) [(5, Is _), (6, Is _), (7, Is _)] (fun (g : Nat × Nat) => [(10, Is (.int .i64 (g.1 : Int))), (8, Is (.string (ba (l.take g.2)))), (9, Is (.string (ba (l.drop g.2))))]) [] (fun (g : Nat × Nat) => []) 15 (fun (g : Nat × Nat) => l.length - g.2) ((0, 0)) [] (⟨Nat.le_refl _, Nat.zero_le _⟩) ⟨⟨(leq_is rfl rfl (by first | rfl)), (leq_is rfl rfl (by first | rfl)), (leq_is rfl rfl (by first | rfl)), trivial⟩, ⟨(leq_is rfl rfl rfl), (leq_is rfl rfl rfl), (leq_is rfl rfl rfl), trivial⟩, trivial, trivial, rfl, ⟨supg rfl, supg rfl, supg rfl, trivial⟩, ⟨supg rfl, supg rfl, supg rfl, trivial⟩, trivial, trivial, rfl, rfl⟩ ?_
  intro g hI1
  obtain ⟨i, p⟩ := g
  obtain ⟨hi1, hi2⟩ := hI1
  simp only at hi1 hi2 ⊢
  refine W_seq ?_
  refine W_seq ?_
  refine W_regionE (c := 15) (c' := 21) (by kernel_rfl) rfl ?_
  refine Runs_p rfl (Valid.movek (A := Is _) rfl rfl) rfl rfl ?_ -- law.go:103 move
  refine Runs_p rfl (Valid.lss rfl rfl rfl) rfl rfl ?_ -- law.go:103 binOp
  refine Runs_p rfl (Valid.movek (A := Is _) rfl rfl) rfl rfl ?_ -- law.go:103 move
  refine Runs_cnd rfl rfl (Grd.is rfl) [] (fun hg => trivial) (fun hg => Valid.movek (A := Is _) rfl rfl) (by rfl) rfl ?_
  refine Runs_cnd rfl rfl (Grd.is rfl) [(24, _)] (fun hg => ⟨cnd_at rfl (by first | exact hg | exact hg.1 | exact hg.1.1 | exact hg.1.1.1), trivial⟩) (fun hg => Valid.sneq rfl rfl rfl) (by rfl) rfl ?_
  refine Runs_p rfl (Valid.pickand rfl rfl rfl (fun h => by first | exact h | exact ⟨hg, h⟩) rfl) rfl rfl ?_ -- law.go:103 pick
  refine Runs_nil ?_
  refine thenQ_n ?_
  refine W_cond _ rfl (fun hb1 => ?_) (fun hb1 => ?_)
  · try simp only [decide_eq_true_eq, Bool.and_eq_true, ne_eq] at hb1
    all_goals (
      refine W_skip ?_
      refine thenQ_n ?_
      refine W_seq ?_
      refine W_block ?_
      refine W_seq ?_
      have hmz : (ba (l.drop p)).size = l.length - p := by rw [ba_size, List.length_drop]
      have hml : (l.drop p).length = l.length - p := List.length_drop
      have hne : l.drop p ≠ [] := fun e => hb1.2 (by rw [e]; rfl)
      obtain ⟨k, hk⟩ := cutFx (m := l.drop p) (r := (4 + pickV n0 60)) (by omega) hne
      have hke := hk.e
      have hk1 := hk.k1
      have hk2 := hk.k2
      have hk3 := hk.k3
      have hk4 := hk.k4
      have hk5 := hk.k5
      refine W_regionE (c := 21) (c' := 25) (by kernel_rfl) rfl ?_
      refine Runs_p rfl (Valid.movek (A := Is _) rfl rfl) rfl rfl ?_ -- law.go:104 move
      refine Runs_p rfl (Valid.movek (A := Is _) rfl rfl) rfl rfl ?_ -- law.go:104 move
      refine Runs_p rfl (Valid.call rfl (cut_s _ _ (by omega) (by omega)) ⟨argle rfl, argle rfl, trivial⟩) rfl rfl ?_ -- law.go:104 call
      refine Runs_p rfl (Valid.assignk (A := Is _) rfl rfl) rfl rfl ?_ -- law.go:104 assign
      refine Runs_nil ?_
      refine thenQ_n ?_
      refine W_seq ?_
      refine W_seq ?_
      rw [hke]
      have hz1 : ((ba (l.drop p)).extract 0 ((k : Int)).toNat).size = k := by rw [ByteArray.size_extract, hmz]; omega
      have hz2 : k < l.length - p → ((ba (l.drop p)).extract 0 ((k : Int) + 1).toNat).size = k + 1 := fun h => by rw [ByteArray.size_extract, hmz]; omega
      have hx1 : (ba (l.drop p)).extract 0 ((k : Int)).toNat = ba ((l.drop p).take k) := ba_to _ _
      have hx2 : (ba (l.drop p)).extract 0 ((k : Int) + 1).toNat = ba ((l.drop p).take (k + 1)) := ba_to _ _
      refine W_regionE (c := 25) (c' := 64) (by kernel_rfl) rfl ?_
      refine Runs_p rfl (Valid.movek (A := Is _) rfl rfl) rfl rfl ?_ -- law.go:105 move
      refine Runs_p rfl (Valid.lss rfl rfl rfl) rfl rfl ?_ -- law.go:105 binOp
      refine Runs_p rfl (Valid.movek (A := Is _) rfl rfl) rfl rfl ?_ -- law.go:105 move
      refine Runs_cnd rfl rfl (Grd.is rfl) [] (fun hg => trivial) (fun hg => Valid.movek (A := Is _) rfl rfl) (by rfl) rfl ?_
      refine Runs_cnd rfl rfl (Grd.is rfl) [] (fun hg => trivial) (fun hg => Valid.movek (A := Is _) rfl rfl) (by rfl) rfl ?_
      refine Runs_cnd rfl rfl (Grd.is rfl) [(36, _)] (fun hg => ⟨cnd_at rfl (by first | exact hg | exact hg.1 | exact hg.1.1 | exact hg.1.1.1), trivial⟩) (fun hg => Valid.slen rfl Try.underlying9 rfl) (by rfl) rfl ?_
      refine Runs_cnd rfl rfl (Grd.is rfl) [(35, _), (37, _)] (fun hg => ⟨cnd_at rfl (by first | exact hg | exact hg.1 | exact hg.1.1 | exact hg.1.1.1), cnd_at rfl (by first | exact hg | exact hg.1 | exact hg.1.1 | exact hg.1.1.1), trivial⟩) (fun hg => Valid.gtr rfl rfl rfl) (by rfl) rfl ?_
      refine Runs_p rfl (Valid.pickor rfl rfl rfl rfl (fun h => by first | exact h | exact ⟨hg, h⟩)) rfl rfl ?_ -- law.go:105 pick
      refine Runs_p rfl (Valid.movek (A := Is _) rfl rfl) rfl rfl ?_ -- law.go:105 move
      refine Runs_cnd rfl rfl (Grd.is rfl) [] (fun hg => trivial) (fun hg => Valid.movek (A := Is _) rfl rfl) (by rfl) rfl ?_
      refine Runs_cnd rfl rfl (Grd.is rfl) [] (fun hg => trivial) (fun hg => Valid.movek (A := Is _) rfl rfl) (by rfl) rfl ?_
      refine Runs_cnd rfl rfl (Grd.is rfl) [(41, _), (42, _)] (fun hg => ⟨cnd_at rfl (by first | exact hg | exact hg.1 | exact hg.1.1 | exact hg.1.1.1), cnd_at rfl (by first | exact hg | exact hg.1 | exact hg.1.1 | exact hg.1.1.1), trivial⟩) (fun hg => Valid.ssliceto rfl Try.underlying9 rfl rfl (by (try simp only [decide_eq_false_iff_not, Bool.or_eq_false_iff] at hg); first | omega | (simp only [Int.toNat_natCast, toNat_add, toNat_add1, List.length_append, List.length_cons, List.length_nil, List.length_replicate]; omega))) (by rfl) rfl ?_
      refine Runs_cnd rfl rfl (Grd.is rfl) [(43, _)] (fun hg => ⟨cnd_at rfl (by first | exact hg | exact hg.1 | exact hg.1.1 | exact hg.1.1.1), trivial⟩) (fun hg => Valid.call rfl (len_s _ (by (try simp only [decide_eq_false_iff_not, Bool.or_eq_false_iff] at hg); omega)) ⟨argle rfl, trivial⟩) (by rfl) rfl ?_
      refine Runs_cnd rfl rfl (Grd.is rfl) [] (fun hg => trivial) (fun hg => Valid.movek (A := Is _) rfl rfl) (by rfl) rfl ?_
      refine Runs_cnd rfl rfl (Grd.is rfl) [(44, _), (45, _)] (fun hg => ⟨cnd_at rfl (by first | exact hg | exact hg.1 | exact hg.1.1 | exact hg.1.1.1), cnd_at rfl (by first | exact hg | exact hg.1 | exact hg.1.1 | exact hg.1.1.1), trivial⟩) (fun hg => Valid.gtr rfl rfl rfl) (by rfl) rfl ?_
      refine Runs_p rfl (Valid.pickor rfl rfl rfl rfl (fun h => by first | exact h | exact ⟨hg, h⟩)) rfl rfl ?_ -- law.go:105 pick
      refine Runs_p rfl (Valid.movek (A := Is _) rfl rfl) rfl rfl ?_ -- law.go:105 move
      refine Runs_cnd rfl rfl (Grd.is rfl) [] (fun hg => trivial) (fun hg => Valid.movek (A := Is _) rfl rfl) (by rfl) rfl ?_
      refine Runs_cnd rfl rfl (Grd.is rfl) [] (fun hg => trivial) (fun hg => Valid.movek (A := Is _) rfl rfl) (by rfl) rfl ?_
      refine Runs_cnd rfl rfl (Grd.is rfl) [(50, _)] (fun hg => ⟨cnd_at rfl (by first | exact hg | exact hg.1 | exact hg.1.1 | exact hg.1.1.1), trivial⟩) (fun hg => Valid.slen rfl Try.underlying9 rfl) (by rfl) rfl ?_
      refine Runs_cnd rfl rfl (Grd.is rfl) [(49, _), (51, _)] (fun hg => ⟨cnd_at rfl (by first | exact hg | exact hg.1 | exact hg.1.1 | exact hg.1.1.1), cnd_at rfl (by first | exact hg | exact hg.1 | exact hg.1.1 | exact hg.1.1.1), trivial⟩) (fun hg => Valid.lss rfl rfl rfl) (by rfl) rfl ?_
      refine Runs_cnd rfl rfl (Grd.is rfl) [(52, _)] (fun hg => ⟨cnd_at rfl (by first | exact hg | exact hg.1 | exact hg.1.1 | exact hg.1.1.1), trivial⟩) (fun hg => Valid.movek (A := Is _) rfl rfl) (by rfl) rfl ?_
      refine Runs_cnd rfl rfl (Grd.cnd rfl) [] (fun hg => trivial) (fun hg => Valid.movek (A := Is _) rfl rfl) (by rfl) rfl ?_
      refine Runs_cnd rfl rfl (Grd.cnd rfl) [] (fun hg => trivial) (fun hg => Valid.movek (A := Is _) rfl rfl) (by rfl) rfl ?_
      refine Runs_cnd rfl rfl (Grd.cnd rfl) [(55, _)] (fun hg => ⟨cnd_at rfl (by first | exact hg | exact hg.1 | exact hg.1.1 | exact hg.1.1.1), trivial⟩) (fun hg => Valid.add rfl rfl rfl (room64 (by (try simp only [Int.toNat_natCast, decide_eq_true_eq, decide_eq_false_iff_not, Bool.or_eq_false_iff] at hg); first | omega | (simp only [Int.toNat_natCast, toNat_add, toNat_add1, List.length_append, List.length_cons, List.length_nil, List.length_replicate]; omega)) (by (try simp only [Int.toNat_natCast, decide_eq_true_eq, decide_eq_false_iff_not, Bool.or_eq_false_iff] at hg); first | omega | (simp only [Int.toNat_natCast, toNat_add, toNat_add1, List.length_append, List.length_cons, List.length_nil, List.length_replicate]; omega)))) (by rfl) rfl ?_
      refine Runs_cnd rfl rfl (Grd.cnd rfl) [(54, _), (56, _)] (fun hg => ⟨cnd_at rfl (by first | exact hg | exact hg.1 | exact hg.1.1 | exact hg.1.1.1), cnd_at rfl (by first | exact hg | exact hg.1 | exact hg.1.1 | exact hg.1.1.1), trivial⟩) (fun hg => Valid.ssliceto rfl Try.underlying9 rfl rfl (by (try simp only [Int.toNat_natCast, decide_eq_true_eq, decide_eq_false_iff_not, Bool.or_eq_false_iff] at hg); first | omega | (simp only [Int.toNat_natCast, toNat_add, toNat_add1, List.length_append, List.length_cons, List.length_nil, List.length_replicate]; omega))) (by rfl) rfl ?_
      refine Runs_cnd rfl rfl (Grd.cnd rfl) [(57, _)] (fun hg => ⟨cnd_at rfl (by first | exact hg | exact hg.1 | exact hg.1.1 | exact hg.1.1.1), trivial⟩) (fun hg => Valid.call rfl (len_s _ (by (try simp only [Int.toNat_natCast, decide_eq_true_eq, decide_eq_false_iff_not, Bool.or_eq_false_iff] at hg); omega)) ⟨argle rfl, trivial⟩) (by rfl) rfl ?_
      refine Runs_cnd rfl rfl (Grd.cnd rfl) [] (fun hg => trivial) (fun hg => Valid.movek (A := Is _) rfl rfl) (by rfl) rfl ?_
      refine Runs_cnd rfl rfl (Grd.cnd rfl) [(58, _), (59, _)] (fun hg => ⟨cnd_at rfl (by first | exact hg | exact hg.1 | exact hg.1.1 | exact hg.1.1.1), cnd_at rfl (by first | exact hg | exact hg.1 | exact hg.1.1 | exact hg.1.1.1), trivial⟩) (fun hg => Valid.leq rfl rfl rfl) (by rfl) rfl ?_
      refine Runs_cnd rfl rfl (Grd.is rfl) [(53, _)] (fun hg => ⟨cnd_at rfl (by first | exact hg | exact hg.1 | exact hg.1.1 | exact hg.1.1.1), trivial⟩) (fun hg => Valid.pickand rfl rfl rfl (fun h => by first | exact h | exact ⟨hg, h⟩) rfl) (by rfl) rfl ?_
      refine Runs_p rfl (Valid.pickor rfl rfl rfl rfl (fun h => by first | exact h | exact ⟨hg, h⟩)) rfl rfl ?_ -- law.go:105 pick
      refine Runs_p rfl (Valid.movek (A := Is _) rfl rfl) rfl rfl ?_ -- law.go:105 move
      refine Runs_cnd rfl rfl (Grd.is rfl) [] (fun hg => trivial) (fun hg => Valid.movek (A := Is _) rfl rfl) (by rfl) rfl ?_
      refine Runs_cnd rfl rfl (Grd.is rfl) [] (fun hg => trivial) (fun hg => Valid.movek (A := Is _) rfl rfl) (by rfl) rfl ?_
      refine Runs_cnd rfl rfl (Grd.is rfl) [(65, _)] (fun hg => ⟨cnd_at rfl (by first | exact hg | exact hg.1 | exact hg.1.1 | exact hg.1.1.1), trivial⟩) (fun hg => Valid.add rfl rfl rfl (room64 (by (try simp only [Int.toNat_natCast, toNat_add1, decide_eq_false_iff_not, Bool.and_eq_false_iff, Bool.or_eq_false_iff] at hg); first | omega | (simp only [Int.toNat_natCast, toNat_add, toNat_add1, List.length_append, List.length_cons, List.length_nil, List.length_replicate]; omega)) (by (try simp only [Int.toNat_natCast, toNat_add1, decide_eq_false_iff_not, Bool.and_eq_false_iff, Bool.or_eq_false_iff] at hg); first | omega | (simp only [Int.toNat_natCast, toNat_add, toNat_add1, List.length_append, List.length_cons, List.length_nil, List.length_replicate]; omega)))) (by rfl) rfl ?_
      refine Runs_cnd rfl rfl (Grd.is rfl) [(64, _), (66, _)] (fun hg => ⟨cnd_at rfl (by first | exact hg | exact hg.1 | exact hg.1.1 | exact hg.1.1.1), cnd_at rfl (by first | exact hg | exact hg.1 | exact hg.1.1 | exact hg.1.1.1), trivial⟩) (fun hg => Valid.call rfl (cut_s _ _ (by (try simp only [Int.toNat_natCast, toNat_add1, decide_eq_false_iff_not, Bool.and_eq_false_iff, Bool.or_eq_false_iff] at hg); omega) (by (try simp only [Int.toNat_natCast, toNat_add1, decide_eq_false_iff_not, Bool.and_eq_false_iff, Bool.or_eq_false_iff] at hg); omega)) ⟨argle rfl, argle rfl, trivial⟩) (by rfl) rfl ?_
      refine Runs_cnd rfl rfl (Grd.is rfl) [] (fun hg => trivial) (fun hg => Valid.movek (A := Is _) rfl rfl) (by rfl) rfl ?_
      refine Runs_cnd rfl rfl (Grd.is rfl) [(67, _), (68, _)] (fun hg => ⟨cnd_at rfl (by first | exact hg | exact hg.1 | exact hg.1.1 | exact hg.1.1.1), cnd_at rfl (by first | exact hg | exact hg.1 | exact hg.1.1 | exact hg.1.1.1), trivial⟩) (fun hg => Valid.lss rfl rfl rfl) (by rfl) rfl ?_
      refine Runs_p rfl (Valid.pickor rfl rfl rfl rfl (fun h => by first | exact h | exact ⟨hg, h⟩)) rfl rfl ?_ -- law.go:105 pick
      refine Runs_nil ?_
      refine thenQ_n ?_
      refine W_cond _ rfl (fun hb2 => ?_) (fun hb2 => ?_)
      · try simp only [Int.toNat_natCast, toNat_add1, decide_eq_true_eq, Bool.and_eq_true, Bool.or_eq_true] at hb2
        all_goals (
          exfalso
          have hx3 : (ba (l.drop p)).extract 0 k = ba ((l.drop p).take k) := ba_to _ _
          have hx4 : (ba (l.drop p)).extract 0 (k + 1) = ba ((l.drop p).take (k + 1)) := ba_to _ _
          rw [hx3, hx4, hmz] at hb2
          rw [hml] at hk2 hk4
          omega
          
          done)
      · try simp only [Int.toNat_natCast, toNat_add1, decide_eq_false_iff_not, Bool.and_eq_false_iff, Bool.or_eq_false_iff] at hb2
        all_goals (
          refine W_skip ?_
          refine thenQ_n ?_
          refine W_seq ?_
          refine W_regionE (c := 64) (c' := 75) (by kernel_rfl) rfl ?_
          refine Runs_p rfl (Valid.movek (A := Is _) rfl rfl) rfl rfl ?_ -- law.go:108 move
          refine Runs_p rfl (Valid.movek (A := Is _) rfl rfl) rfl rfl ?_ -- law.go:108 move
          refine Runs_p rfl (Valid.ssliceto rfl Try.underlying9 rfl rfl (by first | omega | (simp only [Int.toNat_natCast, toNat_add, toNat_add1, List.length_append, List.length_cons, List.length_nil, List.length_replicate]; omega))) rfl rfl ?_ -- law.go:108 slice
          refine Runs_p rfl (Valid.call rfl (pack_s _ (by omega)) ⟨argle rfl, trivial⟩) rfl rfl ?_ -- law.go:108 call
          refine Runs_p rfl (Valid.movek (A := Is _) rfl rfl) rfl rfl ?_ -- law.go:108 move
          refine Runs_p rfl (Valid.call rfl (unp_ok (by rw [hz1]; omega) (by rw [hz1]; omega)) ⟨argle rfl, argle rfl, trivial⟩) rfl rfl ?_ -- law.go:108 call
          refine Runs_p rfl (Valid.movek (A := Tup [Is _, Is _]) rfl rfl) rfl rfl ?_ -- law.go:108 move
          refine Runs_p rfl (Valid.extract _ rfl rfl rfl) rfl rfl ?_ -- law.go:108 extract
          refine Runs_p rfl (Valid.extract _ rfl rfl rfl) rfl rfl ?_ -- law.go:108 extract
          refine Runs_p rfl (Valid.assignk (A := Is _) rfl rfl) rfl rfl ?_ -- law.go:108 assign
          refine Runs_p rfl (Valid.assignk (A := Is _) rfl rfl) rfl rfl ?_ -- law.go:108 assign
          refine Runs_nil ?_
          refine thenQ_n ?_
          refine W_seq ?_
          refine W_seq ?_
          refine W_regionE (c := 75) (c' := 77) (by kernel_rfl) rfl ?_
          refine Runs_p rfl (Valid.movek (A := Is _) rfl rfl) rfl rfl ?_ -- law.go:109 move
          refine Runs_p rfl (Valid.neq rfl rfl rfl) rfl rfl ?_ -- law.go:109 binOp
          refine Runs_nil ?_
          refine thenQ_n ?_
          refine W_cond _ rfl (fun hb3 => ?_) (fun hb3 => ?_)
          · try simp only [decide_eq_true_eq, not_true_eq_false, ne_eq] at hb3
            all_goals (
              refine W_seq ?_
              refine W_regionE (c := 77) (c' := 78) (by kernel_rfl) rfl ?_
              refine Runs_p rfl (Valid.assignk (A := Is _) rfl rfl) rfl rfl ?_ -- law.go:110 assign
              refine Runs_nil ?_
              refine thenQ_n ?_
              refine W_ret ?_
              refine thenQ_r ?_
              refine blockQ_r ?_
              refine thenQ_r ?_
              refine loopQ_r ?_
              refine blockQ_r ?_
              refine thenQ_r ?_
              refine finQ_r ?_
              refine ResOk.one rfl (RVal.is rfl rfl (by rw [cut_done hi1 hi2 hlz hb1, List.take_length, decide_eq_true (endF (l := l) (r := (4 + pickV n0 60)) (by omega) hlz).c0, decide_eq_true (endF (l := l) (r := (4 + pickV n0 60)) (by omega) hlz).c1, decide_eq_true (endF (l := l) (r := (4 + pickV n0 60)) (by omega) hlz).c2, decide_eq_true (rfl : ba l = ba l)]; rfl))
              done)
          · try simp only [decide_eq_false_iff_not, not_true_eq_false, not_false_eq_true, ne_eq] at hb3
            all_goals (
              refine W_skip ?_
              refine thenQ_n ?_
              refine W_seq ?_
              refine W_regionE (c := 77) (c' := 81) (by kernel_rfl) rfl ?_
              refine Runs_p rfl (Valid.movek (A := Is _) rfl rfl) rfl rfl ?_ -- law.go:112 move
              refine Runs_p rfl (Valid.movek (A := Is _) rfl rfl) rfl rfl ?_ -- law.go:112 move
              refine Runs_p rfl (Valid.cat rfl rfl rfl (by rw [hz1, ba_size, List.length_take]; omega)) rfl rfl ?_ -- law.go:112 binOp
              refine Runs_p rfl (Valid.assignk (A := Is _) rfl rfl) rfl rfl ?_ -- law.go:112 assign
              refine Runs_nil ?_
              refine thenQ_n ?_
              refine W_regionE (c := 81) (c' := 85) (by kernel_rfl) rfl ?_
              refine Runs_p rfl (Valid.movek (A := Is _) rfl rfl) rfl rfl ?_ -- law.go:113 move
              refine Runs_p rfl (Valid.movek (A := Is _) rfl rfl) rfl rfl ?_ -- law.go:113 move
              refine Runs_p rfl (Valid.sslicefrom rfl Try.underlying9 rfl rfl (by first | omega | (simp only [Int.toNat_natCast, toNat_add, toNat_add1, List.length_append, List.length_cons, List.length_nil, List.length_replicate]; omega))) rfl rfl ?_ -- law.go:113 slice
              refine Runs_p rfl (Valid.assignk (A := Is _) rfl rfl) rfl rfl ?_ -- law.go:113 assign
              refine Runs_nil ?_
              refine blockQ_n ?_
              refine thenQ_n ?_
              refine W_regionE (c := 85) (c' := 88) (by kernel_rfl) rfl ?_
              refine Runs_p rfl (Valid.movek (A := Is _) rfl rfl) rfl rfl ?_ -- law.go:103 move
              refine Runs_p rfl (Valid.add rfl rfl rfl (room64 (by first | omega | (simp only [Int.toNat_natCast, toNat_add, toNat_add1, List.length_append, List.length_cons, List.length_nil, List.length_replicate]; omega)) (by first | omega | (simp only [Int.toNat_natCast, toNat_add, toNat_add1, List.length_append, List.length_cons, List.length_nil, List.length_replicate]; omega)))) rfl rfl ?_ -- law.go:103 binOp
              refine Runs_p rfl (Valid.assignk (A := Is _) rfl rfl) rfl rfl ?_ -- law.go:103 assign
              refine Runs_nil ?_
              refine LoopQ.next ((i + 1, p + k)) [] (⟨by simp only; omega, by simp only; omega⟩) (by simp only; omega) ⟨⟨(leq_is rfl rfl (by first | rfl | exact congrArg Value.string (cut_out l p k) | exact congrArg Value.string (cut_rest l p k))), (leq_is rfl rfl (by first | rfl | exact congrArg Value.string (cut_out l p k) | exact congrArg Value.string (cut_rest l p k))), (leq_is rfl rfl (by first | rfl | exact congrArg Value.string (cut_out l p k) | exact congrArg Value.string (cut_rest l p k))), trivial⟩, ⟨(leq_is rfl rfl rfl), (leq_is rfl rfl rfl), (leq_is rfl rfl rfl), trivial⟩, trivial, trivial, rfl, ⟨supg rfl, supg rfl, supg rfl, trivial⟩, ⟨supg rfl, supg rfl, supg rfl, trivial⟩, trivial, trivial, rfl, rfl⟩
              done)
          done)
      done)
  · try simp only [decide_eq_false_iff_not, Bool.and_eq_false_iff, ne_eq] at hb1
    all_goals (
      refine W_exit ?_
      refine thenQ_e ?_
      refine loopQ_e ?_
      refine blockQ_x ?_
      refine thenQ_n ?_
      refine W_seq ?_
      refine W_regionE (c := 21) (c' := 47) (by kernel_rfl) rfl ?_
      refine Runs_p rfl (Valid.movek (A := Is _) rfl rfl) rfl rfl ?_ -- law.go:115 move
      refine Runs_p rfl (Valid.movek (A := Is _) rfl rfl) rfl rfl ?_ -- law.go:115 move
      refine Runs_cnd rfl rfl (Grd.is rfl) [] (fun hg => trivial) (fun hg => Valid.movek (A := Is _) rfl rfl) (by rfl) rfl ?_
      refine Runs_cnd rfl rfl (Grd.is rfl) [] (fun hg => trivial) (fun hg => Valid.movek (A := Is _) rfl rfl) (by rfl) rfl ?_
      refine Runs_cnd rfl rfl (Grd.is rfl) [(90, _), (91, _)] (fun hg => ⟨cnd_at rfl (by first | exact hg | exact hg.1 | exact hg.1.1 | exact hg.1.1.1), cnd_at rfl (by first | exact hg | exact hg.1 | exact hg.1.1 | exact hg.1.1.1), trivial⟩) (fun hg => Valid.seql rfl rfl rfl) (by rfl) rfl ?_
      refine Runs_p rfl (Valid.pickand rfl rfl rfl (fun h => by first | exact h | exact ⟨hg, h⟩) rfl) rfl rfl ?_ -- law.go:115 pick
      refine Runs_p rfl (Valid.movek (A := Is _) rfl rfl) rfl rfl ?_ -- law.go:115 move
      refine Runs_cnd rfl rfl (Grd.is rfl) [] (fun hg => trivial) (fun hg => Valid.movek (A := Is _) rfl rfl) (by rfl) rfl ?_
      refine Runs_cnd rfl rfl (Grd.is rfl) [(95, _)] (fun hg => ⟨cnd_at rfl (by first | exact hg | exact hg.1 | exact hg.1.1 | exact hg.1.1.1), trivial⟩) (fun hg => Valid.call rfl (cut_s _ _ (by (try simp only [decide_eq_true_eq, Bool.and_eq_true] at hg); omega) (by (try simp only [decide_eq_true_eq, Bool.and_eq_true] at hg); omega)) ⟨argle rfl, argle rfl, trivial⟩) (by rfl) rfl ?_
      refine Runs_cnd rfl rfl (Grd.is rfl) [(96, _)] (fun hg => ⟨cnd_at rfl (by first | exact hg | exact hg.1 | exact hg.1.1 | exact hg.1.1.1), trivial⟩) (fun hg => Valid.eql rfl rfl rfl) (by rfl) rfl ?_
      refine Runs_p rfl (Valid.pickand rfl rfl rfl (fun h => by first | exact h | exact ⟨hg, h⟩) rfl) rfl rfl ?_ -- law.go:115 pick
      refine Runs_p rfl (Valid.movek (A := Is _) rfl rfl) rfl rfl ?_ -- law.go:115 move
      refine Runs_cnd rfl rfl (Grd.is rfl) [] (fun hg => trivial) (fun hg => Valid.movek (A := Is _) rfl rfl) (by rfl) rfl ?_
      refine Runs_cnd rfl rfl (Grd.is rfl) [] (fun hg => trivial) (fun hg => Valid.movek (A := Is _) rfl rfl) (by rfl) rfl ?_
      refine Runs_cnd rfl rfl (Grd.is rfl) [(101, _)] (fun hg => ⟨cnd_at rfl (by first | exact hg | exact hg.1 | exact hg.1.1 | exact hg.1.1.1), trivial⟩) (fun hg => Valid.neg rfl rfl (room64 (by (try simp only [decide_eq_true_eq, Bool.and_eq_true] at hg); first | omega | (simp only [Int.toNat_natCast, toNat_add, toNat_add1, List.length_append, List.length_cons, List.length_nil, List.length_replicate]; omega)) (by (try simp only [decide_eq_true_eq, Bool.and_eq_true] at hg); first | omega | (simp only [Int.toNat_natCast, toNat_add, toNat_add1, List.length_append, List.length_cons, List.length_nil, List.length_replicate]; omega)))) (by rfl) rfl ?_
      refine Runs_cnd rfl rfl (Grd.is rfl) [(100, _), (102, _)] (fun hg => ⟨cnd_at rfl (by first | exact hg | exact hg.1 | exact hg.1.1 | exact hg.1.1.1), cnd_at rfl (by first | exact hg | exact hg.1 | exact hg.1.1 | exact hg.1.1.1), trivial⟩) (fun hg => Valid.call rfl (cut_s _ _ (by (try simp only [decide_eq_true_eq, Bool.and_eq_true] at hg); omega) (by (try simp only [decide_eq_true_eq, Bool.and_eq_true] at hg); omega)) ⟨argle rfl, argle rfl, trivial⟩) (by rfl) rfl ?_
      refine Runs_cnd rfl rfl (Grd.is rfl) [(103, _)] (fun hg => ⟨cnd_at rfl (by first | exact hg | exact hg.1 | exact hg.1.1 | exact hg.1.1.1), trivial⟩) (fun hg => Valid.eql rfl rfl rfl) (by rfl) rfl ?_
      refine Runs_p rfl (Valid.pickand rfl rfl rfl (fun h => by first | exact h | exact ⟨hg, h⟩) rfl) rfl rfl ?_ -- law.go:115 pick
      refine Runs_p rfl (Valid.movek (A := Is _) rfl rfl) rfl rfl ?_ -- law.go:115 move
      refine Runs_cnd rfl rfl (Grd.is rfl) [] (fun hg => trivial) (fun hg => Valid.movek (A := Is _) rfl rfl) (by rfl) rfl ?_
      refine Runs_cnd rfl rfl (Grd.is rfl) [(107, _)] (fun hg => ⟨cnd_at rfl (by first | exact hg | exact hg.1 | exact hg.1.1 | exact hg.1.1.1), trivial⟩) (fun hg => Valid.call rfl (cut_s _ _ (by (try simp only [decide_eq_true_eq, Bool.and_eq_true] at hg); omega) (by (try simp only [decide_eq_true_eq, Bool.and_eq_true] at hg); omega)) ⟨argle rfl, argle rfl, trivial⟩) (by rfl) rfl ?_
      refine Runs_cnd rfl rfl (Grd.is rfl) [] (fun hg => trivial) (fun hg => Valid.movek (A := Is _) rfl rfl) (by rfl) rfl ?_
      refine Runs_cnd rfl rfl (Grd.is rfl) [(109, _)] (fun hg => ⟨cnd_at rfl (by first | exact hg | exact hg.1 | exact hg.1.1 | exact hg.1.1.1), trivial⟩) (fun hg => Valid.slen rfl Try.underlying9 rfl) (by rfl) rfl ?_
      refine Runs_cnd rfl rfl (Grd.is rfl) [(108, _), (110, _)] (fun hg => ⟨cnd_at rfl (by first | exact hg | exact hg.1 | exact hg.1.1 | exact hg.1.1.1), cnd_at rfl (by first | exact hg | exact hg.1 | exact hg.1.1 | exact hg.1.1.1), trivial⟩) (fun hg => Valid.eql rfl rfl rfl) (by rfl) rfl ?_
      refine Runs_p rfl (Valid.pickand rfl rfl rfl (fun h => by first | exact h | exact ⟨hg, h⟩) rfl) rfl rfl ?_ -- law.go:115 pick
      refine Runs_p rfl (Valid.assignk (A := Is _) rfl rfl) rfl rfl ?_ -- law.go:115 assign
      refine Runs_nil ?_
      refine thenQ_n ?_
      refine W_ret ?_
      refine finQ_r ?_
      refine ResOk.one rfl (RVal.is rfl rfl (by rw [cut_done hi1 hi2 hlz hb1, List.take_length, decide_eq_true (endF (l := l) (r := (4 + pickV n0 60)) (by omega) hlz).c0, decide_eq_true (endF (l := l) (r := (4 + pickV n0 60)) (by omega) hlz).c1, decide_eq_true (endF (l := l) (r := (4 + pickV n0 60)) (by omega) hlz).c2, decide_eq_true (rfl : ba l = ba l)]; rfl))
      done)
end Rh
end Go.Proofs.Ytmilegikgbmjpaa
