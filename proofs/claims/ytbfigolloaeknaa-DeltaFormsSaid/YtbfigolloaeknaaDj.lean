/-
  WALKS of stage 9: the law DeltaTurned.
-/
import Derived.Test.YtbfigolloaeknaaRows
import Derived.Test.YtbfigolloaeknaaMgc
import Derived.Test.YtbfigolloaeknaaDd
import Derived.Test.YtbfigolloaeknaaDa
import Derived.Test.YtbfigolloaeknaaDb
import Derived.Test.YtbfigolloaeknaaDc
import Derived.Test.YtbfigolloaeknaaDe
import Derived.Test.YtbfigolloaeknaaDf
import Derived.Test.YtbfigolloaeknaaDg
import Derived.Test.YtbfigolloaeknaaMha
import Derived.Test.YtbfigolloaeknaaCa
import Derived.Test.YtbfigolloaeknaaCm
import Derived.Test.YtbfigolloaeknaaDm
import Derived.Test.YtbfigolloaeknaaDn
namespace Go.Proofs.Ytbfigolloaeknaa
open Go.RowKit
namespace Dj
open Ab Bm Bt Dd Da Db Dc De Df Dg Bb Ca Cm Dm Dn
theorem ag27 (w : World) : (isAgg 27).run Try.prog w = .ok true w := by kernel_rfl
theorem ag3 (w : World) : (isAgg 3).run Try.prog w = .ok false w := by kernel_rfl
theorem ag9 (w : World) : (isAgg 9).run Try.prog w = .ok false w := by kernel_rfl
theorem sz27 (w : World) : (sizeOf 27).run Try.prog w = .ok 2 w := by kernel_rfl
theorem sz3 (w : World) : (sizeOf 3).run Try.prog w = .ok 1 w := by kernel_rfl
theorem ti3 : TI Try.prog 3 1 8 := .mk' (z := (Value.int .i64 0)) (by kernel_rfl) rfl
theorem zv27 (w : World) : (zeroValue 27).run Try.prog w = .ok (.agg #[(Value.string ⟨#[]⟩), (Value.int .i64 0)]) w := by kernel_rfl
theorem rev_s {l : List Int} {k : Nat} (h : k < l.length) : l.reverse.take k ++ [l.getD (l.length - 1 - k) 0] = l.reverse.take (k + 1) := by
  have hk : k < l.reverse.length := by rw [List.length_reverse]; exact h
  rw [List.take_succ_eq_append_getElem hk, List.getElem_reverse, List.getD_eq_getElem?_getD, List.getElem?_eq_getElem (by omega)]; rfl
theorem turn_n {l : List Int} (h0 : 0 < l.length) : (dB (l ++ [l.getD (l.length - 1) 0])).length = (dB l).length + 1 := by
  rw [dB_snoc h0, List.length_append, chgB_len]; omega
theorem turn_same {l : List Int} (h0 : 0 < l.length) (x : Int) : same (pack (dB (l ++ [x]))).data.toList 0 (dB l) = true := by
  rw [dB_snoc h0]; exact same_front _ _

set_option maxRecDepth 100000 in
set_option maxHeartbeats 1000000 in
theorem turned_w (raw : List Int) (hraw : In64 raw) (lraw : raw.length ≤ 9223372036854775807) :
    FPure Try.prog 7 [Sl 1 raw.length (raw.map (Value.int .i64))] (Is (.bool true)) := by
  refine FPure.of Try.func7 Try.ntmps7 rfl (by kernel_rfl) rfl rfl rfl ?_
  refine W_seq ?_
  refine W_regionE (c := 1) (c' := 2) (by kernel_rfl) rfl ?_
  refine Runs_p rfl (Valid.assignk (A := Is _) rfl rfl) rfl rfl ?_ -- law.go:129 assign
  refine Runs_nil ?_
  refine thenQ_n ?_
  refine W_seq ?_
  refine W_regionE (c := 2) (c' := 4) (by kernel_rfl) rfl ?_
  refine Runs_p rfl (Valid.call rfl (awake9_s) trivial) rfl rfl ?_ -- law.go:130 call
  refine Runs_p rfl (Valid.assignk (A := Is _) rfl rfl) rfl rfl ?_ -- law.go:130 assign
  refine Runs_nil ?_
  refine thenQ_n ?_
  refine W_seq ?_
  refine W_regionE (c := 4) (c' := 7) (by kernel_rfl) rfl ?_
  refine Runs_p rfl (Valid.movek (A := Sl 1 _ _) rfl rfl) rfl rfl ?_ -- law.go:131 move
  refine Runs_p rfl (Valid.call rfl (lens_s _ (by assumption) (by omega)) ⟨argle_sl (Reads.sl rfl), trivial⟩) rfl rfl ?_ -- law.go:131 call
  refine Runs_p rfl (Valid.assignk (A := Sl 1 _ _) rfl rfl) rfl rfl ?_ -- law.go:131 assign
  refine Runs_nil ?_
  refine thenQ_n ?_
  refine W_seq ?_
  obtain ⟨hl2, hl60⟩ := lens_len raw
  have hgd := lens_gd raw
  have hpd := pd_good hl2 (by omega) hgd
  generalize lens raw = l at *
  have hal := gd_at hgd
  refine W_regionE (c := 7) (c' := 8) (by kernel_rfl) rfl ?_
  refine Runs_p rfl (Valid.assignk (A := Is (.slice none 0 0)) rfl rfl) rfl rfl ?_ -- law.go:132 assign
  refine Runs_nil ?_
  refine thenQ_n ?_
  refine W_seq ?_
  refine W_seq ?_
  refine W_regionE (c := 8) (c' := 12) (by kernel_rfl) rfl ?_
  refine Runs_p rfl (Valid.movek (A := Sl 1 _ _) rfl rfl) rfl rfl ?_ -- law.go:133 move
  refine Runs_p rfl (Valid.len rfl Try.underlying22 (Reads.sl rfl)) rfl rfl ?_ -- law.go:133 call
  refine Runs_p rfl (Valid.sub rfl rfl rfl (room64 (by first | omega | (simp only [Int.toNat_natCast, toNat_add, toNat_add1, List.length_append, List.length_cons, List.length_nil, List.length_replicate]; omega)) (by first | omega | (simp only [Int.toNat_natCast, toNat_add, toNat_add1, List.length_append, List.length_cons, List.length_nil, List.length_replicate]; omega)))) rfl rfl ?_ -- law.go:133 binOp
  refine Runs_p rfl (Valid.assignk (A := Is _) rfl rfl) rfl rfl ?_ -- law.go:133 assign
  refine Runs_nil ?_
  refine thenQ_n ?_
  refine W_block ?_
  refine W.ent ?_ (Ent.ownnil 5 3 1 rfl)
  refine W_loopx (G := Nat) (fun (k : Nat) => k ≤ l.length) [(3, Is _), (4, Sl 1 _ _)] (fun (k : Nat) => [(6, Is (.int .i64 ((l.length : Int) - 1 - (k : Int)))), (5, Ab.Own 96 1 k ((l.reverse.take k).map (Value.int .i64)))]) [] (fun (k : Nat) => [(96, .row 3 1 k ((l.reverse.take k).map (Value.int .i64)))]) 13 (fun (k : Nat) => l.length - k) (0) [] (by first | trivial | omega | (simp; omega)) ⟨⟨(leq_is rfl rfl (by first | rfl | exact congrArg (Value.int .i64) (by omega))), (leq_own rfl rfl rfl (by first | rfl | exact congrArg (Value.int .i64) (by omega)) (by first | rfl | exact congrArg (Value.int .i64) (by omega))), trivial⟩, ⟨(leq_is rfl rfl rfl), (leq_sl (Reads.sl rfl) rfl rfl rfl), trivial⟩, ⟨hp_row rfl (by first | rfl | exact congrArg (Value.int .i64) (by omega)) (by first | rfl | exact congrArg (Value.int .i64) (by omega)), trivial⟩, trivial, rfl, ⟨supg rfl, supg rfl, trivial⟩, ⟨supg rfl, supg rfl, trivial⟩, ⟨suph rfl rfl, trivial⟩, trivial, rfl, rfl⟩ ?_
  intro k hI1
  refine W_seq ?_
  refine W_seq ?_
  refine W_regionE (c := 13) (c' := 15) (by kernel_rfl) rfl ?_
  refine Runs_p rfl (Valid.movek (A := Is _) rfl rfl) rfl rfl ?_ -- law.go:133 move
  refine Runs_p rfl (Valid.geq rfl rfl rfl) rfl rfl ?_ -- law.go:133 binOp
  refine Runs_nil ?_
  refine thenQ_n ?_
  refine W_cond _ rfl (fun hb1 => ?_) (fun hb1 => ?_)
  · try simp only [decide_eq_true_eq] at hb1
    all_goals (
      refine W_skip ?_
      refine thenQ_n ?_
      refine W_seq ?_
      refine W_block ?_
      have hrs := rev_s (l := l) (k := k) (by omega)
      have e1 : (l.length : Int) - 1 - (k : Int) = ((l.length - 1 - k : Nat) : Int) := by omega
      have e2 : ((l.length : Int) - 1 - (k : Int)).toNat = l.length - 1 - k := by omega
      rw [← e2] at hrs
      refine W_regionE (c := 15) (c' := 23) (by kernel_rfl) rfl ?_
      refine Runs_p rfl (Valid.movek (A := Ab.Own 96 1 _ _) rfl rfl) rfl rfl ?_ -- law.go:134 move
      refine Runs_p rfl (Valid.movek (A := Sl 1 _ _) rfl rfl) rfl rfl ?_ -- law.go:134 move
      refine Runs_p rfl (Valid.movek (A := Is _) rfl rfl) rfl rfl ?_ -- law.go:134 move
      refine Runs_p rfl (Valid.eltaddr1 0 rfl Try.underlying22 sz3 (Reads.sl rfl) rfl (by first | omega | (simp only [Int.toNat_natCast, toNat_add, toNat_add1, List.length_append, List.length_cons, List.length_nil, List.length_replicate]; omega)) (by first | rfl | simp)) rfl rfl ?_ -- law.go:134 indexAddr
      refine Runs_p rfl (Valid.loadelt rfl ag3 rfl) rfl rfl ?_ -- law.go:134 load
      refine Runs_p rfl (Valid.lit (el := 3) [_] rfl rfl (fun _ => by kernel_rfl) rfl (by decide)) rfl rfl ?_ -- law.go:134 buildSlice
      refine Runs_w rfl (Valid.app rfl Try.underlying22 ti3 (by decide) rfl rfl (Reads.sl rfl) (by first | exact one_map (fun _ => rfl) | exact one_cons rfl one_nil | exact one_app (one_map (fun _ => rfl)) (one_cons rfl one_nil) | exact one_app (one_map (fun _ => rfl)) (one_map (fun _ => rfl)) | exact one_rep rfl | exact one_app (one_rep rfl) (one_map (fun _ => rfl)) | (intro u hu; simp at hu; rcases hu with rfl | hu <;> first | rfl | (subst hu; rfl))) (by first | (simp only [maxLen]; omega) | (simp only [maxLen, Int.toNat_natCast, toNat_add, toNat_add1, List.length_append, List.length_cons, List.length_nil, List.length_replicate]; omega)) (by first | omega | (simp only [Int.toNat_natCast, toNat_add, toNat_add1, List.length_append, List.length_cons, List.length_nil, List.length_replicate]; omega))) rfl rfl ?_ -- law.go:134 call
      refine Runs_p rfl (Valid.assignk (A := Ab.Own 168 1 _ _) rfl rfl) rfl rfl ?_ -- law.go:134 assign
      refine Runs_nil ?_
      refine blockQ_n ?_
      refine thenQ_n ?_
      refine W_regionE (c := 23) (c' := 26) (by kernel_rfl) rfl ?_
      refine Runs_p rfl (Valid.movek (A := Is _) rfl rfl) rfl rfl ?_ -- law.go:133 move
      refine Runs_p rfl (Valid.sub rfl rfl rfl (room64 (by first | omega | (simp only [Int.toNat_natCast, toNat_add, toNat_add1, List.length_append, List.length_cons, List.length_nil, List.length_replicate]; omega)) (by first | omega | (simp only [Int.toNat_natCast, toNat_add, toNat_add1, List.length_append, List.length_cons, List.length_nil, List.length_replicate]; omega)))) rfl rfl ?_ -- law.go:133 binOp
      refine Runs_p rfl (Valid.assignk (A := Is _) rfl rfl) rfl rfl ?_ -- law.go:133 assign
      refine Runs_nil ?_
      refine LoopQ.next (k + 1) [(96, 168)] (by omega) (by omega) ⟨⟨(leq_is rfl rfl (by first | rfl | exact congrArg (Value.int .i64) (by omega) | (rw [← hrs, List.map_append]; rfl))), (leq_own rfl rfl rfl (by first | rfl | exact congrArg (Value.int .i64) (by omega) | (rw [← hrs, List.map_append]; rfl)) (by first | rfl | exact congrArg (Value.int .i64) (by omega) | (rw [← hrs, List.map_append]; rfl))), trivial⟩, ⟨(leq_is rfl rfl rfl), (leq_sl (Reads.sl rfl) rfl rfl rfl), trivial⟩, ⟨hp_row rfl (by first | rfl | exact congrArg (Value.int .i64) (by omega) | (rw [← hrs, List.map_append]; rfl)) (by first | rfl | exact congrArg (Value.int .i64) (by omega) | (rw [← hrs, List.map_append]; rfl)), trivial⟩, trivial, rfl, ⟨supg rfl, supg rfl, trivial⟩, ⟨supg rfl, supg rfl, trivial⟩, ⟨suph rfl rfl, trivial⟩, trivial, rfl, rfl⟩
      done)
  · try simp only [decide_eq_false_iff_not] at hb1
    all_goals (
      refine W_exit ?_
      refine thenQ_e ?_
      refine loopQ_e ?_
      refine blockQ_x ?_
      refine thenQ_n ?_
      refine W_seq ?_
      obtain rfl : k = l.length := by omega
      have hrv : l.reverse.take l.length = l.reverse := List.take_of_length_le (by rw [List.length_reverse]; omega)
      have hpr := pd_good (l := l.reverse) (by rw [List.length_reverse]; omega) (by rw [List.length_reverse]; omega) (gd_rev hgd)
      have hps := pd_good (l := l ++ [l.getD (l.length - 1) 0]) (by rw [List.length_append, List.length_singleton]; omega) (by rw [List.length_append, List.length_singleton]; omega) (gd_snoc hgd (hal _ (by omega)))
      have hrn := dB_rev l
      have htn := turn_n (l := l) (by omega)
      have hts := turn_same (l := l) (by omega) (l.getD (l.length - 1) 0)
      have hbl := dB_le hgd
      have hsz := pack_size (dB (l ++ [l.getD (l.length - 1) 0]))
      have e9 : ((l.length : Int) - 1).toNat = l.length - 1 := by omega
      refine W_regionE (c := 15) (c' := 23) (by kernel_rfl) rfl ?_
      refine Runs_p rfl (Valid.movek (A := Sl 1 _ _) rfl rfl) rfl rfl ?_ -- law.go:136 move
      refine Runs_p rfl (Valid.call rfl (pt_t hpd rfl rfl (by omega)) ⟨argle_sl (Reads.sl rfl), trivial⟩) rfl rfl ?_ -- law.go:136 call
      refine Runs_p rfl (Valid.movek (A := Tup [Agg [Is _, Is _], Is _]) rfl rfl) rfl rfl ?_ -- law.go:136 move
      refine Runs_p rfl (Valid.extract _ rfl rfl rfl) rfl rfl ?_ -- law.go:136 extract
      refine Runs_p rfl (Valid.extract _ rfl rfl rfl) rfl rfl ?_ -- law.go:136 extract
      refine Runs_w rfl (Valid.alloc [(Value.string ⟨#[]⟩), (Value.int .i64 0)] rfl zv27 rfl) rfl rfl ?_ -- law.go:136 alloc
      refine Runs_op rfl (Valid.storeagg (l := [_, _]) rfl sz27 rfl rfl (Nat.le_of_ble_eq_true rfl) rfl ⟨(One.is rfl rfl rfl), (One.is rfl rfl rfl), trivial⟩) rfl ?_ -- law.go:136 store
      refine Runs_p rfl (Valid.assignk (A := Is _) rfl rfl) rfl rfl ?_ -- law.go:136 assign
      refine Runs_nil ?_
      refine thenQ_n ?_
      refine W_seq ?_
      refine W_regionE (c := 23) (c' := 31) (by kernel_rfl) rfl ?_
      refine Runs_p rfl (Valid.movek (A := Ab.Own 96 1 _ _) rfl rfl) rfl rfl ?_ -- law.go:137 move
      refine Runs_p rfl (Valid.call rfl (pt_t hpr (by rw [List.length_reverse]) (by rw [hrv]) (by rw [List.length_reverse]; omega)) ⟨argle_sl (Reads.own rfl), trivial⟩) rfl rfl ?_ -- law.go:137 call
      refine Runs_p rfl (Valid.movek (A := Tup [Agg [Is _, Is _], Is _]) rfl rfl) rfl rfl ?_ -- law.go:137 move
      refine Runs_p rfl (Valid.extract _ rfl rfl rfl) rfl rfl ?_ -- law.go:137 extract
      refine Runs_p rfl (Valid.extract _ rfl rfl rfl) rfl rfl ?_ -- law.go:137 extract
      refine Runs_w rfl (Valid.alloc [(Value.string ⟨#[]⟩), (Value.int .i64 0)] rfl zv27 rfl) rfl rfl ?_ -- law.go:137 alloc
      refine Runs_op rfl (Valid.storeagg (l := [_, _]) rfl sz27 rfl rfl (Nat.le_of_ble_eq_true rfl) rfl ⟨(One.is rfl rfl rfl), (One.is rfl rfl rfl), trivial⟩) rfl ?_ -- law.go:137 store
      refine Runs_p rfl (Valid.assignk (A := Is _) rfl rfl) rfl rfl ?_ -- law.go:137 assign
      refine Runs_nil ?_
      refine thenQ_n ?_
      refine W_seq ?_
      refine W_drawE (c := 31) (c' := 48) (by kernel_rfl) rfl ?_
      refine Runs_p rfl (Valid.movek (A := Sl 1 _ _) rfl rfl) rfl rfl ?_ -- law.go:138 move
      refine Runs_w rfl (Valid.appnil rfl Try.underlying22 ti3 (by decide) rfl (Reads.sl rfl) (by first | exact one_map (fun _ => rfl) | exact one_cons rfl one_nil | exact one_app (one_map (fun _ => rfl)) (one_cons rfl one_nil) | exact one_app (one_map (fun _ => rfl)) (one_map (fun _ => rfl)) | exact one_rep rfl | exact one_app (one_rep rfl) (one_map (fun _ => rfl)) | (intro u hu; simp at hu; rcases hu with rfl | hu <;> first | rfl | (subst hu; rfl))) (by first | (simp only [maxLen]; omega) | (simp only [maxLen, Int.toNat_natCast, toNat_add, toNat_add1, List.length_append, List.length_cons, List.length_nil, List.length_replicate]; omega)) (by first | omega | (simp only [Int.toNat_natCast, toNat_add, toNat_add1, List.length_append, List.length_cons, List.length_nil, List.length_replicate]; omega))) rfl rfl ?_ -- law.go:138 call
      refine Runs_p rfl (Valid.movek (A := Sl 1 _ _) rfl rfl) rfl rfl ?_ -- law.go:138 move
      refine Runs_p rfl (Valid.movek (A := Sl 1 _ _) rfl rfl) rfl rfl ?_ -- law.go:138 move
      refine Runs_p rfl (Valid.len rfl Try.underlying22 (Reads.sl rfl)) rfl rfl ?_ -- law.go:138 call
      refine Runs_p rfl (Valid.sub rfl rfl rfl (room64 (by first | omega | (simp only [Int.toNat_natCast, toNat_add, toNat_add1, List.length_append, List.length_cons, List.length_nil, List.length_replicate]; omega)) (by first | omega | (simp only [Int.toNat_natCast, toNat_add, toNat_add1, List.length_append, List.length_cons, List.length_nil, List.length_replicate]; omega)))) rfl rfl ?_ -- law.go:138 binOp
      refine Runs_p rfl (Valid.eltaddr1 0 rfl Try.underlying22 sz3 (Reads.sl rfl) rfl (by first | omega | (simp only [Int.toNat_natCast, toNat_add, toNat_add1, List.length_append, List.length_cons, List.length_nil, List.length_replicate]; omega)) (by first | rfl | simp)) rfl rfl ?_ -- law.go:138 indexAddr
      refine Runs_p rfl (Valid.loadelt rfl ag3 rfl) rfl rfl ?_ -- law.go:138 load
      refine Runs_p rfl (Valid.lit (el := 3) [_] rfl rfl (fun _ => by kernel_rfl) rfl (by decide)) rfl rfl ?_ -- law.go:138 buildSlice
      refine Runs_w rfl (Valid.app rfl Try.underlying22 ti3 (by decide) rfl rfl (Reads.sl rfl) (by first | exact one_map (fun _ => rfl) | exact one_cons rfl one_nil | exact one_app (one_map (fun _ => rfl)) (one_cons rfl one_nil) | exact one_app (one_map (fun _ => rfl)) (one_map (fun _ => rfl)) | exact one_rep rfl | exact one_app (one_rep rfl) (one_map (fun _ => rfl)) | (intro u hu; simp at hu; rcases hu with rfl | hu <;> first | rfl | (subst hu; rfl))) (by first | (simp only [maxLen]; omega) | (simp only [maxLen, Int.toNat_natCast, toNat_add, toNat_add1, List.length_append, List.length_cons, List.length_nil, List.length_replicate]; omega)) (by first | omega | (simp only [Int.toNat_natCast, toNat_add, toNat_add1, List.length_append, List.length_cons, List.length_nil, List.length_replicate]; omega))) rfl rfl ?_ -- law.go:138 call
      refine Runs_p rfl (Valid.call rfl (pt_t hps (by simp) (by first | (rw [List.map_append, ← e9]; rfl) | (simp [e9]; done)) (by simp; omega)) ⟨argle_sl (Reads.own rfl), trivial⟩) rfl rfl ?_ -- law.go:138 call
      refine Runs_p rfl (Valid.movek (A := Tup [Agg [Is _, Is _], Is _]) rfl rfl) rfl rfl ?_ -- law.go:138 move
      refine Runs_p rfl (Valid.extract _ rfl rfl rfl) rfl rfl ?_ -- law.go:138 extract
      refine Runs_p rfl (Valid.extract _ rfl rfl rfl) rfl rfl ?_ -- law.go:138 extract
      refine Runs_w rfl (Valid.alloc [(Value.string ⟨#[]⟩), (Value.int .i64 0)] rfl zv27 rfl) rfl rfl ?_ -- law.go:138 alloc
      refine Runs_op rfl (Valid.storeagg (l := [_, _]) rfl sz27 rfl rfl (Nat.le_of_ble_eq_true rfl) rfl ⟨(One.is rfl rfl rfl), (One.is rfl rfl rfl), trivial⟩) rfl ?_ -- law.go:138 store
      refine Runs_p rfl (Valid.assignk (A := Is _) rfl rfl) rfl rfl ?_ -- law.go:138 assign
      refine Runs_nil ?_
      refine ⟨_, _, rfl, rfl, by kernel_rfl, ?_⟩
      refine thenQ_n ?_
      refine W_seq ?_
      refine W_regionE (c := 48) (c' := 83) (by kernel_rfl) rfl ?_
      refine Runs_p rfl (Valid.movek (A := Is _) rfl rfl) rfl rfl ?_ -- law.go:139 move
      refine Runs_p rfl (Valid.movek (A := Is _) rfl rfl) rfl rfl ?_ -- law.go:139 move
      refine Runs_cnd rfl rfl (Grd.is rfl) [] (fun hg => trivial) (fun hg => Valid.movek (A := Is _) rfl rfl) (by rfl) rfl ?_
      refine Runs_cnd rfl rfl (Grd.is rfl) [(56, _)] (fun hg => ⟨cnd_at rfl (by first | exact hg | exact hg.1 | exact hg.1.1 | exact hg.1.1.1), trivial⟩) (fun hg => Valid.eql rfl rfl rfl) (by rfl) rfl ?_
      refine Runs_p rfl (Valid.pickand rfl rfl rfl (fun h => by first | exact h | exact ⟨hg, h⟩) rfl) rfl rfl ?_ -- law.go:139 pick
      refine Runs_p rfl (Valid.movek (A := Is _) rfl rfl) rfl rfl ?_ -- law.go:139 move
      refine Runs_cnd rfl rfl (Grd.is rfl) [] (fun hg => trivial) (fun hg => Valid.movek (A := Is _) rfl rfl) (by rfl) rfl ?_
      refine Runs_cnd rfl rfl (Grd.is rfl) [(60, _)] (fun hg => ⟨cnd_at rfl (by first | exact hg | exact hg.1 | exact hg.1.1 | exact hg.1.1.1), trivial⟩) (fun hg => Valid.eql rfl rfl rfl) (by rfl) rfl ?_
      refine Runs_p rfl (Valid.pickand rfl rfl rfl (fun h => by first | exact h | exact ⟨hg, h⟩) rfl) rfl rfl ?_ -- law.go:139 pick
      refine Runs_p rfl (Valid.movek (A := Is _) rfl rfl) rfl rfl ?_ -- law.go:139 move
      refine Runs_cnd rfl rfl (Grd.is rfl) [] (fun hg => trivial) (fun hg => Valid.movek (A := Is _) rfl rfl) (by rfl) rfl ?_
      refine Runs_cnd rfl rfl (Grd.is rfl) [(64, _)] (fun hg => ⟨cnd_at rfl (by first | exact hg | exact hg.1 | exact hg.1.1 | exact hg.1.1.1), trivial⟩) (fun hg => Valid.eql rfl rfl rfl) (by rfl) rfl ?_
      refine Runs_p rfl (Valid.pickand rfl rfl rfl (fun h => by first | exact h | exact ⟨hg, h⟩) rfl) rfl rfl ?_ -- law.go:139 pick
      refine Runs_p rfl (Valid.movek (A := Is _) rfl rfl) rfl rfl ?_ -- law.go:139 move
      refine Runs_cnds (t := 7) rfl rfl (Grd.is rfl) [] (fun hg => trivial) (fun hg => Valid.fieldaddr (off' := 1) rfl rfl (fun _ _ => by kernel_rfl)) (by simp [Op.operands]) rfl rfl ?_
      refine Runs_cnd rfl rfl (Grd.is rfl) [(68, _)] (fun hg => ⟨cnd_at rfl (by first | exact hg | exact hg.1 | exact hg.1.1 | exact hg.1.1.1), trivial⟩) (fun hg => Valid.load _ rfl ag3 rfl rfl rfl) (by rfl) rfl ?_
      refine Runs_cnds (t := 9) rfl rfl (Grd.is rfl) [] (fun hg => trivial) (fun hg => Valid.fieldaddr (off' := 1) rfl rfl (fun _ _ => by kernel_rfl)) (by simp [Op.operands]) rfl rfl ?_
      refine Runs_cnd rfl rfl (Grd.is rfl) [(70, _)] (fun hg => ⟨cnd_at rfl (by first | exact hg | exact hg.1 | exact hg.1.1 | exact hg.1.1.1), trivial⟩) (fun hg => Valid.load _ rfl ag3 rfl rfl rfl) (by rfl) rfl ?_
      refine Runs_cnd rfl rfl (Grd.is rfl) [(69, _), (71, _)] (fun hg => ⟨cnd_at rfl (by first | exact hg | exact hg.1 | exact hg.1.1 | exact hg.1.1.1), cnd_at rfl (by first | exact hg | exact hg.1 | exact hg.1.1 | exact hg.1.1.1), trivial⟩) (fun hg => Valid.eql rfl rfl rfl) (by rfl) rfl ?_
      refine Runs_p rfl (Valid.pickand rfl rfl rfl (fun h => by first | exact h | exact ⟨hg, h⟩) rfl) rfl rfl ?_ -- law.go:139 pick
      refine Runs_p rfl (Valid.movek (A := Is _) rfl rfl) rfl rfl ?_ -- law.go:139 move
      refine Runs_cnds (t := 11) rfl rfl (Grd.is rfl) [] (fun hg => trivial) (fun hg => Valid.fieldaddr (off' := 1) rfl rfl (fun _ _ => by kernel_rfl)) (by simp [Op.operands]) rfl rfl ?_
      refine Runs_cnd rfl rfl (Grd.is rfl) [(75, _)] (fun hg => ⟨cnd_at rfl (by first | exact hg | exact hg.1 | exact hg.1.1 | exact hg.1.1.1), trivial⟩) (fun hg => Valid.load _ rfl ag3 rfl rfl rfl) (by rfl) rfl ?_
      refine Runs_cnds (t := 7) rfl rfl (Grd.is rfl) [] (fun hg => trivial) (fun hg => Valid.fieldaddr (off' := 1) rfl rfl (fun _ _ => by kernel_rfl)) (by simp [Op.operands]) rfl rfl ?_
      refine Runs_cnd rfl rfl (Grd.is rfl) [(77, _)] (fun hg => ⟨cnd_at rfl (by first | exact hg | exact hg.1 | exact hg.1.1 | exact hg.1.1.1), trivial⟩) (fun hg => Valid.load _ rfl ag3 rfl rfl rfl) (by rfl) rfl ?_
      refine Runs_cnd rfl rfl (Grd.is rfl) [(78, _)] (fun hg => ⟨cnd_at rfl (by first | exact hg | exact hg.1 | exact hg.1.1 | exact hg.1.1.1), trivial⟩) (fun hg => Valid.add rfl rfl rfl (room64 (by (try simp only [decide_eq_true_eq, Bool.and_eq_true] at hg); first | omega | (simp only [Int.toNat_natCast, toNat_add, toNat_add1, List.length_append, List.length_cons, List.length_nil, List.length_replicate]; omega)) (by (try simp only [decide_eq_true_eq, Bool.and_eq_true] at hg); first | omega | (simp only [Int.toNat_natCast, toNat_add, toNat_add1, List.length_append, List.length_cons, List.length_nil, List.length_replicate]; omega)))) (by rfl) rfl ?_
      refine Runs_cnd rfl rfl (Grd.is rfl) [(76, _), (79, _)] (fun hg => ⟨cnd_at rfl (by first | exact hg | exact hg.1 | exact hg.1.1 | exact hg.1.1.1), cnd_at rfl (by first | exact hg | exact hg.1 | exact hg.1.1 | exact hg.1.1.1), trivial⟩) (fun hg => Valid.eql rfl rfl rfl) (by rfl) rfl ?_
      refine Runs_p rfl (Valid.pickand rfl rfl rfl (fun h => by first | exact h | exact ⟨hg, h⟩) rfl) rfl rfl ?_ -- law.go:139 pick
      refine Runs_p rfl (Valid.movek (A := Is _) rfl rfl) rfl rfl ?_ -- law.go:139 move
      refine Runs_cnds (t := 11) rfl rfl (Grd.is rfl) [] (fun hg => trivial) (fun hg => Valid.fieldaddr (off' := 0) rfl rfl (fun _ _ => by kernel_rfl)) (by simp [Op.operands]) rfl rfl ?_
      refine Runs_cnd rfl rfl (Grd.is rfl) [(83, _)] (fun hg => ⟨cnd_at rfl (by first | exact hg | exact hg.1 | exact hg.1.1 | exact hg.1.1.1), trivial⟩) (fun hg => Valid.load _ rfl ag9 rfl rfl rfl) (by rfl) rfl ?_
      refine Runs_cnd rfl rfl (Grd.is rfl) [] (fun hg => trivial) (fun hg => Valid.loadagg rfl ag27 sz27 rfl rfl (Nat.le_of_ble_eq_true rfl)) (by rfl) rfl ?_
      refine Runs_cnd rfl rfl (Grd.is rfl) [(84, _), (85, _)] (fun hg => ⟨cnd_at rfl (by first | exact hg | exact hg.1 | exact hg.1.1 | exact hg.1.1.1), cnd_at rfl (by first | exact hg | exact hg.1 | exact hg.1.1 | exact hg.1.1.1), trivial⟩) (fun hg => Valid.call rfl (same_f _ 0 _ (dB l) rfl (by (try simp only [decide_eq_true_eq, Bool.and_eq_true] at hg); omega) (by (try simp only [decide_eq_true_eq, Bool.and_eq_true] at hg); omega) (by (try simp only [decide_eq_true_eq, Bool.and_eq_true] at hg); decide)) ⟨argle rfl, argle rfl, argle rfl, trivial⟩) (by rfl) rfl ?_
      refine Runs_p rfl (Valid.pickand rfl rfl rfl (fun h => by first | exact h | exact ⟨hg, h⟩) rfl) rfl rfl ?_ -- law.go:139 pick
      refine Runs_p rfl (Valid.assignk (A := Is _) rfl rfl) rfl rfl ?_ -- law.go:139 assign
      refine Runs_nil ?_
      refine thenQ_n ?_
      refine W_ret ?_
      refine finQ_r ?_
      refine ResOk.one rfl (RVal.is rfl rfl (by first | rfl | (rw [hts, hrn, htn]; simp; done) | (rw [hts]; simp [hrn, htn]; done)))
      done)
end Dj
end Go.Proofs.Ytbfigolloaeknaa
