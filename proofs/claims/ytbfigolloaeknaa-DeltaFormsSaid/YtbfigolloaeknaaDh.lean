/-
  WALKS of stage 9: the law DeltaTells.
-/
import Derived.Test.YtbfigolloaeknaaRows
import Derived.Test.YtbfigolloaeknaaMgc
import Derived.Test.YtbfigolloaeknaaDd
import Derived.Test.YtbfigolloaeknaaDa
import Derived.Test.YtbfigolloaeknaaDb
import Derived.Test.YtbfigolloaeknaaDc
import Derived.Test.YtbfigolloaeknaaDe
import Derived.Test.YtbfigolloaeknaaDf
import Derived.Test.YtbfigolloaeknaaDg
import Derived.Test.YtbfigolloaeknaaMha
import Derived.Test.YtbfigolloaeknaaCa
import Derived.Test.YtbfigolloaeknaaCm
import Derived.Test.YtbfigolloaeknaaDm
namespace Go.Proofs.Ytbfigolloaeknaa
open Go.RowKit
namespace Dh
open Ab Bm Bt Dd Da Db Dc De Df Dg Bb Ca Cm Dm
theorem ag22 (w : World) : (isAgg 22).run Try.prog w = .ok false w := by kernel_rfl
theorem ag27 (w : World) : (isAgg 27).run Try.prog w = .ok true w := by kernel_rfl
theorem ag3 (w : World) : (isAgg 3).run Try.prog w = .ok false w := by kernel_rfl
theorem ag5 (w : World) : (isAgg 5).run Try.prog w = .ok false w := by kernel_rfl
theorem ag9 (w : World) : (isAgg 9).run Try.prog w = .ok false w := by kernel_rfl
theorem sz22 (w : World) : (sizeOf 22).run Try.prog w = .ok 1 w := by kernel_rfl
theorem sz27 (w : World) : (sizeOf 27).run Try.prog w = .ok 2 w := by kernel_rfl
theorem sz3 (w : World) : (sizeOf 3).run Try.prog w = .ok 1 w := by kernel_rfl
theorem sz5 (w : World) : (sizeOf 5).run Try.prog w = .ok 1 w := by kernel_rfl
theorem sz9 (w : World) : (sizeOf 9).run Try.prog w = .ok 1 w := by kernel_rfl
theorem tf27 : TwoF Try.prog 27 .i64 { name := "Data", type := 9, offset := 0, embedded := false, tag := "", pkgPath := "", byteOffset := 0 } { name := "N", type := 3, offset := 1, embedded := false, tag := "", pkgPath := "", byteOffset := 16 } where
  und := by kernel_rfl
  plain := by kernel_rfl
  guard := by kernel_rfl
  flds := by kernel_rfl
  nf := by decide
  ng := by decide
  sf := Try.underlying9
  sg := Try.underlying3
  pf := fun _ _ _ => by kernel_rfl
  pg := fun _ _ _ => by kernel_rfl
theorem zv27 (w : World) : (zeroValue 27).run Try.prog w = .ok (.agg #[(Value.string ⟨#[]⟩), (Value.int .i64 0)]) w := by kernel_rfl
set_option maxRecDepth 100000 in
set_option maxHeartbeats 1000000 in
theorem tells_w (so : List Int) (_hso : In64 so) (lso : so.length ≤ 9223372036854775807) (raw : List Int) (hraw : In64 raw) (lraw : raw.length ≤ 9223372036854775807) (s : ByteArray) (hs : s.size ≤ 9223372036854775807) (a0 : Int) (wa0 : -9223372036854775808 ≤ a0 ∧ a0 ≤ 9223372036854775807) (n0 : Int) (wn0 : -9223372036854775808 ≤ n0 ∧ n0 ≤ 9223372036854775807) (w0 : Int) (ww0 : -9223372036854775808 ≤ w0 ∧ w0 ≤ 9223372036854775807) :
    FPure Try.prog 3 [Sl 1 so.length (so.map (Value.int .i64)), Sl 1 raw.length (raw.map (Value.int .i64)), Is (.string s), Is (.int .i64 a0), Is (.int .i64 n0), Is (.int .i64 w0)] (Is (.bool true)) := by
  refine FPure.of Try.func3 Try.ntmps3 rfl (by kernel_rfl) rfl rfl rfl ?_
  refine W_seq ?_
  refine W_regionE (c := 1) (c' := 2) (by kernel_rfl) rfl ?_
  refine Runs_p rfl (Valid.assignk (A := Is _) rfl rfl) rfl rfl ?_ -- law.go:47 assign
  refine Runs_nil ?_
  refine thenQ_n ?_
  refine W_seq ?_
  refine W_regionE (c := 2) (c' := 4) (by kernel_rfl) rfl ?_
  refine Runs_p rfl (Valid.call rfl (awake9_s) trivial) rfl rfl ?_ -- law.go:48 call
  refine Runs_p rfl (Valid.assignk (A := Is _) rfl rfl) rfl rfl ?_ -- law.go:48 assign
  refine Runs_nil ?_
  refine thenQ_n ?_
  refine W_seq ?_
  refine W_regionE (c := 4) (c' := 7) (by kernel_rfl) rfl ?_
  refine Runs_p rfl (Valid.movek (A := Sl 1 _ _) rfl rfl) rfl rfl ?_ -- law.go:49 move
  refine Runs_p rfl (Valid.call rfl (lens_s _ (by assumption) (by omega)) ⟨argle_sl (Reads.sl rfl), trivial⟩) rfl rfl ?_ -- law.go:49 call
  refine Runs_p rfl (Valid.assignk (A := Sl 1 _ _) rfl rfl) rfl rfl ?_ -- law.go:49 assign
  refine Runs_nil ?_
  refine thenQ_n ?_
  refine W_seq ?_
  refine W_seq ?_
  obtain ⟨hl2, hl60⟩ := lens_len raw
  have hgd := lens_gd raw
  have hpd := pd_good hl2 (by omega) hgd
  generalize lens raw = l at *
  have hml : (so.take (min (so.length : Int) 300).toNat).length ≤ 300 := by rw [List.length_take]; omega
  have hbl := dB_le hgd
  have hb5 := dps_5 l l.length
  rw [show (dps l l.length).flatten = dB l from rfl] at hb5
  have hps := pack_size (dB l)
  refine W_regionE (c := 7) (c' := 16) (by kernel_rfl) rfl ?_
  refine Runs_p rfl (Valid.movek (A := Sl 1 _ _) rfl rfl) rfl rfl ?_ -- law.go:50 move
  refine Runs_p rfl (Valid.movek (A := Sl 1 _ _) rfl rfl) rfl rfl ?_ -- law.go:50 move
  refine Runs_p rfl (Valid.len rfl Try.underlying22 (Reads.sl rfl)) rfl rfl ?_ -- law.go:50 call
  refine Runs_p rfl (Valid.min rfl rfl rfl) rfl rfl ?_ -- law.go:50 call
  refine Runs_p rfl (Valid.sliceto1 rfl Try.underlying22 sz3 (Reads.sl rfl) rfl (by refine ⟨?_, ?_⟩ <;> omega)) rfl rfl ?_ -- law.go:50 slice
  refine Runs_p rfl (Valid.movek (A := Sl 1 _ _) rfl rfl) rfl rfl ?_ -- law.go:50 move
  refine Runs_p rfl (Valid.litS2 (el := 22) (twoI (so.take (min (so.length : Int) 300).toNat) l) rfl (Reads.sl rfl) (Reads.sl rfl) (by first | rfl | (show _ = (List.take _ _).length; rw [List.length_take]; omega)) (by first | rfl | (show _ = (List.take _ _).length; rw [List.length_take]; omega)) (by first | rfl | (show _ = (List.take _ _).length; rw [List.length_take]; omega)) (by first | rfl | (show _ = (List.take _ _).length; rw [List.length_take]; omega)) (fun _ _ _ _ _ _ _ => by kernel_rfl)) rfl rfl ?_ -- law.go:50 buildSlice
  refine Runs_p rfl (Valid.lenS rfl Try.underlying25 rfl) rfl rfl ?_ -- law.go:50 call
  refine Runs_p rfl (Valid.movek (A := Is _) rfl rfl) rfl rfl ?_ -- law.go:50 move
  refine Runs_nil ?_
  refine thenQ_n ?_
  refine W_block ?_
  refine W_loopx (G := Nat) (fun (k : Nat) => k ≤ 2) [(2, Is _), (3, Is _), (4, Is _), (5, Is _), (13, Is _), (14, Sl 1 _ _), (46, SlS 2 _), (47, Is _)] (fun (k : Nat) => [(48, Is (.int .i64 (k : Int)))]) [] (fun (k : Nat) => []) 16 (fun (k : Nat) => 2 - k) (0) [] (by first | trivial | omega | (simp; omega)) ⟨⟨(leq_is rfl rfl (by first | rfl)), trivial⟩, ⟨(leq_is rfl rfl rfl), (leq_is rfl rfl rfl), (leq_is rfl rfl rfl), (leq_is rfl rfl rfl), (leq_is rfl rfl rfl), (leq_sl (Reads.sl rfl) rfl rfl rfl), (leq_sls rfl rfl), (leq_is rfl rfl rfl), trivial⟩, trivial, trivial, rfl, ⟨supg rfl, trivial⟩, ⟨supg rfl, supg rfl, supg rfl, supg rfl, supg rfl, supg rfl, supg rfl, supg rfl, trivial⟩, trivial, trivial, rfl, rfl⟩ ?_
  intro k hI1
  refine W_seq ?_
  refine W_regionE (c := 16) (c' := 17) (by kernel_rfl) rfl ?_
  refine Runs_p rfl (Valid.lss rfl rfl rfl) rfl rfl ?_ -- law.go:50 binOp
  refine Runs_nil ?_
  refine thenQ_n ?_
  refine W_seq ?_
  refine W_cond _ rfl (fun hb1 => ?_) (fun hb1 => ?_)
  · try simp only [decide_eq_true_eq] at hb1
    all_goals (
      refine W_skip ?_
      refine thenQ_n ?_
      refine W_seq ?_
      refine W_block ?_
      refine W_seq ?_
      refine W_regionE (c := 17) (c' := 20) (by kernel_rfl) rfl ?_
      refine Runs_p rfl (Valid.eltS rfl Try.underlying25 sz22 rfl rfl (by first | omega | (simp only [Int.toNat_natCast, toNat_add, toNat_add1, List.length_append, List.length_cons, List.length_nil, List.length_replicate]; omega))) rfl rfl ?_ -- law.go:50 indexAddr
      refine Runs_p rfl (Valid.loadS rfl ag22 rfl) rfl rfl ?_ -- law.go:50 load
      refine Runs_p rfl (Valid.assignk (A := Sl 1 _ _) rfl rfl) rfl rfl ?_ -- law.go:50 assign
      refine Runs_nil ?_
      refine thenQ_n ?_
      refine W_seq ?_
      have hm := twoI_len _ _ hml (show l.length ≤ 300 by omega) (k : Int).toNat
      generalize twoI (so.take (min (so.length : Int) 300).toNat) l (k : Int).toNat = m at *
      refine W_regionE (c := 20) (c' := 28) (by kernel_rfl) rfl ?_
      refine Runs_p rfl (Valid.movek (A := Sl 1 _ _) rfl rfl) rfl rfl ?_ -- law.go:51 move
      refine Runs_p rfl (Valid.call rfl (put_s m (by omega)) ⟨argle_sl (Reads.sl rfl), trivial⟩) rfl rfl ?_ -- law.go:51 call
      refine Runs_p rfl (Valid.movek (A := Tup [Agg [Is _, Is _], Is _]) rfl rfl) rfl rfl ?_ -- law.go:51 move
      refine Runs_p rfl (Valid.extract _ rfl rfl rfl) rfl rfl ?_ -- law.go:51 extract
      refine Runs_p rfl (Valid.extract _ rfl rfl rfl) rfl rfl ?_ -- law.go:51 extract
      refine Runs_w rfl (Valid.alloc [(Value.string ⟨#[]⟩), (Value.int .i64 0)] rfl zv27 rfl) rfl rfl ?_ -- law.go:51 alloc
      refine Runs_op rfl (Valid.storeagg (l := [_, _]) rfl sz27 rfl rfl (Nat.le_of_ble_eq_true rfl) rfl ⟨(One.is rfl rfl rfl), (One.is rfl rfl rfl), trivial⟩) rfl ?_ -- law.go:51 store
      refine Runs_p rfl (Valid.assignk (A := Is _) rfl rfl) rfl rfl ?_ -- law.go:51 assign
      refine Runs_nil ?_
      refine thenQ_n ?_
      refine W_seq ?_
      refine W_regionE (c := 28) (c' := 36) (by kernel_rfl) rfl ?_
      refine Runs_p rfl (Valid.movek (A := Sl 1 _ _) rfl rfl) rfl rfl ?_ -- law.go:52 move
      refine Runs_p rfl (Valid.call rfl (rput_s m (by omega)) ⟨argle_sl (Reads.sl rfl), trivial⟩) rfl rfl ?_ -- law.go:52 call
      refine Runs_p rfl (Valid.movek (A := Tup [Agg [Is _, Is _], Is _]) rfl rfl) rfl rfl ?_ -- law.go:52 move
      refine Runs_p rfl (Valid.extract _ rfl rfl rfl) rfl rfl ?_ -- law.go:52 extract
      refine Runs_p rfl (Valid.extract _ rfl rfl rfl) rfl rfl ?_ -- law.go:52 extract
      refine Runs_w rfl (Valid.alloc [(Value.string ⟨#[]⟩), (Value.int .i64 0)] rfl zv27 rfl) rfl rfl ?_ -- law.go:52 alloc
      refine Runs_op rfl (Valid.storeagg (l := [_, _]) rfl sz27 rfl rfl (Nat.le_of_ble_eq_true rfl) rfl ⟨(One.is rfl rfl rfl), (One.is rfl rfl rfl), trivial⟩) rfl ?_ -- law.go:52 store
      refine Runs_p rfl (Valid.assignk (A := Is _) rfl rfl) rfl rfl ?_ -- law.go:52 assign
      refine Runs_nil ?_
      refine thenQ_n ?_
      refine W_seq ?_
      refine W_regionE (c := 36) (c' := 44) (by kernel_rfl) rfl ?_
      refine Runs_p rfl (Valid.loadagg rfl ag27 sz27 rfl rfl (Nat.le_of_ble_eq_true rfl)) rfl rfl ?_ -- law.go:53 load
      refine Runs_p rfl (Valid.loadagg rfl ag27 sz27 rfl rfl (Nat.le_of_ble_eq_true rfl)) rfl rfl ?_ -- law.go:53 load
      refine Runs_p rfl (Valid.sneS tf27 rfl rfl rfl) rfl rfl ?_ -- law.go:53 binOp
      refine Runs_p rfl (Valid.movek (A := Is _) rfl rfl) rfl rfl ?_ -- law.go:53 move
      refine Runs_cnd rfl rfl (Grd.is rfl) [] (fun hg => trivial) (fun hg => Valid.movek (A := Is _) rfl rfl) (by rfl) rfl ?_
      refine Runs_cnd rfl rfl (Grd.is rfl) [] (fun hg => trivial) (fun hg => Valid.movek (A := Is _) rfl rfl) (by rfl) rfl ?_
      refine Runs_cnd rfl rfl (Grd.is rfl) [(66, _), (67, _)] (fun hg => ⟨cnd_at rfl (by first | exact hg | exact hg.1 | exact hg.1.1 | exact hg.1.1.1), cnd_at rfl (by first | exact hg | exact hg.1 | exact hg.1.1 | exact hg.1.1.1), trivial⟩) (fun hg => Valid.neq rfl rfl rfl) (by rfl) rfl ?_
      refine Runs_p rfl (Valid.pickor rfl rfl rfl rfl (fun h => by first | exact h | exact ⟨hg, h⟩)) rfl rfl ?_ -- law.go:53 pick
      refine Runs_nil ?_
      refine thenQ_n ?_
      refine W_cond _ rfl (fun hb2 => ?_) (fun hb2 => ?_)
      · try simp only [decide_eq_true_eq, decide_eq_false_iff_not, Bool.or_eq_true, Bool.not_eq_true', not_true_eq_false, ne_eq] at hb2
        all_goals (
          refine W_seq ?_
          refine W_regionE (c := 44) (c' := 45) (by kernel_rfl) rfl ?_
          refine Runs_p rfl (Valid.assignk (A := Is _) rfl rfl) rfl rfl ?_ -- law.go:54 assign
          refine Runs_nil ?_
          refine thenQ_n ?_
          refine W_ret ?_
          refine blockQ_r ?_
          refine thenQ_r ?_
          refine loopQ_r ?_
          refine blockQ_r ?_
          refine thenQ_r ?_
          refine finQ_r ?_
          refine ResOk.one rfl (RVal.is rfl rfl (by first | rfl | (exfalso; simp at hb1; done) | (exfalso; simp at hb2; done) | (exfalso; simp at hb3; done) | (exfalso; simp at hb4; done) | (exfalso; simp at hb5; done) | (exfalso; simp at hb6; done) | (exfalso; simp at hb7; done) | (exfalso; simp at hb8; done) | (exfalso; simp at hb9; done) | (exfalso; simp at hb10; done) | (exfalso; simp at hb11; done) | (exfalso; simp at hb12; done) | (exfalso; simp at hb13; done)))
          done)
      · try simp only [decide_eq_true_eq, decide_eq_false_iff_not, Bool.or_eq_false_iff, Bool.not_eq_false', not_true_eq_false, not_false_eq_true, ne_eq] at hb2
        all_goals (
          refine W_skip ?_
          refine blockQ_n ?_
          refine thenQ_n ?_
          refine W_regionE (c := 44) (c' := 46) (by kernel_rfl) rfl ?_
          refine Runs_p rfl (Valid.add rfl rfl rfl (room64 (by first | omega | (simp only [Int.toNat_natCast, toNat_add, toNat_add1, List.length_append, List.length_cons, List.length_nil, List.length_replicate]; omega)) (by first | omega | (simp only [Int.toNat_natCast, toNat_add, toNat_add1, List.length_append, List.length_cons, List.length_nil, List.length_replicate]; omega)))) rfl rfl ?_ -- law.go:50 binOp
          refine Runs_p rfl (Valid.movek (A := Is _) rfl rfl) rfl rfl ?_ -- law.go:50 move
          refine Runs_nil ?_
          refine LoopQ.next (k + 1) [] (by omega) (by omega) ⟨⟨(leq_is rfl rfl (by first | rfl)), trivial⟩, ⟨(leq_is rfl rfl rfl), (leq_is rfl rfl rfl), (leq_is rfl rfl rfl), (leq_is rfl rfl rfl), (leq_is rfl rfl rfl), (leq_sl (Reads.sl rfl) rfl rfl rfl), (leq_sls rfl rfl), (leq_is rfl rfl rfl), trivial⟩, trivial, trivial, rfl, ⟨supg rfl, trivial⟩, ⟨supg rfl, supg rfl, supg rfl, supg rfl, supg rfl, supg rfl, supg rfl, supg rfl, trivial⟩, trivial, trivial, rfl, rfl⟩
          done)
      done)
  · try simp only [decide_eq_false_iff_not] at hb1
    all_goals (
      refine W_exit ?_
      refine thenQ_e ?_
      refine loopQ_e ?_
      refine blockQ_x ?_
      refine thenQ_n ?_
      refine W_seq ?_
      refine W_regionE (c := 17) (c' := 25) (by kernel_rfl) rfl ?_
      refine Runs_p rfl (Valid.movek (A := Sl 1 _ _) rfl rfl) rfl rfl ?_ -- law.go:57 move
      refine Runs_p rfl (Valid.call rfl (rp_t hpd rfl rfl (by omega)) ⟨argle_sl (Reads.sl rfl), trivial⟩) rfl rfl ?_ -- law.go:57 call
      refine Runs_p rfl (Valid.movek (A := Tup [Agg [Is _, Is _], Is _]) rfl rfl) rfl rfl ?_ -- law.go:57 move
      refine Runs_p rfl (Valid.extract _ rfl rfl rfl) rfl rfl ?_ -- law.go:57 extract
      refine Runs_p rfl (Valid.extract _ rfl rfl rfl) rfl rfl ?_ -- law.go:57 extract
      refine Runs_w rfl (Valid.alloc [(Value.string ⟨#[]⟩), (Value.int .i64 0)] rfl zv27 rfl) rfl rfl ?_ -- law.go:57 alloc
      refine Runs_op rfl (Valid.storeagg (l := [_, _]) rfl sz27 rfl rfl (Nat.le_of_ble_eq_true rfl) rfl ⟨(One.is rfl rfl rfl), (One.is rfl rfl rfl), trivial⟩) rfl ?_ -- law.go:57 store
      refine Runs_p rfl (Valid.assignk (A := Is _) rfl rfl) rfl rfl ?_ -- law.go:57 assign
      refine Runs_nil ?_
      refine thenQ_n ?_
      refine W_seq ?_
      refine W_regionE (c := 25) (c' := 29) (by kernel_rfl) rfl ?_
      refine Runs_p rfl (Valid.fieldaddr (off' := 0) rfl rfl (fun _ _ => by kernel_rfl)) rfl rfl ?_ -- law.go:58 fieldAddr
      refine Runs_p rfl (Valid.load _ rfl ag9 rfl rfl rfl) rfl rfl ?_ -- law.go:58 load
      refine Runs_w rfl (Valid.tobuf rfl Try.underlying31 Try.underlying5 Try.underlying9 rfl (by first | omega | (simp only [Int.toNat_natCast, toNat_add, toNat_add1, List.length_append, List.length_cons, List.length_nil, List.length_replicate]; omega))) rfl rfl ?_ -- law.go:58 convert
      refine Runs_p rfl (Valid.assignk (A := Buf 216 _) rfl rfl) rfl rfl ?_ -- law.go:58 assign
      refine Runs_nil ?_
      refine thenQ_n ?_
      refine W_seq ?_
      have hds : (pack (dB l)).size ≤ 400 := by omega
      have hdp : 0 < (pack (dB l)).size := by omega
      generalize pack (dB l) = d at *
      refine W_regionE (c := 29) (c' := 35) (by kernel_rfl) rfl ?_
      refine Runs_p rfl (Valid.movek (A := Is _) rfl rfl) rfl rfl ?_ -- law.go:59 move
      refine Runs_p rfl (Valid.movek (A := Buf 216 _) rfl rfl) rfl rfl ?_ -- law.go:59 move
      refine Runs_p rfl (Valid.lenB rfl Try.underlying31 rfl) rfl rfl ?_ -- law.go:59 call
      refine Runs_p rfl (Valid.mul rfl rfl rfl (room64 (by first | omega | (simp only [Int.toNat_natCast, toNat_add, toNat_add1, List.length_append, List.length_cons, List.length_nil, List.length_replicate]; omega)) (by first | omega | (simp only [Int.toNat_natCast, toNat_add, toNat_add1, List.length_append, List.length_cons, List.length_nil, List.length_replicate]; omega)))) rfl rfl ?_ -- law.go:59 binOp
      refine Runs_p rfl (Valid.call rfl (pick9_s _ _ ww0.1 ww0.2 (by omega) (by omega)) ⟨argle rfl, argle rfl, trivial⟩) rfl rfl ?_ -- law.go:59 call
      refine Runs_p rfl (Valid.assignk (A := Is _) rfl rfl) rfl rfl ?_ -- law.go:59 assign
      refine Runs_nil ?_
      refine thenQ_n ?_
      refine W_seq ?_
      have hkr := pickV_range w0 (8 * (d.size : Int)) (by omega)
      generalize pickV w0 (8 * (d.size : Int)) = kk at *
      have hdl : d.data.toList.length = d.size := rfl
      have htz := turnS_size d kk
      have hxs : (s.extract 0 (min (s.size : Int) 60).toNat).size ≤ 60 := by rw [ByteArray.size_extract]; omega
      refine W_drawE (c := 35) (c' := 49) (by kernel_rfl) rfl ?_
      refine Runs_p rfl (Valid.movek (A := Buf 216 _) rfl rfl) rfl rfl ?_ -- law.go:60 move
      refine Runs_p rfl (Valid.movek (A := Is _) rfl rfl) rfl rfl ?_ -- law.go:60 move
      refine Runs_p rfl (Valid.quo rfl rfl rfl (by first | omega | (simp only [Int.toNat_natCast, toNat_add, toNat_add1, List.length_append, List.length_cons, List.length_nil, List.length_replicate]; omega)) (by first | omega | (simp only [Int.toNat_natCast, toNat_add, toNat_add1, List.length_append, List.length_cons, List.length_nil, List.length_replicate]; omega)) (room64 (by first | omega | (simp only [Int.toNat_natCast, toNat_add, toNat_add1, List.length_append, List.length_cons, List.length_nil, List.length_replicate]; omega)) (by first | omega | (simp only [Int.toNat_natCast, toNat_add, toNat_add1, List.length_append, List.length_cons, List.length_nil, List.length_replicate]; omega)))) rfl rfl ?_ -- law.go:60 binOp
      refine Runs_p rfl (Valid.movek (A := Buf 216 _) rfl rfl) rfl rfl ?_ -- law.go:60 move
      refine Runs_p rfl (Valid.movek (A := Is _) rfl rfl) rfl rfl ?_ -- law.go:60 move
      refine Runs_p rfl (Valid.quo rfl rfl rfl (by first | omega | (simp only [Int.toNat_natCast, toNat_add, toNat_add1, List.length_append, List.length_cons, List.length_nil, List.length_replicate]; omega)) (by first | omega | (simp only [Int.toNat_natCast, toNat_add, toNat_add1, List.length_append, List.length_cons, List.length_nil, List.length_replicate]; omega)) (room64 (by first | omega | (simp only [Int.toNat_natCast, toNat_add, toNat_add1, List.length_append, List.length_cons, List.length_nil, List.length_replicate]; omega)) (by first | omega | (simp only [Int.toNat_natCast, toNat_add, toNat_add1, List.length_append, List.length_cons, List.length_nil, List.length_replicate]; omega)))) rfl rfl ?_ -- law.go:60 binOp
      refine Runs_p rfl (Valid.idxB rfl Try.underlying31 sz5 rfl rfl (by first | omega | (simp only [Int.toNat_natCast, toNat_add, toNat_add1, List.length_append, List.length_cons, List.length_nil, List.length_replicate]; omega))) rfl rfl ?_ -- law.go:60 indexAddr
      refine Runs_p rfl (Valid.loadB 0 rfl ag5 rfl rfl (by simp; omega)) rfl rfl ?_ -- law.go:60 load
      refine Runs_p rfl (Valid.movek (A := Is _) rfl rfl) rfl rfl ?_ -- law.go:60 move
      refine Runs_p rfl (Valid.rem rfl rfl rfl (by first | omega | (simp only [Int.toNat_natCast, toNat_add, toNat_add1, List.length_append, List.length_cons, List.length_nil, List.length_replicate]; omega)) (by first | omega | (simp only [Int.toNat_natCast, toNat_add, toNat_add1, List.length_append, List.length_cons, List.length_nil, List.length_replicate]; omega))) rfl rfl ?_ -- law.go:60 binOp
      refine Runs_p rfl (Valid.shrw rfl rfl rfl (by first | omega | (simp only [Int.toNat_natCast, toNat_add, toNat_add1, List.length_append, List.length_cons, List.length_nil, List.length_replicate]; omega))) rfl rfl ?_ -- law.go:60 binOp
      refine Runs_p rfl (Valid.bits rfl rfl rfl (fun w => xor_m _ kk (by omega) w)) rfl rfl ?_ -- law.go:60 binOp
      refine Runs_p rfl (Valid.idxB rfl Try.underlying31 sz5 rfl rfl (by first | omega | (simp only [Int.toNat_natCast, toNat_add, toNat_add1, List.length_append, List.length_cons, List.length_nil, List.length_replicate]; omega))) rfl rfl ?_ -- law.go:60 indexAddr
      refine Runs_op rfl (Valid.storeB _ rfl sz5 rfl rfl (by simp; omega) rfl (One.is rfl rfl rfl)) rfl ?_ -- law.go:60 store
      refine Runs_nil ?_
      refine ⟨_, _, rfl, rfl, by kernel_rfl, ?_⟩
      refine thenQ_n ?_
      refine W_seq ?_
      refine W_seq ?_
      refine W_drawE (c := 49) (c' := 61) (by kernel_rfl) rfl ?_
      refine Runs_p rfl (Valid.movek (A := Is _) rfl rfl) rfl rfl ?_ -- law.go:61 move
      refine Runs_p rfl (Valid.movek (A := Is _) rfl rfl) rfl rfl ?_ -- law.go:61 move
      refine Runs_p rfl (Valid.slen rfl Try.underlying9 rfl) rfl rfl ?_ -- law.go:61 call
      refine Runs_p rfl (Valid.min rfl rfl rfl) rfl rfl ?_ -- law.go:61 call
      refine Runs_p rfl (Valid.ssliceto rfl Try.underlying9 rfl rfl (by first | omega | (simp only [Int.toNat_natCast, toNat_add, toNat_add1, List.length_append, List.length_cons, List.length_nil, List.length_replicate]; omega))) rfl rfl ?_ -- law.go:61 slice
      refine Runs_p rfl (Valid.fieldaddr (off' := 0) rfl rfl (fun _ _ => by kernel_rfl)) rfl rfl ?_ -- law.go:61 fieldAddr
      refine Runs_p rfl (Valid.load _ rfl ag9 rfl rfl rfl) rfl rfl ?_ -- law.go:61 load
      refine Runs_p rfl (Valid.movek (A := Buf 216 _) rfl rfl) rfl rfl ?_ -- law.go:61 move
      refine Runs_p rfl (Valid.stringB rfl Try.underlying31 Try.underlying5 Try.underlying9 rfl rfl) rfl rfl ?_ -- law.go:61 convert
      refine Runs_p rfl (Valid.lit (el := 9) ((threeS (s.extract 0 (min (s.size : Int) 60).toNat) d (turnS d kk)).map Value.string) rfl rfl (fun _ => by kernel_rfl) rfl (by decide)) rfl rfl ?_ -- law.go:61 buildSlice
      refine Runs_p rfl (Valid.len rfl Try.underlying33 (Reads.sl rfl)) rfl rfl ?_ -- law.go:61 call
      refine Runs_p rfl (Valid.movek (A := Is _) rfl rfl) rfl rfl ?_ -- law.go:61 move
      refine Runs_nil ?_
      refine ⟨_, _, rfl, rfl, by kernel_rfl, ?_⟩
      refine thenQ_n ?_
      refine W_block ?_
      refine W_loopx (G := Nat) (fun (q : Nat) => q ≤ 3) [(3, Is _), (4, Is _), (13, Is _), (14, Sl 1 _ _), (106, Sl 1 3 ((threeS (s.extract 0 (min (s.size : Int) 60).toNat) d (turnS d kk)).map Value.string)), (107, Is _)] (fun (q : Nat) => [(108, Is (.int .i64 (q : Int)))]) [] (fun (q : Nat) => []) 61 (fun (q : Nat) => 3 - q) (0) [] (by first | trivial | omega | (simp; omega)) ⟨⟨(leq_is rfl rfl (by first | rfl)), trivial⟩, ⟨(leq_is rfl rfl rfl), (leq_is rfl rfl rfl), (leq_is rfl rfl rfl), (leq_sl (Reads.sl rfl) rfl rfl rfl), (leq_sl (Reads.sl rfl) rfl rfl rfl), (leq_is rfl rfl rfl), trivial⟩, trivial, trivial, rfl, ⟨supg rfl, trivial⟩, ⟨supg rfl, supg rfl, supg rfl, supg rfl, supg rfl, supg rfl, trivial⟩, trivial, trivial, rfl, rfl⟩ ?_
      intro q hI2
      refine W_seq ?_
      refine W_regionE (c := 61) (c' := 62) (by kernel_rfl) rfl ?_
      refine Runs_p rfl (Valid.lss rfl rfl rfl) rfl rfl ?_ -- law.go:61 binOp
      refine Runs_nil ?_
      refine thenQ_n ?_
      refine W_seq ?_
      refine W_cond _ rfl (fun hb3 => ?_) (fun hb3 => ?_)
      · try simp only [decide_eq_true_eq] at hb3
        all_goals (
          refine W_skip ?_
          refine thenQ_n ?_
          refine W_seq ?_
          refine W_block ?_
          refine W_seq ?_
          refine W_regionE (c := 62) (c' := 65) (by kernel_rfl) rfl ?_
          refine Runs_p rfl (Valid.eltaddr1 ByteArray.empty rfl Try.underlying33 sz9 (Reads.sl rfl) rfl (by first | omega | (simp only [Int.toNat_natCast, toNat_add, toNat_add1, List.length_append, List.length_cons, List.length_nil, List.length_replicate]; omega)) (by first | rfl | simp)) rfl rfl ?_ -- law.go:61 indexAddr
          refine Runs_p rfl (Valid.loadelt rfl ag9 rfl) rfl rfl ?_ -- law.go:61 load
          refine Runs_p rfl (Valid.assignk (A := Is _) rfl rfl) rfl rfl ?_ -- law.go:61 assign
          refine Runs_nil ?_
          refine thenQ_n ?_
          refine W_seq ?_
          have hx := threeS_size (s.extract 0 (min (s.size : Int) 60).toNat) d (turnS d kk) (by omega) (by omega) (by omega) (q : Int).toNat (by omega)
          generalize (threeS (s.extract 0 (min (s.size : Int) 60).toNat) d (turnS d kk)).getD (q : Int).toNat ByteArray.empty = x at *
          refine W_regionE (c := 65) (c' := 71) (by kernel_rfl) rfl ?_
          refine Runs_p rfl (Valid.movek (A := Is _) rfl rfl) rfl rfl ?_ -- law.go:62 move
          refine Runs_p rfl (Valid.movek (A := Is _) rfl rfl) rfl rfl ?_ -- law.go:62 move
          refine Runs_p rfl (Valid.call rfl (pick9_s _ _ wa0.1 wa0.2 (by decide) (by decide)) ⟨argle rfl, argle rfl, trivial⟩) rfl rfl ?_ -- law.go:62 call
          refine Runs_p rfl (Valid.lit (el := 3) ((twoN a0 (pickV a0 20)).map (Value.int .i64)) rfl rfl (fun _ => by kernel_rfl) rfl (by decide)) rfl rfl ?_ -- law.go:62 buildSlice
          refine Runs_p rfl (Valid.len rfl Try.underlying22 (Reads.sl rfl)) rfl rfl ?_ -- law.go:62 call
          refine Runs_p rfl (Valid.movek (A := Is _) rfl rfl) rfl rfl ?_ -- law.go:62 move
          refine Runs_nil ?_
          refine thenQ_n ?_
          refine W_block ?_
          refine W_loopx (G := Nat) (fun (i : Nat) => i ≤ 2) [(3, Is _), (4, Is _), (13, Is _), (14, Sl 1 _ _), (26, Is _), (106, Sl 1 _ _), (107, Is _), (108, Is _), (115, Sl 1 2 ((twoN a0 (pickV a0 20)).map (Value.int .i64))), (116, Is _)] (fun (i : Nat) => [(117, Is (.int .i64 (i : Int)))]) [] (fun (i : Nat) => []) 71 (fun (i : Nat) => 2 - i) (0) [] (by first | trivial | omega | (simp; omega)) ⟨⟨(leq_is rfl rfl (by first | rfl)), trivial⟩, ⟨(leq_is rfl rfl rfl), (leq_is rfl rfl rfl), (leq_is rfl rfl rfl), (leq_sl (Reads.sl rfl) rfl rfl rfl), (leq_is rfl rfl rfl), (leq_sl (Reads.sl rfl) rfl rfl rfl), (leq_is rfl rfl rfl), (leq_is rfl rfl rfl), (leq_sl (Reads.sl rfl) rfl rfl rfl), (leq_is rfl rfl rfl), trivial⟩, trivial, trivial, rfl, ⟨supg rfl, trivial⟩, ⟨supg rfl, supg rfl, supg rfl, supg rfl, supg rfl, supg rfl, supg rfl, supg rfl, supg rfl, supg rfl, trivial⟩, trivial, trivial, rfl, rfl⟩ ?_
          intro i hI3
          refine W_seq ?_
          refine W_regionE (c := 71) (c' := 72) (by kernel_rfl) rfl ?_
          refine Runs_p rfl (Valid.lss rfl rfl rfl) rfl rfl ?_ -- law.go:62 binOp
          refine Runs_nil ?_
          refine thenQ_n ?_
          refine W_seq ?_
          refine W_cond _ rfl (fun hb4 => ?_) (fun hb4 => ?_)
          · try simp only [decide_eq_true_eq] at hb4
            all_goals (
              refine W_skip ?_
              refine thenQ_n ?_
              refine W_seq ?_
              refine W_block ?_
              refine W_seq ?_
              refine W_regionE (c := 72) (c' := 75) (by kernel_rfl) rfl ?_
              refine Runs_p rfl (Valid.eltaddr1 0 rfl Try.underlying22 sz3 (Reads.sl rfl) rfl (by first | omega | (simp only [Int.toNat_natCast, toNat_add, toNat_add1, List.length_append, List.length_cons, List.length_nil, List.length_replicate]; omega)) (by first | rfl | simp)) rfl rfl ?_ -- law.go:62 indexAddr
              refine Runs_p rfl (Valid.loadelt rfl ag3 rfl) rfl rfl ?_ -- law.go:62 load
              refine Runs_p rfl (Valid.assignk (A := Is _) rfl rfl) rfl rfl ?_ -- law.go:62 assign
              refine Runs_nil ?_
              refine thenQ_n ?_
              refine W_seq ?_
              have hp20 := pickV_range a0 20 (by decide)
              have hn20 := pickV_range n0 20 (by decide)
              have haw := (twoN_in (b := pickV a0 20) wa0 (by omega)).at_ (i : Int).toNat
              generalize (twoN a0 (pickV a0 20)).getD (i : Int).toNat 0 = a at *
              refine W_regionE (c := 75) (c' := 84) (by kernel_rfl) rfl ?_
              refine Runs_p rfl (Valid.movek (A := Is _) rfl rfl) rfl rfl ?_ -- law.go:63 move
              refine Runs_p rfl (Valid.movek (A := Is _) rfl rfl) rfl rfl ?_ -- law.go:63 move
              refine Runs_p rfl (Valid.call rfl (pick9_s _ _ wn0.1 wn0.2 (by decide) (by decide)) ⟨argle rfl, argle rfl, trivial⟩) rfl rfl ?_ -- law.go:63 call
              refine Runs_p rfl (Valid.add rfl rfl rfl (room64 (by first | omega | (simp only [Int.toNat_natCast, toNat_add, toNat_add1, List.length_append, List.length_cons, List.length_nil, List.length_replicate]; omega)) (by first | omega | (simp only [Int.toNat_natCast, toNat_add, toNat_add1, List.length_append, List.length_cons, List.length_nil, List.length_replicate]; omega)))) rfl rfl ?_ -- law.go:63 binOp
              refine Runs_p rfl (Valid.movek (A := Sl 1 _ _) rfl rfl) rfl rfl ?_ -- law.go:63 move
              refine Runs_p rfl (Valid.len rfl Try.underlying22 (Reads.sl rfl)) rfl rfl ?_ -- law.go:63 call
              refine Runs_p rfl (Valid.lit (el := 3) ((threeN n0 (2 + pickV n0 20) (l.length : Int)).map (Value.int .i64)) rfl rfl (fun _ => by kernel_rfl) rfl (by decide)) rfl rfl ?_ -- law.go:63 buildSlice
              refine Runs_p rfl (Valid.len rfl Try.underlying22 (Reads.sl rfl)) rfl rfl ?_ -- law.go:63 call
              refine Runs_p rfl (Valid.movek (A := Is _) rfl rfl) rfl rfl ?_ -- law.go:63 move
              refine Runs_nil ?_
              refine thenQ_n ?_
              refine W_block ?_
              refine W_loopx (G := Nat) (fun (v : Nat) => v ≤ 3) [(3, Is _), (4, Is _), (13, Is _), (14, Sl 1 _ _), (26, Is _), (28, Is _), (106, Sl 1 _ _), (107, Is _), (108, Is _), (115, Sl 1 _ _), (116, Is _), (117, Is _), (127, Sl 1 3 ((threeN n0 (2 + pickV n0 20) (l.length : Int)).map (Value.int .i64))), (128, Is _)] (fun (v : Nat) => [(129, Is (.int .i64 (v : Int)))]) [] (fun (v : Nat) => []) 84 (fun (v : Nat) => 3 - v) (0) [] (by first | trivial | omega | (simp; omega)) ⟨⟨(leq_is rfl rfl (by first | rfl)), trivial⟩, ⟨(leq_is rfl rfl rfl), (leq_is rfl rfl rfl), (leq_is rfl rfl rfl), (leq_sl (Reads.sl rfl) rfl rfl rfl), (leq_is rfl rfl rfl), (leq_is rfl rfl rfl), (leq_sl (Reads.sl rfl) rfl rfl rfl), (leq_is rfl rfl rfl), (leq_is rfl rfl rfl), (leq_sl (Reads.sl rfl) rfl rfl rfl), (leq_is rfl rfl rfl), (leq_is rfl rfl rfl), (leq_sl (Reads.sl rfl) rfl rfl rfl), (leq_is rfl rfl rfl), trivial⟩, trivial, trivial, rfl, ⟨supg rfl, trivial⟩, ⟨supg rfl, supg rfl, supg rfl, supg rfl, supg rfl, supg rfl, supg rfl, supg rfl, supg rfl, supg rfl, supg rfl, supg rfl, supg rfl, supg rfl, trivial⟩, trivial, trivial, rfl, rfl⟩ ?_
              intro v hI4
              refine W_seq ?_
              refine W_regionE (c := 84) (c' := 85) (by kernel_rfl) rfl ?_
              refine Runs_p rfl (Valid.lss rfl rfl rfl) rfl rfl ?_ -- law.go:63 binOp
              refine Runs_nil ?_
              refine thenQ_n ?_
              refine W_seq ?_
              refine W_cond _ rfl (fun hb5 => ?_) (fun hb5 => ?_)
              · try simp only [decide_eq_true_eq] at hb5
                all_goals (
                  refine W_skip ?_
                  refine thenQ_n ?_
                  refine W_seq ?_
                  refine W_block ?_
                  refine W_seq ?_
                  refine W_regionE (c := 85) (c' := 88) (by kernel_rfl) rfl ?_
                  refine Runs_p rfl (Valid.eltaddr1 0 rfl Try.underlying22 sz3 (Reads.sl rfl) rfl (by first | omega | (simp only [Int.toNat_natCast, toNat_add, toNat_add1, List.length_append, List.length_cons, List.length_nil, List.length_replicate]; omega)) (by first | rfl | simp)) rfl rfl ?_ -- law.go:63 indexAddr
                  refine Runs_p rfl (Valid.loadelt rfl ag3 rfl) rfl rfl ?_ -- law.go:63 load
                  refine Runs_p rfl (Valid.assignk (A := Is _) rfl rfl) rfl rfl ?_ -- law.go:63 assign
                  refine Runs_nil ?_
                  refine thenQ_n ?_
                  refine W_seq ?_
                  have hnw := (threeN_in (b := 2 + pickV n0 20) (c := (l.length : Int)) wn0 (by omega) (by omega)).at_ (v : Int).toNat
                  generalize (threeN n0 (2 + pickV n0 20) (l.length : Int)).getD (v : Int).toNat 0 = n at *
                  have htl := take_le x a n
                  refine W_regionE (c := 88) (c' := 99) (by kernel_rfl) rfl ?_
                  refine Runs_p rfl (Valid.movek (A := Is _) rfl rfl) rfl rfl ?_ -- law.go:64 move
                  refine Runs_p rfl (Valid.movek (A := Is _) rfl rfl) rfl rfl ?_ -- law.go:64 move
                  refine Runs_p rfl (Valid.movek (A := Is _) rfl rfl) rfl rfl ?_ -- law.go:64 move
                  refine Runs_p rfl (Valid.call rfl (take_s x (by omega) a n haw hnw) ⟨argle rfl, argle rfl, argle rfl, trivial⟩) rfl rfl ?_ -- law.go:64 call
                  refine Runs_p rfl (Valid.movek (A := Tup [Sl 1 _ _, Is _, Is _]) rfl rfl) rfl rfl ?_ -- law.go:64 move
                  refine Runs_p rfl (Valid.extract _ rfl rfl rfl) rfl rfl ?_ -- law.go:64 extract
                  refine Runs_p rfl (Valid.extract _ rfl rfl rfl) rfl rfl ?_ -- law.go:64 extract
                  refine Runs_p rfl (Valid.extract _ rfl rfl rfl) rfl rfl ?_ -- law.go:64 extract
                  refine Runs_p rfl (Valid.assignk (A := Sl 1 _ _) rfl rfl) rfl rfl ?_ -- law.go:64 assign
                  refine Runs_p rfl (Valid.assignk (A := Is _) rfl rfl) rfl rfl ?_ -- law.go:64 assign
                  refine Runs_p rfl (Valid.assignk (A := Is _) rfl rfl) rfl rfl ?_ -- law.go:64 assign
                  refine Runs_nil ?_
                  refine thenQ_n ?_
                  refine W_seq ?_
                  refine W_regionE (c := 99) (c' := 110) (by kernel_rfl) rfl ?_
                  refine Runs_p rfl (Valid.movek (A := Is _) rfl rfl) rfl rfl ?_ -- law.go:65 move
                  refine Runs_p rfl (Valid.movek (A := Is _) rfl rfl) rfl rfl ?_ -- law.go:65 move
                  refine Runs_p rfl (Valid.movek (A := Is _) rfl rfl) rfl rfl ?_ -- law.go:65 move
                  refine Runs_p rfl (Valid.call rfl (rtake_s x (by omega) a n haw hnw) ⟨argle rfl, argle rfl, argle rfl, trivial⟩) rfl rfl ?_ -- law.go:65 call
                  refine Runs_p rfl (Valid.movek (A := Tup [Sl 1 _ _, Is _, Is _]) rfl rfl) rfl rfl ?_ -- law.go:65 move
                  refine Runs_p rfl (Valid.extract _ rfl rfl rfl) rfl rfl ?_ -- law.go:65 extract
                  refine Runs_p rfl (Valid.extract _ rfl rfl rfl) rfl rfl ?_ -- law.go:65 extract
                  refine Runs_p rfl (Valid.extract _ rfl rfl rfl) rfl rfl ?_ -- law.go:65 extract
                  refine Runs_p rfl (Valid.assignk (A := Sl 1 _ _) rfl rfl) rfl rfl ?_ -- law.go:65 assign
                  refine Runs_p rfl (Valid.assignk (A := Is _) rfl rfl) rfl rfl ?_ -- law.go:65 assign
                  refine Runs_p rfl (Valid.assignk (A := Is _) rfl rfl) rfl rfl ?_ -- law.go:65 assign
                  refine Runs_nil ?_
                  refine thenQ_n ?_
                  refine W_seq ?_
                  refine W_regionE (c := 110) (c' := 124) (by kernel_rfl) rfl ?_
                  refine Runs_p rfl (Valid.movek (A := Is _) rfl rfl) rfl rfl ?_ -- law.go:66 move
                  refine Runs_p rfl (Valid.movek (A := Is _) rfl rfl) rfl rfl ?_ -- law.go:66 move
                  refine Runs_p rfl (Valid.neq rfl rfl rfl) rfl rfl ?_ -- law.go:66 binOp
                  refine Runs_p rfl (Valid.movek (A := Is _) rfl rfl) rfl rfl ?_ -- law.go:66 move
                  refine Runs_cnd rfl rfl (Grd.is rfl) [] (fun hg => trivial) (fun hg => Valid.movek (A := Is _) rfl rfl) (by rfl) rfl ?_
                  refine Runs_cnd rfl rfl (Grd.is rfl) [] (fun hg => trivial) (fun hg => Valid.movek (A := Is _) rfl rfl) (by rfl) rfl ?_
                  refine Runs_cnd rfl rfl (Grd.is rfl) [(153, _), (154, _)] (fun hg => ⟨cnd_at rfl (by first | exact hg | exact hg.1 | exact hg.1.1 | exact hg.1.1.1), cnd_at rfl (by first | exact hg | exact hg.1 | exact hg.1.1 | exact hg.1.1.1), trivial⟩) (fun hg => Valid.neq rfl rfl rfl) (by rfl) rfl ?_
                  refine Runs_p rfl (Valid.pickor rfl rfl rfl rfl (fun h => by first | exact h | exact ⟨hg, h⟩)) rfl rfl ?_ -- law.go:66 pick
                  refine Runs_p rfl (Valid.movek (A := Is _) rfl rfl) rfl rfl ?_ -- law.go:66 move
                  refine Runs_cnd rfl rfl (Grd.is rfl) [] (fun hg => trivial) (fun hg => Valid.movek (A := Sl 1 _ _) rfl rfl) (by rfl) rfl ?_
                  refine Runs_cnd rfl rfl (Grd.is rfl) [] (fun hg => trivial) (fun hg => Valid.movek (A := Sl 1 _ _) rfl rfl) (by rfl) rfl ?_
                  refine Runs_cnd rfl rfl (Grd.is rfl) [(158, _), (159, _)] (fun hg => ⟨cnd_at rfl (by first | exact hg | exact hg.1 | exact hg.1.1 | exact hg.1.1.1), cnd_at rfl (by first | exact hg | exact hg.1 | exact hg.1.1 | exact hg.1.1.1), trivial⟩) (fun hg => Valid.call rfl (ksame (takeD x a n).1 (by (try simp only [decide_eq_false_iff_not, Bool.or_eq_false_iff, not_true_eq_false, not_false_eq_true, ne_eq] at hg); omega)) ⟨argle_sl (Reads.sl rfl), argle_sl (Reads.sl rfl), trivial⟩) (by rfl) rfl ?_
                  refine Runs_cnd rfl rfl (Grd.is rfl) [(160, _)] (fun hg => ⟨cnd_at rfl (by first | exact hg | exact hg.1 | exact hg.1.1 | exact hg.1.1.1), trivial⟩) (fun hg => Valid.not rfl rfl) (by rfl) rfl ?_
                  refine Runs_p rfl (Valid.pickor rfl rfl rfl rfl (fun h => by first | exact h | exact ⟨hg, h⟩)) rfl rfl ?_ -- law.go:66 pick
                  refine Runs_nil ?_
                  refine thenQ_n ?_
                  refine W_cond _ rfl (fun hb6 => ?_) (fun hb6 => ?_)
                  · try simp only [decide_eq_true_eq, Bool.or_eq_true, Bool.not_eq_true', Bool.true_eq_false, not_true_eq_false, ne_eq] at hb6
                    all_goals (
                      refine W_seq ?_
                      refine W_regionE (c := 124) (c' := 125) (by kernel_rfl) rfl ?_
                      refine Runs_p rfl (Valid.assignk (A := Is _) rfl rfl) rfl rfl ?_ -- law.go:67 assign
                      refine Runs_nil ?_
                      refine thenQ_n ?_
                      refine W_ret ?_
                      refine blockQ_r ?_
                      refine thenQ_r ?_
                      refine loopQ_r ?_
                      refine blockQ_r ?_
                      refine blockQ_r ?_
                      refine thenQ_r ?_
                      refine loopQ_r ?_
                      refine blockQ_r ?_
                      refine blockQ_r ?_
                      refine thenQ_r ?_
                      refine loopQ_r ?_
                      refine blockQ_r ?_
                      refine thenQ_r ?_
                      refine finQ_r ?_
                      refine ResOk.one rfl (RVal.is rfl rfl (by first | rfl | (exfalso; simp at hb1; done) | (exfalso; simp at hb2; done) | (exfalso; simp at hb3; done) | (exfalso; simp at hb4; done) | (exfalso; simp at hb5; done) | (exfalso; simp at hb6; done) | (exfalso; simp at hb7; done) | (exfalso; simp at hb8; done) | (exfalso; simp at hb9; done) | (exfalso; simp at hb10; done) | (exfalso; simp at hb11; done) | (exfalso; simp at hb12; done) | (exfalso; simp at hb13; done)))
                      done)
                  · try simp only [decide_eq_false_iff_not, Bool.or_eq_false_iff, Bool.not_eq_false', not_true_eq_false, not_false_eq_true, ne_eq] at hb6
                    all_goals (
                      refine W_skip ?_
                      refine blockQ_n ?_
                      refine thenQ_n ?_
                      refine W_regionE (c := 124) (c' := 126) (by kernel_rfl) rfl ?_
                      refine Runs_p rfl (Valid.add rfl rfl rfl (room64 (by first | omega | (simp only [Int.toNat_natCast, toNat_add, toNat_add1, List.length_append, List.length_cons, List.length_nil, List.length_replicate]; omega)) (by first | omega | (simp only [Int.toNat_natCast, toNat_add, toNat_add1, List.length_append, List.length_cons, List.length_nil, List.length_replicate]; omega)))) rfl rfl ?_ -- law.go:63 binOp
                      refine Runs_p rfl (Valid.movek (A := Is _) rfl rfl) rfl rfl ?_ -- law.go:63 move
                      refine Runs_nil ?_
                      refine LoopQ.next (v + 1) [] (by omega) (by omega) ⟨⟨(leq_is rfl rfl (by first | rfl)), trivial⟩, ⟨(leq_is rfl rfl rfl), (leq_is rfl rfl rfl), (leq_is rfl rfl rfl), (leq_sl (Reads.sl rfl) rfl rfl rfl), (leq_is rfl rfl rfl), (leq_is rfl rfl rfl), (leq_sl (Reads.sl rfl) rfl rfl rfl), (leq_is rfl rfl rfl), (leq_is rfl rfl rfl), (leq_sl (Reads.sl rfl) rfl rfl rfl), (leq_is rfl rfl rfl), (leq_is rfl rfl rfl), (leq_sl (Reads.sl rfl) rfl rfl rfl), (leq_is rfl rfl rfl), trivial⟩, trivial, trivial, rfl, ⟨supg rfl, trivial⟩, ⟨supg rfl, supg rfl, supg rfl, supg rfl, supg rfl, supg rfl, supg rfl, supg rfl, supg rfl, supg rfl, supg rfl, supg rfl, supg rfl, supg rfl, trivial⟩, trivial, trivial, rfl, rfl⟩
                      done)
                  done)
              · try simp only [decide_eq_false_iff_not] at hb5
                all_goals (
                  refine W_exit ?_
                  refine thenQ_e ?_
                  refine loopQ_e ?_
                  refine blockQ_x ?_
                  refine blockQ_n ?_
                  refine thenQ_n ?_
                  refine W_regionE (c := 85) (c' := 87) (by kernel_rfl) rfl ?_
                  refine Runs_p rfl (Valid.add rfl rfl rfl (room64 (by first | omega | (simp only [Int.toNat_natCast, toNat_add, toNat_add1, List.length_append, List.length_cons, List.length_nil, List.length_replicate]; omega)) (by first | omega | (simp only [Int.toNat_natCast, toNat_add, toNat_add1, List.length_append, List.length_cons, List.length_nil, List.length_replicate]; omega)))) rfl rfl ?_ -- law.go:62 binOp
                  refine Runs_p rfl (Valid.movek (A := Is _) rfl rfl) rfl rfl ?_ -- law.go:62 move
                  refine Runs_nil ?_
                  refine LoopQ.next (i + 1) [] (by omega) (by omega) ⟨⟨(leq_is rfl rfl (by first | rfl)), trivial⟩, ⟨(leq_is rfl rfl rfl), (leq_is rfl rfl rfl), (leq_is rfl rfl rfl), (leq_sl (Reads.sl rfl) rfl rfl rfl), (leq_is rfl rfl rfl), (leq_sl (Reads.sl rfl) rfl rfl rfl), (leq_is rfl rfl rfl), (leq_is rfl rfl rfl), (leq_sl (Reads.sl rfl) rfl rfl rfl), (leq_is rfl rfl rfl), trivial⟩, trivial, trivial, rfl, ⟨supg rfl, trivial⟩, ⟨supg rfl, supg rfl, supg rfl, supg rfl, supg rfl, supg rfl, supg rfl, supg rfl, supg rfl, supg rfl, trivial⟩, trivial, trivial, rfl, rfl⟩
                  done)
              done)
          · try simp only [decide_eq_false_iff_not] at hb4
            all_goals (
              refine W_exit ?_
              refine thenQ_e ?_
              refine loopQ_e ?_
              refine blockQ_x ?_
              refine blockQ_n ?_
              refine thenQ_n ?_
              refine W_regionE (c := 72) (c' := 74) (by kernel_rfl) rfl ?_
              refine Runs_p rfl (Valid.add rfl rfl rfl (room64 (by first | omega | (simp only [Int.toNat_natCast, toNat_add, toNat_add1, List.length_append, List.length_cons, List.length_nil, List.length_replicate]; omega)) (by first | omega | (simp only [Int.toNat_natCast, toNat_add, toNat_add1, List.length_append, List.length_cons, List.length_nil, List.length_replicate]; omega)))) rfl rfl ?_ -- law.go:61 binOp
              refine Runs_p rfl (Valid.movek (A := Is _) rfl rfl) rfl rfl ?_ -- law.go:61 move
              refine Runs_nil ?_
              refine LoopQ.next (q + 1) [] (by omega) (by omega) ⟨⟨(leq_is rfl rfl (by first | rfl)), trivial⟩, ⟨(leq_is rfl rfl rfl), (leq_is rfl rfl rfl), (leq_is rfl rfl rfl), (leq_sl (Reads.sl rfl) rfl rfl rfl), (leq_sl (Reads.sl rfl) rfl rfl rfl), (leq_is rfl rfl rfl), trivial⟩, trivial, trivial, rfl, ⟨supg rfl, trivial⟩, ⟨supg rfl, supg rfl, supg rfl, supg rfl, supg rfl, supg rfl, trivial⟩, trivial, trivial, rfl, rfl⟩
              done)
          done)
      · try simp only [decide_eq_false_iff_not] at hb3
        all_goals (
          refine W_exit ?_
          refine thenQ_e ?_
          refine loopQ_e ?_
          refine blockQ_x ?_
          refine thenQ_n ?_
          refine W_seq ?_
          refine W_regionE (c := 62) (c' := 64) (by kernel_rfl) rfl ?_
          refine Runs_p rfl (Valid.movek (A := Is _) rfl rfl) rfl rfl ?_ -- law.go:72 move
          refine Runs_p rfl (Valid.assignk (A := Is _) rfl rfl) rfl rfl ?_ -- law.go:72 assign
          refine Runs_nil ?_
          refine thenQ_n ?_
          refine W_ret ?_
          refine finQ_r ?_
          refine ResOk.one rfl (RVal.is rfl rfl (by first | rfl | (exfalso; simp at hb1; done) | (exfalso; simp at hb2; done) | (exfalso; simp at hb3; done) | (exfalso; simp at hb4; done) | (exfalso; simp at hb5; done) | (exfalso; simp at hb6; done) | (exfalso; simp at hb7; done) | (exfalso; simp at hb8; done) | (exfalso; simp at hb9; done) | (exfalso; simp at hb10; done) | (exfalso; simp at hb11; done) | (exfalso; simp at hb12; done) | (exfalso; simp at hb13; done)))
          done)
      done)
end Dh
end Go.Proofs.Ytbfigolloaeknaa
