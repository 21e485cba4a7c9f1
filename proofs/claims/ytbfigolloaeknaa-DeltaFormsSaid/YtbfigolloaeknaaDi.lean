/-
  WALKS of stage 9: the law DeltaLong.
-/
import Derived.Test.YtbfigolloaeknaaRows
import Derived.Test.YtbfigolloaeknaaMgc
import Derived.Test.YtbfigolloaeknaaDd
import Derived.Test.YtbfigolloaeknaaDa
import Derived.Test.YtbfigolloaeknaaDb
import Derived.Test.YtbfigolloaeknaaDc
import Derived.Test.YtbfigolloaeknaaDe
import Derived.Test.YtbfigolloaeknaaDf
import Derived.Test.YtbfigolloaeknaaDg
import Derived.Test.YtbfigolloaeknaaMha
import Derived.Test.YtbfigolloaeknaaCa
import Derived.Test.YtbfigolloaeknaaCm
import Derived.Test.YtbfigolloaeknaaDm
import Derived.Test.YtbfigolloaeknaaDn
namespace Go.Proofs.Ytbfigolloaeknaa
open Go.RowKit
namespace Di
open Ab Bm Bt Dd Da Db Dc De Df Dg Bb Ca Cm Dm Dn
theorem ag27 (w : World) : (isAgg 27).run Try.prog w = .ok true w := by kernel_rfl
theorem ag3 (w : World) : (isAgg 3).run Try.prog w = .ok false w := by kernel_rfl
theorem sz27 (w : World) : (sizeOf 27).run Try.prog w = .ok 2 w := by kernel_rfl
theorem sz3 (w : World) : (sizeOf 3).run Try.prog w = .ok 1 w := by kernel_rfl
theorem tf27 : TwoF Try.prog 27 .i64 { name := "Data", type := 9, offset := 0, embedded := false, tag := "", pkgPath := "", byteOffset := 0 } { name := "N", type := 3, offset := 1, embedded := false, tag := "", pkgPath := "", byteOffset := 16 } where
  und := by kernel_rfl
  plain := by kernel_rfl
  guard := by kernel_rfl
  flds := by kernel_rfl
  nf := by decide
  ng := by decide
  sf := Try.underlying9
  sg := Try.underlying3
  pf := fun _ _ _ => by kernel_rfl
  pg := fun _ _ _ => by kernel_rfl
theorem ti3 : TI Try.prog 3 1 8 := .mk' (z := (Value.int .i64 0)) (by kernel_rfl) rfl
theorem zv27 (w : World) : (zeroValue 27).run Try.prog w = .ok (.agg #[(Value.string ⟨#[]⟩), (Value.int .i64 0)]) w := by kernel_rfl
def wtV (l : List Int) (k : Nat) : Int := ((5 + l.length + 2 * smK l k : Nat) : Int)
theorem wt_1 (l : List Int) : 5 + (l.length : Int) = wtV l 1 := by
  unfold wtV
  have : smK l 1 = 0 := by show 0 + df (l.getD 0 0) (l.getD 0 0) = 0; rw [df_self]
  rw [this]; omega
theorem wt_s {l : List Int} {k : Nat} : wtV l k + 2 * max (l.getD (k : Int).toNat 0 - l.getD ((k : Int) - 1).toNat 0) (l.getD ((k : Int) - 1).toNat 0 - l.getD (k : Int).toNat 0) = wtV l (k + 1) := by
  unfold wtV
  have := df_max (l.getD (k - 1) 0) (l.getD k 0)
  rw [show ((k : Int) - 1).toNat = k - 1 by omega, show (k : Int).toNat = k from rfl, smK]
  rw [← this]; omega
theorem wt_e (l : List Int) : ((dB l).length : Int) = wtV l l.length := by rw [dB_n]; rfl
theorem sm_bd {l : List Int} (h : ∀ j, j < l.length → Da.good (l.getD j 0)) : ∀ k, k ≤ l.length → smK l k ≤ 20 * k
  | 0, _ => Nat.le_refl _
  | k + 1, hk => by
    have ih := sm_bd h k (by omega)
    have h1 := h k (by omega)
    have h2 := h (k - 1) (by omega)
    rw [smK]
    unfold Da.good at h1 h2
    unfold df; omega
theorem long_1 {l : List Int} (h0 : 0 < l.length) : (decide (pack (dB l) = pack (dB (alk l l.length)) ∧ ((dB l).length : Int) = ((dB (alk l l.length)).length : Int))) = decide (l = alk l l.length) := by
  by_cases h : l = alk l l.length
  · rw [← h, decide_eq_true rfl, decide_eq_true ⟨rfl, rfl⟩]
  · rw [decide_eq_false h, decide_eq_false]
    rintro ⟨_, h2⟩
    rw [alk_n] at h2
    exact h (alk_eq h0 (by omega))

set_option maxRecDepth 100000 in
set_option maxHeartbeats 1000000 in
theorem long_w (raw : List Int) (hraw : In64 raw) (lraw : raw.length ≤ 9223372036854775807) :
    FPure Try.prog 5 [Sl 1 raw.length (raw.map (Value.int .i64))] (Is (.bool true)) := by
  refine FPure.of Try.func5 Try.ntmps5 rfl (by kernel_rfl) rfl rfl rfl ?_
  refine W_seq ?_
  refine W_regionE (c := 1) (c' := 2) (by kernel_rfl) rfl ?_
  refine Runs_p rfl (Valid.assignk (A := Is _) rfl rfl) rfl rfl ?_ -- law.go:89 assign
  refine Runs_nil ?_
  refine thenQ_n ?_
  refine W_seq ?_
  refine W_regionE (c := 2) (c' := 4) (by kernel_rfl) rfl ?_
  refine Runs_p rfl (Valid.call rfl (awake9_s) trivial) rfl rfl ?_ -- law.go:90 call
  refine Runs_p rfl (Valid.assignk (A := Is _) rfl rfl) rfl rfl ?_ -- law.go:90 assign
  refine Runs_nil ?_
  refine thenQ_n ?_
  refine W_seq ?_
  refine W_regionE (c := 4) (c' := 7) (by kernel_rfl) rfl ?_
  refine Runs_p rfl (Valid.movek (A := Sl 1 _ _) rfl rfl) rfl rfl ?_ -- law.go:91 move
  refine Runs_p rfl (Valid.call rfl (lens_s _ (by assumption) (by omega)) ⟨argle_sl (Reads.sl rfl), trivial⟩) rfl rfl ?_ -- law.go:91 call
  refine Runs_p rfl (Valid.assignk (A := Sl 1 _ _) rfl rfl) rfl rfl ?_ -- law.go:91 assign
  refine Runs_nil ?_
  refine thenQ_n ?_
  refine W_seq ?_
  obtain ⟨hl2, hl60⟩ := lens_len raw
  have hgd := lens_gd raw
  have hpd := pd_good hl2 (by omega) hgd
  generalize lens raw = l at *
  have hal := gd_at hgd
  have hsb := sm_bd hal
  refine W_regionE (c := 7) (c' := 15) (by kernel_rfl) rfl ?_
  refine Runs_p rfl (Valid.movek (A := Sl 1 _ _) rfl rfl) rfl rfl ?_ -- law.go:92 move
  refine Runs_p rfl (Valid.call rfl (pt_t hpd rfl rfl (by omega)) ⟨argle_sl (Reads.sl rfl), trivial⟩) rfl rfl ?_ -- law.go:92 call
  refine Runs_p rfl (Valid.movek (A := Tup [Agg [Is _, Is _], Is _]) rfl rfl) rfl rfl ?_ -- law.go:92 move
  refine Runs_p rfl (Valid.extract _ rfl rfl rfl) rfl rfl ?_ -- law.go:92 extract
  refine Runs_p rfl (Valid.extract _ rfl rfl rfl) rfl rfl ?_ -- law.go:92 extract
  refine Runs_w rfl (Valid.alloc [(Value.string ⟨#[]⟩), (Value.int .i64 0)] rfl zv27 rfl) rfl rfl ?_ -- law.go:92 alloc
  refine Runs_op rfl (Valid.storeagg (l := [_, _]) rfl sz27 rfl rfl (Nat.le_of_ble_eq_true rfl) rfl ⟨(One.is rfl rfl rfl), (One.is rfl rfl rfl), trivial⟩) rfl ?_ -- law.go:92 store
  refine Runs_p rfl (Valid.assignk (A := Is _) rfl rfl) rfl rfl ?_ -- law.go:92 assign
  refine Runs_nil ?_
  refine thenQ_n ?_
  refine W_seq ?_
  refine W_regionE (c := 15) (c' := 19) (by kernel_rfl) rfl ?_
  refine Runs_p rfl (Valid.movek (A := Sl 1 _ _) rfl rfl) rfl rfl ?_ -- law.go:93 move
  refine Runs_p rfl (Valid.len rfl Try.underlying22 (Reads.sl rfl)) rfl rfl ?_ -- law.go:93 call
  refine Runs_p rfl (Valid.add rfl rfl rfl (room64 (by first | omega | (simp only [Int.toNat_natCast, toNat_add, toNat_add1, List.length_append, List.length_cons, List.length_nil, List.length_replicate]; omega)) (by first | omega | (simp only [Int.toNat_natCast, toNat_add, toNat_add1, List.length_append, List.length_cons, List.length_nil, List.length_replicate]; omega)))) rfl rfl ?_ -- law.go:93 binOp
  refine Runs_p rfl (Valid.assignk (A := Is _) rfl rfl) rfl rfl ?_ -- law.go:93 assign
  refine Runs_nil ?_
  refine thenQ_n ?_
  refine W_seq ?_
  refine W_seq ?_
  refine W_regionE (c := 19) (c' := 20) (by kernel_rfl) rfl ?_
  refine Runs_p rfl (Valid.assignk (A := Is _) rfl rfl) rfl rfl ?_ -- law.go:94 assign
  refine Runs_nil ?_
  refine thenQ_n ?_
  refine W_block ?_
  refine W_loopx (G := Nat) (fun (k : Nat) => 1 ≤ k ∧ k ≤ l.length) [(3, Is _), (4, Sl 1 _ _), (5, Ptr 96 0), (6, Is _)] (fun (k : Nat) => [(8, Is (.int .i64 (k : Int))), (7, Is (.int .i64 (wtV l k)))]) [(96, .var 27 [Is _, Is _])] (fun (k : Nat) => []) 20 (fun (k : Nat) => l.length - k) (1) [] (⟨by omega, by omega⟩) ⟨⟨(leq_is rfl rfl (by first | rfl | exact congrArg (Value.int .i64) (wt_1 l))), (leq_is rfl rfl (by first | rfl | exact congrArg (Value.int .i64) (wt_1 l))), trivial⟩, ⟨(leq_is rfl rfl rfl), (leq_sl (Reads.sl rfl) rfl rfl rfl), (leq_ptr rfl rfl rfl), (leq_is rfl rfl rfl), trivial⟩, trivial, ⟨hp_var rfl ⟨(leq_is rfl rfl rfl), (leq_is rfl rfl rfl), trivial⟩, trivial⟩, rfl, ⟨supg rfl, supg rfl, trivial⟩, ⟨supg rfl, supg rfl, supg rfl, supg rfl, trivial⟩, trivial, ⟨suph rfl rfl, trivial⟩, rfl, rfl⟩ ?_
  intro k hI1
  obtain ⟨hk0, hk9⟩ := hI1
  refine W_seq ?_
  refine W_seq ?_
  refine W_regionE (c := 20) (c' := 24) (by kernel_rfl) rfl ?_
  refine Runs_p rfl (Valid.movek (A := Is _) rfl rfl) rfl rfl ?_ -- law.go:94 move
  refine Runs_p rfl (Valid.movek (A := Sl 1 _ _) rfl rfl) rfl rfl ?_ -- law.go:94 move
  refine Runs_p rfl (Valid.len rfl Try.underlying22 (Reads.sl rfl)) rfl rfl ?_ -- law.go:94 call
  refine Runs_p rfl (Valid.lss rfl rfl rfl) rfl rfl ?_ -- law.go:94 binOp
  refine Runs_nil ?_
  refine thenQ_n ?_
  refine W_cond _ rfl (fun hb1 => ?_) (fun hb1 => ?_)
  · try simp only [decide_eq_true_eq] at hb1
    all_goals (
      refine W_skip ?_
      refine thenQ_n ?_
      refine W_seq ?_
      refine W_block ?_
      have hs1 := hsb k (by omega)
      have hs2 := hsb (k + 1) (by omega)
      have hk1 := hal k (by omega)
      have hk2 := hal (k - 1) (by omega)
      unfold Da.good at hk1 hk2
      have e1 : ((k : Int) - 1).toNat = k - 1 := by omega
      have e2 : l.getD ((k : Int) - 1).toNat 0 = l.getD (k - 1) 0 := by rw [e1]
      have e3 : l.getD (k : Int).toNat 0 = l.getD k 0 := rfl
      have hw : wtV l k = ((5 + l.length + 2 * smK l k : Nat) : Int) := rfl
      refine W_drawE (c := 24) (c' := 49) (by kernel_rfl) rfl ?_
      refine Runs_p rfl (Valid.movek (A := Is _) rfl rfl) rfl rfl ?_ -- law.go:95 move
      refine Runs_p rfl (Valid.movek (A := Sl 1 _ _) rfl rfl) rfl rfl ?_ -- law.go:95 move
      refine Runs_p rfl (Valid.movek (A := Is _) rfl rfl) rfl rfl ?_ -- law.go:95 move
      refine Runs_p rfl (Valid.eltaddr1 0 rfl Try.underlying22 sz3 (Reads.sl rfl) rfl (by first | omega | (simp only [Int.toNat_natCast, toNat_add, toNat_add1, List.length_append, List.length_cons, List.length_nil, List.length_replicate]; omega)) (by first | rfl | simp)) rfl rfl ?_ -- law.go:95 indexAddr
      refine Runs_p rfl (Valid.loadelt rfl ag3 rfl) rfl rfl ?_ -- law.go:95 load
      refine Runs_p rfl (Valid.movek (A := Sl 1 _ _) rfl rfl) rfl rfl ?_ -- law.go:95 move
      refine Runs_p rfl (Valid.movek (A := Is _) rfl rfl) rfl rfl ?_ -- law.go:95 move
      refine Runs_p rfl (Valid.sub rfl rfl rfl (room64 (by first | omega | (simp only [Int.toNat_natCast, toNat_add, toNat_add1, List.length_append, List.length_cons, List.length_nil, List.length_replicate]; omega)) (by first | omega | (simp only [Int.toNat_natCast, toNat_add, toNat_add1, List.length_append, List.length_cons, List.length_nil, List.length_replicate]; omega)))) rfl rfl ?_ -- law.go:95 binOp
      refine Runs_p rfl (Valid.eltaddr1 0 rfl Try.underlying22 sz3 (Reads.sl rfl) rfl (by first | omega | (simp only [Int.toNat_natCast, toNat_add, toNat_add1, List.length_append, List.length_cons, List.length_nil, List.length_replicate]; omega)) (by first | rfl | simp)) rfl rfl ?_ -- law.go:95 indexAddr
      refine Runs_p rfl (Valid.loadelt rfl ag3 rfl) rfl rfl ?_ -- law.go:95 load
      refine Runs_p rfl (Valid.sub rfl rfl rfl (room64 (by first | omega | (simp only [Int.toNat_natCast, toNat_add, toNat_add1, List.length_append, List.length_cons, List.length_nil, List.length_replicate]; omega)) (by first | omega | (simp only [Int.toNat_natCast, toNat_add, toNat_add1, List.length_append, List.length_cons, List.length_nil, List.length_replicate]; omega)))) rfl rfl ?_ -- law.go:95 binOp
      refine Runs_p rfl (Valid.movek (A := Sl 1 _ _) rfl rfl) rfl rfl ?_ -- law.go:95 move
      refine Runs_p rfl (Valid.movek (A := Is _) rfl rfl) rfl rfl ?_ -- law.go:95 move
      refine Runs_p rfl (Valid.sub rfl rfl rfl (room64 (by first | omega | (simp only [Int.toNat_natCast, toNat_add, toNat_add1, List.length_append, List.length_cons, List.length_nil, List.length_replicate]; omega)) (by first | omega | (simp only [Int.toNat_natCast, toNat_add, toNat_add1, List.length_append, List.length_cons, List.length_nil, List.length_replicate]; omega)))) rfl rfl ?_ -- law.go:95 binOp
      refine Runs_p rfl (Valid.eltaddr1 0 rfl Try.underlying22 sz3 (Reads.sl rfl) rfl (by first | omega | (simp only [Int.toNat_natCast, toNat_add, toNat_add1, List.length_append, List.length_cons, List.length_nil, List.length_replicate]; omega)) (by first | rfl | simp)) rfl rfl ?_ -- law.go:95 indexAddr
      refine Runs_p rfl (Valid.loadelt rfl ag3 rfl) rfl rfl ?_ -- law.go:95 load
      refine Runs_p rfl (Valid.movek (A := Sl 1 _ _) rfl rfl) rfl rfl ?_ -- law.go:95 move
      refine Runs_p rfl (Valid.movek (A := Is _) rfl rfl) rfl rfl ?_ -- law.go:95 move
      refine Runs_p rfl (Valid.eltaddr1 0 rfl Try.underlying22 sz3 (Reads.sl rfl) rfl (by first | omega | (simp only [Int.toNat_natCast, toNat_add, toNat_add1, List.length_append, List.length_cons, List.length_nil, List.length_replicate]; omega)) (by first | rfl | simp)) rfl rfl ?_ -- law.go:95 indexAddr
      refine Runs_p rfl (Valid.loadelt rfl ag3 rfl) rfl rfl ?_ -- law.go:95 load
      refine Runs_p rfl (Valid.sub rfl rfl rfl (room64 (by first | omega | (simp only [Int.toNat_natCast, toNat_add, toNat_add1, List.length_append, List.length_cons, List.length_nil, List.length_replicate]; omega)) (by first | omega | (simp only [Int.toNat_natCast, toNat_add, toNat_add1, List.length_append, List.length_cons, List.length_nil, List.length_replicate]; omega)))) rfl rfl ?_ -- law.go:95 binOp
      refine Runs_p rfl (Valid.max rfl rfl rfl) rfl rfl ?_ -- law.go:95 call
      refine Runs_p rfl (Valid.mul rfl rfl rfl (room64 (by first | omega | (simp only [Int.toNat_natCast, toNat_add, toNat_add1, List.length_append, List.length_cons, List.length_nil, List.length_replicate]; omega)) (by first | omega | (simp only [Int.toNat_natCast, toNat_add, toNat_add1, List.length_append, List.length_cons, List.length_nil, List.length_replicate]; omega)))) rfl rfl ?_ -- law.go:95 binOp
      refine Runs_p rfl (Valid.add rfl rfl rfl (room64 (by first | omega | (simp only [Int.toNat_natCast, toNat_add, toNat_add1, List.length_append, List.length_cons, List.length_nil, List.length_replicate]; omega)) (by first | omega | (simp only [Int.toNat_natCast, toNat_add, toNat_add1, List.length_append, List.length_cons, List.length_nil, List.length_replicate]; omega)))) rfl rfl ?_ -- law.go:95 binOp
      refine Runs_p rfl (Valid.assignk (A := Is _) rfl rfl) rfl rfl ?_ -- law.go:95 assign
      refine Runs_nil ?_
      refine ⟨_, _, rfl, rfl, by kernel_rfl, ?_⟩
      refine blockQ_n ?_
      refine thenQ_n ?_
      refine W_regionE (c := 49) (c' := 52) (by kernel_rfl) rfl ?_
      refine Runs_p rfl (Valid.movek (A := Is _) rfl rfl) rfl rfl ?_ -- law.go:94 move
      refine Runs_p rfl (Valid.add rfl rfl rfl (room64 (by first | omega | (simp only [Int.toNat_natCast, toNat_add, toNat_add1, List.length_append, List.length_cons, List.length_nil, List.length_replicate]; omega)) (by first | omega | (simp only [Int.toNat_natCast, toNat_add, toNat_add1, List.length_append, List.length_cons, List.length_nil, List.length_replicate]; omega)))) rfl rfl ?_ -- law.go:94 binOp
      refine Runs_p rfl (Valid.assignk (A := Is _) rfl rfl) rfl rfl ?_ -- law.go:94 assign
      refine Runs_nil ?_
      refine LoopQ.next (k + 1) [] (⟨by omega, by omega⟩) (by omega) ⟨⟨(leq_is rfl rfl (by first | rfl | exact congrArg (Value.int .i64) wt_s)), (leq_is rfl rfl (by first | rfl | exact congrArg (Value.int .i64) wt_s)), trivial⟩, ⟨(leq_is rfl rfl rfl), (leq_sl (Reads.sl rfl) rfl rfl rfl), (leq_ptr rfl rfl rfl), (leq_is rfl rfl rfl), trivial⟩, trivial, ⟨hp_var rfl ⟨(leq_is rfl rfl rfl), (leq_is rfl rfl rfl), trivial⟩, trivial⟩, rfl, ⟨supg rfl, supg rfl, trivial⟩, ⟨supg rfl, supg rfl, supg rfl, supg rfl, trivial⟩, trivial, ⟨suph rfl rfl, trivial⟩, rfl, rfl⟩
      done)
  · try simp only [decide_eq_false_iff_not] at hb1
    all_goals (
      refine W_exit ?_
      refine thenQ_e ?_
      refine loopQ_e ?_
      refine blockQ_x ?_
      refine thenQ_n ?_
      refine W_seq ?_
      obtain rfl : k = l.length := by omega
      refine W_regionE (c := 24) (c' := 27) (by kernel_rfl) rfl ?_
      refine Runs_p rfl (Valid.movek (A := Sl 1 _ _) rfl rfl) rfl rfl ?_ -- law.go:97 move
      refine Runs_w rfl (Valid.appnilB (f := Value.int .i64) rfl Try.underlying22 ti3 rfl (Reads.sl rfl) (by first | omega | (simp only [Int.toNat_natCast, toNat_add, toNat_add1, List.length_append, List.length_cons, List.length_nil, List.length_replicate]; omega)) (by first | (simp only [maxLen]; omega) | (simp only [maxLen, Int.toNat_natCast, toNat_add, toNat_add1, List.length_append, List.length_cons, List.length_nil, List.length_replicate]; omega)) (by first | omega | (simp only [Int.toNat_natCast, toNat_add, toNat_add1, List.length_append, List.length_cons, List.length_nil, List.length_replicate]; omega))) rfl rfl ?_ -- law.go:97 call
      refine Runs_p rfl (Valid.assignk (A := Buf 200 _) rfl rfl) rfl rfl ?_ -- law.go:97 assign
      refine Runs_nil ?_
      refine thenQ_n ?_
      refine W_seq ?_
      refine W_seq ?_
      refine W_regionE (c := 27) (c' := 28) (by kernel_rfl) rfl ?_
      refine Runs_p rfl (Valid.assignk (A := Is _) rfl rfl) rfl rfl ?_ -- law.go:98 assign
      refine Runs_nil ?_
      refine thenQ_n ?_
      refine W_block ?_
      refine W_loopx (G := Nat) (fun (j : Nat) => j ≤ l.length) [(3, Is _), (4, Sl 1 _ _), (5, Ptr 96 0), (6, Is _), (7, Is _)] (fun (j : Nat) => [(10, Is (.int .i64 (j : Int))), (9, Buf 200 (l.length))]) [(96, .var 27 [Is _, Is _])] (fun (j : Nat) => [(200, .buf 3 ((alk l j).map (Value.int .i64)))]) 28 (fun (j : Nat) => l.length - j) (0) [] (by first | trivial | omega | (simp; omega)) ⟨⟨(leq_is rfl rfl (by first | rfl | (simp; done) | (rw [List.nil_append]; rfl))), (leq_buf rfl rfl rfl (by first | rfl | (simp; done) | (rw [List.nil_append]; rfl))), trivial⟩, ⟨(leq_is rfl rfl rfl), (leq_sl (Reads.sl rfl) rfl rfl rfl), (leq_ptr rfl rfl rfl), (leq_is rfl rfl rfl), (leq_is rfl rfl rfl), trivial⟩, ⟨hp_buf rfl (by first | rfl | (simp; done) | (rw [List.nil_append]; rfl)), trivial⟩, ⟨hp_var rfl ⟨(leq_is rfl rfl rfl), (leq_is rfl rfl rfl), trivial⟩, trivial⟩, rfl, ⟨supg rfl, supg rfl, trivial⟩, ⟨supg rfl, supg rfl, supg rfl, supg rfl, supg rfl, trivial⟩, ⟨suph rfl rfl, trivial⟩, ⟨suph rfl rfl, trivial⟩, rfl, rfl⟩ ?_
      intro j hI2
      have haj := alk_len l j
      refine W_seq ?_
      refine W_seq ?_
      refine W_regionE (c := 28) (c' := 32) (by kernel_rfl) rfl ?_
      refine Runs_p rfl (Valid.movek (A := Is _) rfl rfl) rfl rfl ?_ -- law.go:98 move
      refine Runs_p rfl (Valid.movek (A := Sl 1 _ _) rfl rfl) rfl rfl ?_ -- law.go:98 move
      refine Runs_p rfl (Valid.len rfl Try.underlying22 (Reads.sl rfl)) rfl rfl ?_ -- law.go:98 call
      refine Runs_p rfl (Valid.lss rfl rfl rfl) rfl rfl ?_ -- law.go:98 binOp
      refine Runs_nil ?_
      refine thenQ_n ?_
      refine W_cond _ rfl (fun hb2 => ?_) (fun hb2 => ?_)
      · try simp only [decide_eq_true_eq] at hb2
        all_goals (
          refine W_skip ?_
          refine thenQ_n ?_
          refine W_seq ?_
          refine W_block ?_
          refine W_regionE (c := 32) (c' := 39) (by kernel_rfl) rfl ?_
          refine Runs_p rfl (Valid.movek (A := Buf 200 _) rfl rfl) rfl rfl ?_ -- law.go:99 move
          refine Runs_p rfl (Valid.movek (A := Is _) rfl rfl) rfl rfl ?_ -- law.go:99 move
          refine Runs_p rfl (Valid.movek (A := Sl 1 _ _) rfl rfl) rfl rfl ?_ -- law.go:99 move
          refine Runs_p rfl (Valid.eltaddr1 0 rfl Try.underlying22 sz3 (Reads.sl rfl) rfl (by first | omega | (simp only [Int.toNat_natCast, toNat_add, toNat_add1, List.length_append, List.length_cons, List.length_nil, List.length_replicate]; omega)) (by first | rfl | simp)) rfl rfl ?_ -- law.go:99 indexAddr
          refine Runs_p rfl (Valid.loadelt rfl ag3 rfl) rfl rfl ?_ -- law.go:99 load
          refine Runs_p rfl (Valid.idxB rfl Try.underlying22 sz3 rfl rfl (by first | omega | (simp only [Int.toNat_natCast, toNat_add, toNat_add1, List.length_append, List.length_cons, List.length_nil, List.length_replicate]; omega))) rfl rfl ?_ -- law.go:99 indexAddr
          refine Runs_op rfl (Valid.storeB _ rfl sz3 rfl rfl (by first | omega | (simp only [Int.toNat_natCast, toNat_add, toNat_add1, List.length_append, List.length_cons, List.length_nil, List.length_replicate]; omega)) rfl (One.is rfl rfl rfl)) rfl ?_ -- law.go:99 store
          refine Runs_nil ?_
          refine blockQ_n ?_
          refine thenQ_n ?_
          refine W_regionE (c := 39) (c' := 42) (by kernel_rfl) rfl ?_
          refine Runs_p rfl (Valid.movek (A := Is _) rfl rfl) rfl rfl ?_ -- law.go:98 move
          refine Runs_p rfl (Valid.add rfl rfl rfl (room64 (by first | omega | (simp only [Int.toNat_natCast, toNat_add, toNat_add1, List.length_append, List.length_cons, List.length_nil, List.length_replicate]; omega)) (by first | omega | (simp only [Int.toNat_natCast, toNat_add, toNat_add1, List.length_append, List.length_cons, List.length_nil, List.length_replicate]; omega)))) rfl rfl ?_ -- law.go:98 binOp
          refine Runs_p rfl (Valid.assignk (A := Is _) rfl rfl) rfl rfl ?_ -- law.go:98 assign
          refine Runs_nil ?_
          refine LoopQ.next (j + 1) [] (by omega) (by omega) ⟨⟨(leq_is rfl rfl (by first | rfl)), (leq_buf rfl rfl rfl (by first | rfl)), trivial⟩, ⟨(leq_is rfl rfl rfl), (leq_sl (Reads.sl rfl) rfl rfl rfl), (leq_ptr rfl rfl rfl), (leq_is rfl rfl rfl), (leq_is rfl rfl rfl), trivial⟩, ⟨hp_buf rfl (by first | rfl), trivial⟩, ⟨hp_var rfl ⟨(leq_is rfl rfl rfl), (leq_is rfl rfl rfl), trivial⟩, trivial⟩, rfl, ⟨supg rfl, supg rfl, trivial⟩, ⟨supg rfl, supg rfl, supg rfl, supg rfl, supg rfl, trivial⟩, ⟨suph rfl rfl, trivial⟩, ⟨suph rfl rfl, trivial⟩, rfl, rfl⟩
          done)
      · try simp only [decide_eq_false_iff_not] at hb2
        all_goals (
          refine W_exit ?_
          refine thenQ_e ?_
          refine loopQ_e ?_
          refine blockQ_x ?_
          refine thenQ_n ?_
          refine W_seq ?_
          obtain rfl : j = l.length := by omega
          have haln := alk_n l
          have hpa := pd_good (l := alk l l.length) (by rw [alk_len]; omega) (by rw [alk_len]; omega) (alk_gd hgd (by omega) _)
          have hwe := wt_e l
          refine W.ent ?_ (Ent.freezeBuf 9 200 _ rfl rfl (by first | (rw [List.length_map, alk_len]; done) | (rw [List.length_map]; done)))
          refine W_regionE (c := 32) (c' := 40) (by kernel_rfl) rfl ?_
          refine Runs_p rfl (Valid.movek (A := Sl 1 _ _) rfl rfl) rfl rfl ?_ -- law.go:101 move
          refine Runs_p rfl (Valid.call rfl (pt_t hpa (by rw [alk_len]) rfl (by rw [alk_len]; omega)) ⟨argle_sl (Reads.sl rfl), trivial⟩) rfl rfl ?_ -- law.go:101 call
          refine Runs_p rfl (Valid.movek (A := Tup [Agg [Is _, Is _], Is _]) rfl rfl) rfl rfl ?_ -- law.go:101 move
          refine Runs_p rfl (Valid.extract _ rfl rfl rfl) rfl rfl ?_ -- law.go:101 extract
          refine Runs_p rfl (Valid.extract _ rfl rfl rfl) rfl rfl ?_ -- law.go:101 extract
          refine Runs_w rfl (Valid.alloc [(Value.string ⟨#[]⟩), (Value.int .i64 0)] rfl zv27 rfl) rfl rfl ?_ -- law.go:101 alloc
          refine Runs_op rfl (Valid.storeagg (l := [_, _]) rfl sz27 rfl rfl (Nat.le_of_ble_eq_true rfl) rfl ⟨(One.is rfl rfl rfl), (One.is rfl rfl rfl), trivial⟩) rfl ?_ -- law.go:101 store
          refine Runs_p rfl (Valid.assignk (A := Is _) rfl rfl) rfl rfl ?_ -- law.go:101 assign
          refine Runs_nil ?_
          refine thenQ_n ?_
          refine W_seq ?_
          refine W_drawE (c := 40) (c' := 73) (by kernel_rfl) rfl ?_
          refine Runs_p rfl (Valid.movek (A := Is _) rfl rfl) rfl rfl ?_ -- law.go:102 move
          refine Runs_p rfl (Valid.movek (A := Is _) rfl rfl) rfl rfl ?_ -- law.go:102 move
          refine Runs_cnd rfl rfl (Grd.is rfl) [] (fun hg => trivial) (fun hg => Valid.movek (A := Is _) rfl rfl) (by rfl) rfl ?_
          refine Runs_cnd rfl rfl (Grd.is rfl) [(75, _)] (fun hg => ⟨cnd_at rfl (by first | exact hg | exact hg.1 | exact hg.1.1 | exact hg.1.1.1), trivial⟩) (fun hg => Valid.eql rfl rfl rfl) (by rfl) rfl ?_
          refine Runs_p rfl (Valid.pickand rfl rfl rfl (fun h => by first | exact h | exact ⟨hg, h⟩) rfl) rfl rfl ?_ -- law.go:102 pick
          refine Runs_p rfl (Valid.movek (A := Is _) rfl rfl) rfl rfl ?_ -- law.go:102 move
          refine Runs_cnds (t := 5) rfl rfl (Grd.is rfl) [] (fun hg => trivial) (fun hg => Valid.fieldaddr (off' := 1) rfl rfl (fun _ _ => by kernel_rfl)) (by simp [Op.operands]) rfl rfl ?_
          refine Runs_cnd rfl rfl (Grd.is rfl) [(79, _)] (fun hg => ⟨cnd_at rfl (by first | exact hg | exact hg.1 | exact hg.1.1 | exact hg.1.1.1), trivial⟩) (fun hg => Valid.load _ rfl ag3 rfl rfl rfl) (by rfl) rfl ?_
          refine Runs_cnd rfl rfl (Grd.is rfl) [] (fun hg => trivial) (fun hg => Valid.movek (A := Is _) rfl rfl) (by rfl) rfl ?_
          refine Runs_cnd rfl rfl (Grd.is rfl) [(80, _), (81, _)] (fun hg => ⟨cnd_at rfl (by first | exact hg | exact hg.1 | exact hg.1.1 | exact hg.1.1.1), cnd_at rfl (by first | exact hg | exact hg.1 | exact hg.1.1 | exact hg.1.1.1), trivial⟩) (fun hg => Valid.eql rfl rfl rfl) (by rfl) rfl ?_
          refine Runs_p rfl (Valid.pickand rfl rfl rfl (fun h => by first | exact h | exact ⟨hg, h⟩) rfl) rfl rfl ?_ -- law.go:102 pick
          refine Runs_p rfl (Valid.movek (A := Is _) rfl rfl) rfl rfl ?_ -- law.go:102 move
          refine Runs_cnd rfl rfl (Grd.is rfl) [] (fun hg => trivial) (fun hg => Valid.movek (A := Is _) rfl rfl) (by rfl) rfl ?_
          refine Runs_cnd rfl rfl (Grd.is rfl) [(85, _)] (fun hg => ⟨cnd_at rfl (by first | exact hg | exact hg.1 | exact hg.1.1 | exact hg.1.1.1), trivial⟩) (fun hg => Valid.eql rfl rfl rfl) (by rfl) rfl ?_
          refine Runs_p rfl (Valid.pickand rfl rfl rfl (fun h => by first | exact h | exact ⟨hg, h⟩) rfl) rfl rfl ?_ -- law.go:102 pick
          refine Runs_p rfl (Valid.movek (A := Is _) rfl rfl) rfl rfl ?_ -- law.go:102 move
          refine Runs_cnds (t := 11) rfl rfl (Grd.is rfl) [] (fun hg => trivial) (fun hg => Valid.fieldaddr (off' := 1) rfl rfl (fun _ _ => by kernel_rfl)) (by simp [Op.operands]) rfl rfl ?_
          refine Runs_cnd rfl rfl (Grd.is rfl) [(89, _)] (fun hg => ⟨cnd_at rfl (by first | exact hg | exact hg.1 | exact hg.1.1 | exact hg.1.1.1), trivial⟩) (fun hg => Valid.load _ rfl ag3 rfl rfl rfl) (by rfl) rfl ?_
          refine Runs_cnd rfl rfl (Grd.is rfl) [] (fun hg => trivial) (fun hg => Valid.movek (A := Sl 1 _ _) rfl rfl) (by rfl) rfl ?_
          refine Runs_cnd rfl rfl (Grd.is rfl) [(91, _)] (fun hg => ⟨cnd_at rfl (by first | exact hg | exact hg.1 | exact hg.1.1 | exact hg.1.1.1), trivial⟩) (fun hg => Valid.len rfl Try.underlying22 (Reads.sl rfl)) (by rfl) rfl ?_
          refine Runs_cnd rfl rfl (Grd.is rfl) [(92, _)] (fun hg => ⟨cnd_at rfl (by first | exact hg | exact hg.1 | exact hg.1.1 | exact hg.1.1.1), trivial⟩) (fun hg => Valid.add rfl rfl rfl (room64 (by (try simp only [decide_eq_true_eq, Bool.and_eq_true] at hg); first | omega | (simp only [Int.toNat_natCast, toNat_add, toNat_add1, List.length_append, List.length_cons, List.length_nil, List.length_replicate]; omega)) (by (try simp only [decide_eq_true_eq, Bool.and_eq_true] at hg); first | omega | (simp only [Int.toNat_natCast, toNat_add, toNat_add1, List.length_append, List.length_cons, List.length_nil, List.length_replicate]; omega)))) (by rfl) rfl ?_
          refine Runs_cnd rfl rfl (Grd.is rfl) [(90, _), (93, _)] (fun hg => ⟨cnd_at rfl (by first | exact hg | exact hg.1 | exact hg.1.1 | exact hg.1.1.1), cnd_at rfl (by first | exact hg | exact hg.1 | exact hg.1.1 | exact hg.1.1.1), trivial⟩) (fun hg => Valid.eql rfl rfl rfl) (by rfl) rfl ?_
          refine Runs_p rfl (Valid.pickand rfl rfl rfl (fun h => by first | exact h | exact ⟨hg, h⟩) rfl) rfl rfl ?_ -- law.go:102 pick
          refine Runs_p rfl (Valid.movek (A := Is _) rfl rfl) rfl rfl ?_ -- law.go:102 move
          refine Runs_cnd rfl rfl (Grd.is rfl) [] (fun hg => trivial) (fun hg => Valid.loadagg rfl ag27 sz27 rfl rfl (Nat.le_of_ble_eq_true rfl)) (by rfl) rfl ?_
          refine Runs_cnd rfl rfl (Grd.is rfl) [] (fun hg => trivial) (fun hg => Valid.loadagg rfl ag27 sz27 rfl rfl (Nat.le_of_ble_eq_true rfl)) (by rfl) rfl ?_
          refine Runs_cnd rfl rfl (Grd.is rfl) [(97, _), (98, _)] (fun hg => ⟨cnd_at rfl (by first | exact hg | exact hg.1 | exact hg.1.1 | exact hg.1.1.1), cnd_at rfl (by first | exact hg | exact hg.1 | exact hg.1.1 | exact hg.1.1.1), trivial⟩) (fun hg => Valid.seqS tf27 rfl rfl rfl) (by rfl) rfl ?_
          refine Runs_cnd rfl rfl (Grd.is rfl) [] (fun hg => trivial) (fun hg => Valid.movek (A := Sl 1 _ _) rfl rfl) (by rfl) rfl ?_
          refine Runs_cnd rfl rfl (Grd.is rfl) [] (fun hg => trivial) (fun hg => Valid.movek (A := Sl 1 _ _) rfl rfl) (by rfl) rfl ?_
          refine Runs_cnd rfl rfl (Grd.is rfl) [(100, _), (101, _)] (fun hg => ⟨cnd_at rfl (by first | exact hg | exact hg.1 | exact hg.1.1 | exact hg.1.1.1), cnd_at rfl (by first | exact hg | exact hg.1 | exact hg.1.1 | exact hg.1.1.1), trivial⟩) (fun hg => Valid.call rfl (ints_x l (alk l l.length) (by (try simp only [decide_eq_true_eq, Bool.and_eq_true] at hg); rw [alk_len]) (by (try simp only [decide_eq_true_eq, Bool.and_eq_true] at hg); omega)) ⟨argle_sl (Reads.sl rfl), argle_sl (Reads.sl rfl), trivial⟩) (by rfl) rfl ?_
          refine Runs_cnd rfl rfl (Grd.is rfl) [(99, _), (102, _)] (fun hg => ⟨cnd_at rfl (by first | exact hg | exact hg.1 | exact hg.1.1 | exact hg.1.1.1), cnd_at rfl (by first | exact hg | exact hg.1 | exact hg.1.1 | exact hg.1.1.1), trivial⟩) (fun hg => Valid.beql rfl rfl rfl Try.underlying4) (by rfl) rfl ?_
          refine Runs_p rfl (Valid.pickand rfl rfl rfl (fun h => by first | exact h | exact ⟨hg, h⟩) rfl) rfl rfl ?_ -- law.go:102 pick
          refine Runs_p rfl (Valid.assignk (A := Is _) rfl rfl) rfl rfl ?_ -- law.go:102 assign
          refine Runs_nil ?_
          refine ⟨_, _, rfl, rfl, by kernel_rfl, ?_⟩
          refine thenQ_n ?_
          refine W_ret ?_
          refine finQ_r ?_
          refine ResOk.one rfl (RVal.is rfl rfl (by first | rfl | (rw [long_1 (by omega)]; simp; exact ⟨hwe, by rw [haln]; omega⟩)))
          done)
      done)
end Di
end Go.Proofs.Ytbfigolloaeknaa
