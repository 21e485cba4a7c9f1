/-
  WALKS of stage 9: lengths that are drawn; the law that is awake.
-/
import Derived.Test.YtbfigolloaeknaaRows
import Derived.Test.YtbfigolloaeknaaMgc
import Derived.Test.YtbfigolloaeknaaDd
import Derived.Test.YtbfigolloaeknaaDa
import Derived.Test.YtbfigolloaeknaaDb
import Derived.Test.YtbfigolloaeknaaDc
import Derived.Test.YtbfigolloaeknaaDe
import Derived.Test.YtbfigolloaeknaaDf
import Derived.Test.YtbfigolloaeknaaMha
import Derived.Test.YtbfigolloaeknaaCa
import Derived.Test.YtbfigolloaeknaaCm
namespace Go.Proofs.Ytbfigolloaeknaa
open Go.RowKit
namespace Dg
open Ab Bm Bt Dd Da Db Dc De Df Bb Ca Cm
theorem ag27 (w : World) : (isAgg 27).run Try.prog w = .ok true w := by kernel_rfl
theorem ag3 (w : World) : (isAgg 3).run Try.prog w = .ok false w := by kernel_rfl
theorem ag9 (w : World) : (isAgg 9).run Try.prog w = .ok false w := by kernel_rfl
theorem sz27 (w : World) : (sizeOf 27).run Try.prog w = .ok 2 w := by kernel_rfl
theorem sz3 (w : World) : (sizeOf 3).run Try.prog w = .ok 1 w := by kernel_rfl
theorem tf27 : TwoF Try.prog 27 .i64 { name := "Data", type := 9, offset := 0, embedded := false, tag := "", pkgPath := "", byteOffset := 0 } { name := "N", type := 3, offset := 1, embedded := false, tag := "", pkgPath := "", byteOffset := 16 } where
  und := by kernel_rfl
  plain := by kernel_rfl
  guard := by kernel_rfl
  flds := by kernel_rfl
  nf := by decide
  ng := by decide
  sf := Try.underlying9
  sg := Try.underlying3
  pf := fun _ _ _ => by kernel_rfl
  pg := fun _ _ _ => by kernel_rfl
theorem ti3 : TI Try.prog 3 1 8 := .mk' (z := (Value.int .i64 0)) (by kernel_rfl) rfl
theorem zv27 (w : World) : (zeroValue 27).run Try.prog w = .ok (.agg #[(Value.string ⟨#[]⟩), (Value.int .i64 0)]) w := by kernel_rfl
set_option maxRecDepth 100000 in
set_option maxHeartbeats 1000000 in
theorem pick9_s (c n : Int) (h1 : -9223372036854775808 ≤ c) (h2 : c ≤ 9223372036854775807) (h3 : 0 < n) (_h4 : n ≤ 9223372036854775807) :
    FPure Try.prog 13 [Is (.int .i64 c), Is (.int .i64 n)] (Is (.int .i64 (pickV c n))) := by
  refine FPure.of Try.func13 Try.ntmps13 rfl (by kernel_rfl) rfl rfl rfl ?_
  refine W_seq ?_
  refine W_regionE (c := 1) (c' := 2) (by kernel_rfl) rfl ?_
  refine Runs_p rfl (Valid.assignk (A := Is _) rfl rfl) rfl rfl ?_ -- law.go:14 assign
  refine Runs_nil ?_
  refine thenQ_n ?_
  refine W_seq ?_
  refine W_seq ?_
  refine W_regionE (c := 2) (c' := 4) (by kernel_rfl) rfl ?_
  refine Runs_p rfl (Valid.movek (A := Is _) rfl rfl) rfl rfl ?_ -- law.go:15 move
  refine Runs_p rfl (Valid.lss rfl rfl rfl) rfl rfl ?_ -- law.go:15 binOp
  refine Runs_nil ?_
  refine thenQ_n ?_
  refine W_cond _ rfl (fun hb1 => ?_) (fun hb1 => ?_)
  · try simp only [decide_eq_true_eq] at hb1
    all_goals (
      refine W_regionE (c := 4) (c' := 8) (by kernel_rfl) rfl ?_
      refine Runs_p rfl (Valid.movek (A := Is _) rfl rfl) rfl rfl ?_ -- law.go:16 move
      refine Runs_p rfl (Valid.add rfl rfl rfl (room64 (by first | omega | (simp only [Int.toNat_natCast, toNat_add, toNat_add1, List.length_append, List.length_cons, List.length_nil, List.length_replicate]; omega)) (by first | omega | (simp only [Int.toNat_natCast, toNat_add, toNat_add1, List.length_append, List.length_cons, List.length_nil, List.length_replicate]; omega)))) rfl rfl ?_ -- law.go:16 binOp
      refine Runs_p rfl (Valid.neg rfl rfl (room64 (by first | omega | (simp only [Int.toNat_natCast, toNat_add, toNat_add1, List.length_append, List.length_cons, List.length_nil, List.length_replicate]; omega)) (by first | omega | (simp only [Int.toNat_natCast, toNat_add, toNat_add1, List.length_append, List.length_cons, List.length_nil, List.length_replicate]; omega)))) rfl rfl ?_ -- law.go:16 unOp
      refine Runs_p rfl (Valid.assignk (A := Is _) rfl rfl) rfl rfl ?_ -- law.go:16 assign
      refine Runs_nil ?_
      refine thenQ_n ?_
      refine W_seq ?_
      refine W_regionE (c := 8) (c' := 12) (by kernel_rfl) rfl ?_
      refine Runs_p rfl (Valid.movek (A := Is _) rfl rfl) rfl rfl ?_ -- law.go:18 move
      refine Runs_p rfl (Valid.movek (A := Is _) rfl rfl) rfl rfl ?_ -- law.go:18 move
      refine Runs_p rfl (Valid.rem rfl rfl rfl (by first | omega | (simp only [Int.toNat_natCast, toNat_add, toNat_add1, List.length_append, List.length_cons, List.length_nil, List.length_replicate]; omega)) (by first | omega | (simp only [Int.toNat_natCast, toNat_add, toNat_add1, List.length_append, List.length_cons, List.length_nil, List.length_replicate]; omega))) rfl rfl ?_ -- law.go:18 binOp
      refine Runs_p rfl (Valid.assignk (A := Is _) rfl rfl) rfl rfl ?_ -- law.go:18 assign
      refine Runs_nil ?_
      refine thenQ_n ?_
      refine W_ret ?_
      refine finQ_r ?_
      refine ResOk.one rfl (RVal.is rfl rfl (by simp only [pickV]; split <;> first | rfl | omega))
      done)
  · try simp only [decide_eq_false_iff_not] at hb1
    all_goals (
      refine W_skip ?_
      refine thenQ_n ?_
      refine W_seq ?_
      refine W_regionE (c := 4) (c' := 8) (by kernel_rfl) rfl ?_
      refine Runs_p rfl (Valid.movek (A := Is _) rfl rfl) rfl rfl ?_ -- law.go:18 move
      refine Runs_p rfl (Valid.movek (A := Is _) rfl rfl) rfl rfl ?_ -- law.go:18 move
      refine Runs_p rfl (Valid.rem rfl rfl rfl (by first | omega | (simp only [Int.toNat_natCast, toNat_add, toNat_add1, List.length_append, List.length_cons, List.length_nil, List.length_replicate]; omega)) (by first | omega | (simp only [Int.toNat_natCast, toNat_add, toNat_add1, List.length_append, List.length_cons, List.length_nil, List.length_replicate]; omega))) rfl rfl ?_ -- law.go:18 binOp
      refine Runs_p rfl (Valid.assignk (A := Is _) rfl rfl) rfl rfl ?_ -- law.go:18 assign
      refine Runs_nil ?_
      refine thenQ_n ?_
      refine W_ret ?_
      refine finQ_r ?_
      refine ResOk.one rfl (RVal.is rfl rfl (by simp only [pickV]; split <;> first | rfl | omega))
      done)

def drL (raw : List Int) (i : Nat) : Int := 1 + pickV (raw.getD i 0) 20
theorem dr_bd (raw : List Int) (i : Nat) : Da.good (drL raw i) := by
  have := pickV_range (raw.getD i 0) 20 (by decide)
  unfold Da.good drL; omega
/-- the lengths that are drawn -/
def lnS (raw : List Int) : Nat → List Int
  | 0 => [5, 5]
  | i + 1 => if i < 2 then (lnS raw i).set i (drL raw i) else lnS raw i ++ [drL raw i]
theorem lnS_len (raw : List Int) : ∀ i, (lnS raw i).length = max 2 i
  | 0 => rfl
  | i + 1 => by
    have ih := lnS_len raw i
    rw [lnS]
    split
    · rw [List.length_set]; omega
    · rw [List.length_append, List.length_singleton]; omega
theorem lnS_gd (raw : List Int) : ∀ i, ∀ x ∈ lnS raw i, Da.good x
  | 0 => fun x hx => by
    rw [lnS] at hx
    simp at hx
    rw [hx]; decide
  | i + 1 => by
    have ih := lnS_gd raw i
    have hd := dr_bd raw i
    rw [lnS]
    split
    · intro x hx
      rcases List.mem_or_eq_of_mem_set hx with h | h
      · exact ih x h
      · rw [h]; exact hd
    · intro x hx
      rcases List.mem_append.1 hx with h | h
      · exact ih x h
      · simp at h; rw [h]; exact hd
theorem lnS_a {raw : List Int} {i : Nat} (h : i < 2) : (lnS raw i).set (i : Int).toNat (drL raw i) = lnS raw (i + 1) := by rw [lnS, if_pos h]; rfl
theorem lnS_b {raw : List Int} {i : Nat} (h : ¬ i < 2) : lnS raw i ++ [drL raw i] = lnS raw (i + 1) := by rw [lnS, if_neg h]
def lens (raw : List Int) : List Int := lnS raw (min raw.length 60)
theorem lens_eq {raw : List Int} {i : Nat} (h1 : i ≤ raw.length) (h2 : i ≤ 60) (h : ¬ ((i : Int) < raw.length ∧ (i : Int) < 60)) : lens raw = lnS raw i := by
  rw [lens, show min raw.length 60 = i by omega]
theorem lens_len (raw : List Int) : 2 ≤ (lens raw).length ∧ (lens raw).length ≤ 60 := by
  unfold lens; rw [lnS_len]; omega
theorem lens_gd (raw : List Int) : ∀ x ∈ lens raw, Da.good x := lnS_gd raw _

set_option maxRecDepth 100000 in
set_option maxHeartbeats 1000000 in
theorem lens_s (raw : List Int) (hr : In64 raw) (hl : raw.length ≤ 9223372036854775807) :
    FPure Try.prog 10 [Sl 1 raw.length (raw.map (Value.int .i64))] (Sl 1 (lens raw).length ((lens raw).map (Value.int .i64))) := by
  refine FPure.of Try.func10 Try.ntmps10 rfl (by kernel_rfl) rfl rfl rfl ?_
  refine W_seq ?_
  refine W_regionE (c := 1) (c' := 2) (by kernel_rfl) rfl ?_
  refine Runs_p rfl (Valid.assignk (A := Is (.slice none 0 0)) rfl rfl) rfl rfl ?_ -- law.go:22 assign
  refine Runs_nil ?_
  refine thenQ_n ?_
  refine W_seq ?_
  refine W_regionE (c := 2) (c' := 4) (by kernel_rfl) rfl ?_
  refine Runs_w rfl (Valid.litbuf (el := 3) (Value.int .i64) ([5, 5]) rfl rfl (fun _ => by kernel_rfl) rfl (by decide)) rfl rfl ?_ -- law.go:23 buildSlice
  refine Runs_p rfl (Valid.assignk (A := Buf 16 _) rfl rfl) rfl rfl ?_ -- law.go:23 assign
  refine Runs_nil ?_
  refine thenQ_n ?_
  refine W_seq ?_
  refine W_seq ?_
  refine W_regionE (c := 4) (c' := 5) (by kernel_rfl) rfl ?_
  refine Runs_p rfl (Valid.assignk (A := Is _) rfl rfl) rfl rfl ?_ -- law.go:24 assign
  refine Runs_nil ?_
  refine thenQ_n ?_
  refine W_block ?_
  refine W_loopx (G := Nat) (fun (i : Nat) => i ≤ raw.length ∧ i ≤ 60) [(0, Sl 1 _ _)] (fun (i : Nat) => [(4, Is (.int .i64 (i : Int))), (3, Buf 16 (max 2 i))]) [] (fun (i : Nat) => [(16, .buf 3 ((lnS raw i).map (Value.int .i64)))]) 5 (fun (i : Nat) => raw.length - i) (0) [] (⟨by omega, by omega⟩) ⟨⟨(leq_is rfl rfl (by first | rfl)), (leq_buf rfl rfl rfl (by first | rfl)), trivial⟩, ⟨(leq_sl (Reads.sl rfl) rfl rfl rfl), trivial⟩, ⟨hp_buf rfl (by first | rfl), trivial⟩, trivial, rfl, ⟨supg rfl, supg rfl, trivial⟩, ⟨supg rfl, trivial⟩, ⟨suph rfl rfl, trivial⟩, trivial, rfl, rfl⟩ ?_
  intro i hI1
  obtain ⟨hi1, hi2⟩ := hI1
  have hcl := lnS_len raw i
  have hna : (lnS raw i ++ [drL raw i]).length = (lnS raw i).length + 1 := by simp
  have hpk := pickV_range (raw.getD i 0) 20 (by decide)
  refine W_seq ?_
  refine W_seq ?_
  refine W_regionE (c := 5) (c' := 13) (by kernel_rfl) rfl ?_
  refine Runs_p rfl (Valid.movek (A := Is _) rfl rfl) rfl rfl ?_ -- law.go:24 move
  refine Runs_p rfl (Valid.movek (A := Sl 1 _ _) rfl rfl) rfl rfl ?_ -- law.go:24 move
  refine Runs_p rfl (Valid.len rfl Try.underlying22 (Reads.sl rfl)) rfl rfl ?_ -- law.go:24 call
  refine Runs_p rfl (Valid.lss rfl rfl rfl) rfl rfl ?_ -- law.go:24 binOp
  refine Runs_p rfl (Valid.movek (A := Is _) rfl rfl) rfl rfl ?_ -- law.go:24 move
  refine Runs_cnd rfl rfl (Grd.is rfl) [] (fun hg => trivial) (fun hg => Valid.movek (A := Is _) rfl rfl) (by rfl) rfl ?_
  refine Runs_cnd rfl rfl (Grd.is rfl) [(11, _)] (fun hg => ⟨cnd_at rfl (by first | exact hg | exact hg.1 | exact hg.1.1 | exact hg.1.1.1), trivial⟩) (fun hg => Valid.lss rfl rfl rfl) (by rfl) rfl ?_
  refine Runs_p rfl (Valid.pickand rfl rfl rfl (fun h => by first | exact h | exact ⟨hg, h⟩) rfl) rfl rfl ?_ -- law.go:24 pick
  refine Runs_nil ?_
  refine thenQ_n ?_
  refine W_cond _ rfl (fun hb1 => ?_) (fun hb1 => ?_)
  · try simp only [decide_eq_true_eq, Bool.and_eq_true] at hb1
    all_goals (
      refine W_skip ?_
      refine thenQ_n ?_
      refine W_seq ?_
      refine W_block ?_
      refine W_seq ?_
      refine W_regionE (c := 13) (c' := 15) (by kernel_rfl) rfl ?_
      refine Runs_p rfl (Valid.movek (A := Is _) rfl rfl) rfl rfl ?_ -- law.go:25 move
      refine Runs_p rfl (Valid.lss rfl rfl rfl) rfl rfl ?_ -- law.go:25 binOp
      refine Runs_nil ?_
      refine thenQ_n ?_
      refine W_cond _ rfl (fun hb2 => ?_) (fun hb2 => ?_)
      · try simp only [decide_eq_true_eq] at hb2
        all_goals (
          refine W_regionE (c := 15) (c' := 25) (by kernel_rfl) rfl ?_
          refine Runs_p rfl (Valid.movek (A := Buf 16 _) rfl rfl) rfl rfl ?_ -- law.go:26 move
          refine Runs_p rfl (Valid.movek (A := Is _) rfl rfl) rfl rfl ?_ -- law.go:26 move
          refine Runs_p rfl (Valid.movek (A := Sl 1 _ _) rfl rfl) rfl rfl ?_ -- law.go:26 move
          refine Runs_p rfl (Valid.movek (A := Is _) rfl rfl) rfl rfl ?_ -- law.go:26 move
          refine Runs_p rfl (Valid.eltaddr1 0 rfl Try.underlying22 sz3 (Reads.sl rfl) rfl (by first | omega | (simp only [Int.toNat_natCast, toNat_add, toNat_add1, List.length_append, List.length_cons, List.length_nil, List.length_replicate]; omega)) (by first | rfl | simp)) rfl rfl ?_ -- law.go:26 indexAddr
          refine Runs_p rfl (Valid.loadelt rfl ag3 rfl) rfl rfl ?_ -- law.go:26 load
          refine Runs_p rfl (Valid.call rfl (pick9_s _ _ (hr.at_ _).1 (hr.at_ _).2 (by decide) (by decide)) ⟨argle rfl, argle rfl, trivial⟩) rfl rfl ?_ -- law.go:26 call
          refine Runs_p rfl (Valid.add rfl rfl rfl (room64 (by first | omega | (simp only [Int.toNat_natCast]; omega)) (by first | omega | (simp only [Int.toNat_natCast]; omega)))) rfl rfl ?_ -- law.go:26 binOp
          refine Runs_p rfl (Valid.idxB rfl Try.underlying22 sz3 rfl rfl (by first | omega | (simp only [Int.toNat_natCast, toNat_add, toNat_add1, List.length_append, List.length_cons, List.length_nil, List.length_replicate]; omega))) rfl rfl ?_ -- law.go:26 indexAddr
          refine Runs_op rfl (Valid.storeB _ rfl sz3 rfl rfl (by show i < _; omega) rfl (One.is rfl rfl rfl)) rfl ?_ -- law.go:26 store
          refine Runs_nil ?_
          refine blockQ_n ?_
          refine thenQ_n ?_
          refine W_regionE (c := 25) (c' := 28) (by kernel_rfl) rfl ?_
          refine Runs_p rfl (Valid.movek (A := Is _) rfl rfl) rfl rfl ?_ -- law.go:24 move
          refine Runs_p rfl (Valid.add rfl rfl rfl (room64 (by first | omega | (simp only [Int.toNat_natCast, toNat_add, toNat_add1, List.length_append, List.length_cons, List.length_nil, List.length_replicate]; omega)) (by first | omega | (simp only [Int.toNat_natCast, toNat_add, toNat_add1, List.length_append, List.length_cons, List.length_nil, List.length_replicate]; omega)))) rfl rfl ?_ -- law.go:24 binOp
          refine Runs_p rfl (Valid.assignk (A := Is _) rfl rfl) rfl rfl ?_ -- law.go:24 assign
          refine Runs_nil ?_
          refine LoopQ.next (i + 1) [] (⟨by omega, by omega⟩) (by omega) ⟨⟨(leq_is rfl rfl (by first | rfl | omega | exact lnS_a (i := i) (by omega) | exact lnS_b (i := i) (by omega) | exact congrArg (List.map (Value.int .i64)) (lnS_a (i := i) (by omega)) | exact congrArg (List.map (Value.int .i64)) (lnS_b (i := i) (by omega)) | (rw [List.length_append, hcl, List.length_singleton]; omega) | (rw [List.length_set, hcl]; omega))), (leq_buf rfl rfl rfl (by first | rfl | omega | exact lnS_a (i := i) (by omega) | exact lnS_b (i := i) (by omega) | exact congrArg (List.map (Value.int .i64)) (lnS_a (i := i) (by omega)) | exact congrArg (List.map (Value.int .i64)) (lnS_b (i := i) (by omega)) | (rw [List.length_append, hcl, List.length_singleton]; omega) | (rw [List.length_set, hcl]; omega))), trivial⟩, ⟨(leq_sl (Reads.sl rfl) rfl rfl rfl), trivial⟩, ⟨hp_buf rfl (by first | rfl | omega | exact lnS_a (i := i) (by omega) | exact lnS_b (i := i) (by omega) | exact congrArg (List.map (Value.int .i64)) (lnS_a (i := i) (by omega)) | exact congrArg (List.map (Value.int .i64)) (lnS_b (i := i) (by omega)) | (rw [List.length_append, hcl, List.length_singleton]; omega) | (rw [List.length_set, hcl]; omega)), trivial⟩, trivial, rfl, ⟨supg rfl, supg rfl, trivial⟩, ⟨supg rfl, trivial⟩, ⟨suph rfl rfl, trivial⟩, trivial, rfl, rfl⟩
          done)
      · try simp only [decide_eq_false_iff_not] at hb2
        all_goals (
          refine W_regionE (c := 15) (c' := 25) (by kernel_rfl) rfl ?_
          refine Runs_p rfl (Valid.movek (A := Buf 16 _) rfl rfl) rfl rfl ?_ -- law.go:28 move
          refine Runs_p rfl (Valid.movek (A := Sl 1 _ _) rfl rfl) rfl rfl ?_ -- law.go:28 move
          refine Runs_p rfl (Valid.movek (A := Is _) rfl rfl) rfl rfl ?_ -- law.go:28 move
          refine Runs_p rfl (Valid.eltaddr1 0 rfl Try.underlying22 sz3 (Reads.sl rfl) rfl (by first | omega | (simp only [Int.toNat_natCast, toNat_add, toNat_add1, List.length_append, List.length_cons, List.length_nil, List.length_replicate]; omega)) (by first | rfl | simp)) rfl rfl ?_ -- law.go:28 indexAddr
          refine Runs_p rfl (Valid.loadelt rfl ag3 rfl) rfl rfl ?_ -- law.go:28 load
          refine Runs_p rfl (Valid.call rfl (pick9_s _ _ (hr.at_ _).1 (hr.at_ _).2 (by decide) (by decide)) ⟨argle rfl, argle rfl, trivial⟩) rfl rfl ?_ -- law.go:28 call
          refine Runs_p rfl (Valid.add rfl rfl rfl (room64 (by first | omega | (simp only [Int.toNat_natCast]; omega)) (by first | omega | (simp only [Int.toNat_natCast]; omega)))) rfl rfl ?_ -- law.go:28 binOp
          refine Runs_p rfl (Valid.lit (el := 3) [_] rfl rfl (fun _ => by kernel_rfl) rfl (by decide)) rfl rfl ?_ -- law.go:28 buildSlice
          refine Runs_w rfl (Valid.appB (f := Value.int .i64) rfl Try.underlying22 ti3 rfl rfl (Reads.sl rfl) rfl (by first | (simp only [maxLen]; omega) | (simp only [maxLen, Int.toNat_natCast, toNat_add, toNat_add1, List.length_append, List.length_cons, List.length_nil, List.length_replicate]; omega)) (by first | omega | (simp only [Int.toNat_natCast, toNat_add, toNat_add1, List.length_append, List.length_cons, List.length_nil, List.length_replicate]; omega))) rfl rfl ?_ -- law.go:28 call
          refine Runs_p rfl (Valid.assignk (A := Buf 184 _) rfl rfl) rfl rfl ?_ -- law.go:28 assign
          refine Runs_nil ?_
          refine blockQ_n ?_
          refine thenQ_n ?_
          refine W_regionE (c := 25) (c' := 28) (by kernel_rfl) rfl ?_
          refine Runs_p rfl (Valid.movek (A := Is _) rfl rfl) rfl rfl ?_ -- law.go:24 move
          refine Runs_p rfl (Valid.add rfl rfl rfl (room64 (by first | omega | (simp only [Int.toNat_natCast, toNat_add, toNat_add1, List.length_append, List.length_cons, List.length_nil, List.length_replicate]; omega)) (by first | omega | (simp only [Int.toNat_natCast, toNat_add, toNat_add1, List.length_append, List.length_cons, List.length_nil, List.length_replicate]; omega)))) rfl rfl ?_ -- law.go:24 binOp
          refine Runs_p rfl (Valid.assignk (A := Is _) rfl rfl) rfl rfl ?_ -- law.go:24 assign
          refine Runs_nil ?_
          refine LoopQ.next (i + 1) [(16, 184)] (⟨by omega, by omega⟩) (by omega) ⟨⟨(leq_is rfl rfl (by first | rfl | omega | exact lnS_a (i := i) (by omega) | exact lnS_b (i := i) (by omega) | exact congrArg (List.map (Value.int .i64)) (lnS_a (i := i) (by omega)) | exact congrArg (List.map (Value.int .i64)) (lnS_b (i := i) (by omega)) | (rw [List.length_append, hcl, List.length_singleton]; omega) | (rw [List.length_set, hcl]; omega))), (leq_buf rfl rfl rfl (by first | rfl | omega | exact lnS_a (i := i) (by omega) | exact lnS_b (i := i) (by omega) | exact congrArg (List.map (Value.int .i64)) (lnS_a (i := i) (by omega)) | exact congrArg (List.map (Value.int .i64)) (lnS_b (i := i) (by omega)) | (rw [List.length_append, hcl, List.length_singleton]; omega) | (rw [List.length_set, hcl]; omega))), trivial⟩, ⟨(leq_sl (Reads.sl rfl) rfl rfl rfl), trivial⟩, ⟨hp_buf rfl (by first | rfl | omega | exact lnS_a (i := i) (by omega) | exact lnS_b (i := i) (by omega) | exact congrArg (List.map (Value.int .i64)) (lnS_a (i := i) (by omega)) | exact congrArg (List.map (Value.int .i64)) (lnS_b (i := i) (by omega)) | (rw [List.length_append, hcl, List.length_singleton]; omega) | (rw [List.length_set, hcl]; omega)), trivial⟩, trivial, rfl, ⟨supg rfl, supg rfl, trivial⟩, ⟨supg rfl, trivial⟩, ⟨suph rfl rfl, trivial⟩, trivial, rfl, rfl⟩
          done)
      done)
  · try simp only [decide_eq_false_iff_not, Bool.and_eq_false_iff] at hb1
    all_goals (
      refine W_exit ?_
      refine thenQ_e ?_
      refine loopQ_e ?_
      refine blockQ_x ?_
      refine thenQ_n ?_
      refine W_seq ?_
      refine W.ent ?_ (Ent.freezeBuf 3 16 _ rfl rfl (by first | (rw [List.length_map, lnS_len]; done) | (rw [List.length_map, lnS_len]; omega)))
      refine W_regionE (c := 13) (c' := 15) (by kernel_rfl) rfl ?_
      refine Runs_p rfl (Valid.movek (A := Sl 1 _ _) rfl rfl) rfl rfl ?_ -- law.go:31 move
      refine Runs_p rfl (Valid.assignk (A := Sl 1 _ _) rfl rfl) rfl rfl ?_ -- law.go:31 assign
      refine Runs_nil ?_
      refine thenQ_n ?_
      refine W_ret ?_
      refine finQ_r ?_
      refine ResOk.one rfl (RVal.sl (Reads.sl rfl) rfl (by first | (rw [lens_eq hi1 hi2 (by omega)]; done) | (rw [lens_eq hi1 hi2 (by omega), lnS_len]; done) | (rw [lens_eq hi1 hi2 (by omega), lnS_len]; omega)) (by first | (rw [lens_eq hi1 hi2 (by omega)]; done) | (rw [lens_eq hi1 hi2 (by omega), lnS_len]; done) | (rw [lens_eq hi1 hi2 (by omega), lnS_len]; omega)))
      done)

theorem kP : putD [3, 4, 4, 2] = ((⟨#[0x1a, 0x3c]⟩, 15), 0) := by kernel_rfl
theorem kP2 : putD [3, 21] = ((⟨#[]⟩, 0), 1) := by kernel_rfl
theorem kT : takeD ⟨#[0x1a, 0x3c]⟩ 0 4 = ([3, 4, 4, 2], 15, 0) := by kernel_rfl
theorem kT5 : takeD ⟨#[0x1a, 0x3c]⟩ 0 5 = ([3, 4, 4, 2, 2], 16, 0) := by kernel_rfl
theorem kT2 : takeD ⟨#[0]⟩ 0 2 = ([], 0, 3) := by kernel_rfl
theorem kT3 : takeD ⟨#[]⟩ 0 2 = ([], 0, 2) := by kernel_rfl
theorem kT4 : takeD ⟨#[]⟩ 0 1 = ([], 0, 1) := by kernel_rfl
theorem aw_p {m : List Int} {n : Nat} {xs : List Value} {r : (ByteArray × Int) × Int} (hr : putD m = r) (hn : n = m.length) (hx : xs = m.map (Value.int .i64)) (hm : m.length ≤ 9223372036854775807) : FPure Try.prog 11 [Sl 1 n xs] (Tup [Agg [Is (.string r.1.1), Is (.int .i64 r.1.2)], Is (.int .i64 r.2)]) := by
  subst hr hn hx
  exact put_s m hm
theorem tk_t {s : ByteArray} {a n : Int} {l : List Int} {x e : Int} (hr : takeD s a n = (l, x, e)) (hs : s.size ≤ 100000000000) (ha : -9223372036854775808 ≤ a ∧ a ≤ 9223372036854775807) (hn : -9223372036854775808 ≤ n ∧ n ≤ 9223372036854775807) : FPure Try.prog 14 [Is (.string s), Is (.int .i64 a), Is (.int .i64 n)] (Tup [Sl 1 l.length (l.map (Value.int .i64)), Is (.int .i64 x), Is (.int .i64 e)]) := by
  have h := take_s s hs a n ha hn
  rw [hr] at h
  exact h

set_option maxRecDepth 100000 in
set_option maxHeartbeats 1000000 in
theorem awake9_s  :
    FPure Try.prog 9 [] (Is (.bool true)) := by
  refine FPure.of Try.func9 Try.ntmps9 rfl (by kernel_rfl) rfl rfl rfl ?_
  refine W_seq ?_
  refine W_regionE (c := 1) (c' := 2) (by kernel_rfl) rfl ?_
  refine Runs_p rfl (Valid.assignk (A := Is _) rfl rfl) rfl rfl ?_ -- law.go:35 assign
  refine Runs_nil ?_
  refine thenQ_n ?_
  refine W_seq ?_
  refine W_regionE (c := 2) (c' := 10) (by kernel_rfl) rfl ?_
  refine Runs_p rfl (Valid.lit (el := 3) (([3, 4, 4, 2] : List Int).map (Value.int .i64)) rfl rfl (fun _ => by kernel_rfl) rfl (by decide)) rfl rfl ?_ -- law.go:36 buildSlice
  refine Runs_p rfl (Valid.call rfl (aw_p kP rfl rfl (by decide)) ⟨argle_sl (Reads.sl rfl), trivial⟩) rfl rfl ?_ -- law.go:36 call
  refine Runs_p rfl (Valid.movek (A := Tup [Agg [Is _, Is _], Is _]) rfl rfl) rfl rfl ?_ -- law.go:36 move
  refine Runs_p rfl (Valid.extract _ rfl rfl rfl) rfl rfl ?_ -- law.go:36 extract
  refine Runs_p rfl (Valid.extract _ rfl rfl rfl) rfl rfl ?_ -- law.go:36 extract
  refine Runs_w rfl (Valid.alloc [(Value.string ⟨#[]⟩), (Value.int .i64 0)] rfl zv27 rfl) rfl rfl ?_ -- law.go:36 alloc
  refine Runs_op rfl (Valid.storeagg (l := [_, _]) rfl sz27 rfl rfl (Nat.le_of_ble_eq_true rfl) rfl ⟨(One.is rfl rfl rfl), (One.is rfl rfl rfl), trivial⟩) rfl ?_ -- law.go:36 store
  refine Runs_p rfl (Valid.assignk (A := Is _) rfl rfl) rfl rfl ?_ -- law.go:36 assign
  refine Runs_nil ?_
  refine thenQ_n ?_
  refine W_seq ?_
  refine W_regionE (c := 10) (c' := 20) (by kernel_rfl) rfl ?_
  refine Runs_p rfl (Valid.fieldaddr (off' := 0) rfl rfl (fun _ _ => by kernel_rfl)) rfl rfl ?_ -- law.go:37 fieldAddr
  refine Runs_p rfl (Valid.load _ rfl ag9 rfl rfl rfl) rfl rfl ?_ -- law.go:37 load
  refine Runs_p rfl (Valid.call rfl (tk_t kT (by decide) (by decide) (by decide)) ⟨argle rfl, argle rfl, argle rfl, trivial⟩) rfl rfl ?_ -- law.go:37 call
  refine Runs_p rfl (Valid.movek (A := Tup [Sl 1 _ _, Is _, Is _]) rfl rfl) rfl rfl ?_ -- law.go:37 move
  refine Runs_p rfl (Valid.extract _ rfl rfl rfl) rfl rfl ?_ -- law.go:37 extract
  refine Runs_p rfl (Valid.extract _ rfl rfl rfl) rfl rfl ?_ -- law.go:37 extract
  refine Runs_p rfl (Valid.extract _ rfl rfl rfl) rfl rfl ?_ -- law.go:37 extract
  refine Runs_p rfl (Valid.assignk (A := Sl 1 _ _) rfl rfl) rfl rfl ?_ -- law.go:37 assign
  refine Runs_p rfl (Valid.assignk (A := Is _) rfl rfl) rfl rfl ?_ -- law.go:37 assign
  refine Runs_p rfl (Valid.assignk (A := Is _) rfl rfl) rfl rfl ?_ -- law.go:37 assign
  refine Runs_nil ?_
  refine thenQ_n ?_
  refine W_seq ?_
  refine W_regionE (c := 20) (c' := 30) (by kernel_rfl) rfl ?_
  refine Runs_p rfl (Valid.fieldaddr (off' := 0) rfl rfl (fun _ _ => by kernel_rfl)) rfl rfl ?_ -- law.go:38 fieldAddr
  refine Runs_p rfl (Valid.load _ rfl ag9 rfl rfl rfl) rfl rfl ?_ -- law.go:38 load
  refine Runs_p rfl (Valid.call rfl (tk_t kT5 (by decide) (by decide) (by decide)) ⟨argle rfl, argle rfl, argle rfl, trivial⟩) rfl rfl ?_ -- law.go:38 call
  refine Runs_p rfl (Valid.movek (A := Tup [Sl 1 _ _, Is _, Is _]) rfl rfl) rfl rfl ?_ -- law.go:38 move
  refine Runs_p rfl (Valid.extract _ rfl rfl rfl) rfl rfl ?_ -- law.go:38 extract
  refine Runs_p rfl (Valid.extract _ rfl rfl rfl) rfl rfl ?_ -- law.go:38 extract
  refine Runs_p rfl (Valid.extract _ rfl rfl rfl) rfl rfl ?_ -- law.go:38 extract
  refine Runs_p rfl (Valid.assignk (A := Sl 1 _ _) rfl rfl) rfl rfl ?_ -- law.go:38 assign
  refine Runs_p rfl (Valid.assignk (A := Is _) rfl rfl) rfl rfl ?_ -- law.go:38 assign
  refine Runs_p rfl (Valid.assignk (A := Is _) rfl rfl) rfl rfl ?_ -- law.go:38 assign
  refine Runs_nil ?_
  refine thenQ_n ?_
  refine W_seq ?_
  refine W_regionE (c := 30) (c' := 38) (by kernel_rfl) rfl ?_
  refine Runs_p rfl (Valid.call rfl (tk_t kT2 (by decide) (by decide) (by decide)) ⟨argle rfl, argle rfl, argle rfl, trivial⟩) rfl rfl ?_ -- law.go:39 call
  refine Runs_p rfl (Valid.movek (A := Tup [Sl 1 _ _, Is _, Is _]) rfl rfl) rfl rfl ?_ -- law.go:39 move
  refine Runs_p rfl (Valid.extract _ rfl rfl rfl) rfl rfl ?_ -- law.go:39 extract
  refine Runs_p rfl (Valid.extract _ rfl rfl rfl) rfl rfl ?_ -- law.go:39 extract
  refine Runs_p rfl (Valid.extract _ rfl rfl rfl) rfl rfl ?_ -- law.go:39 extract
  refine Runs_p rfl (Valid.assignk (A := Sl 1 _ _) rfl rfl) rfl rfl ?_ -- law.go:39 assign
  refine Runs_p rfl (Valid.assignk (A := Is _) rfl rfl) rfl rfl ?_ -- law.go:39 assign
  refine Runs_p rfl (Valid.assignk (A := Is _) rfl rfl) rfl rfl ?_ -- law.go:39 assign
  refine Runs_nil ?_
  refine thenQ_n ?_
  refine W_seq ?_
  refine W_regionE (c := 38) (c' := 46) (by kernel_rfl) rfl ?_
  refine Runs_p rfl (Valid.call rfl (tk_t kT3 (by decide) (by decide) (by decide)) ⟨argle rfl, argle rfl, argle rfl, trivial⟩) rfl rfl ?_ -- law.go:40 call
  refine Runs_p rfl (Valid.movek (A := Tup [Sl 1 _ _, Is _, Is _]) rfl rfl) rfl rfl ?_ -- law.go:40 move
  refine Runs_p rfl (Valid.extract _ rfl rfl rfl) rfl rfl ?_ -- law.go:40 extract
  refine Runs_p rfl (Valid.extract _ rfl rfl rfl) rfl rfl ?_ -- law.go:40 extract
  refine Runs_p rfl (Valid.extract _ rfl rfl rfl) rfl rfl ?_ -- law.go:40 extract
  refine Runs_p rfl (Valid.assignk (A := Sl 1 _ _) rfl rfl) rfl rfl ?_ -- law.go:40 assign
  refine Runs_p rfl (Valid.assignk (A := Is _) rfl rfl) rfl rfl ?_ -- law.go:40 assign
  refine Runs_p rfl (Valid.assignk (A := Is _) rfl rfl) rfl rfl ?_ -- law.go:40 assign
  refine Runs_nil ?_
  refine thenQ_n ?_
  refine W_seq ?_
  refine W_regionE (c := 46) (c' := 54) (by kernel_rfl) rfl ?_
  refine Runs_p rfl (Valid.call rfl (tk_t kT4 (by decide) (by decide) (by decide)) ⟨argle rfl, argle rfl, argle rfl, trivial⟩) rfl rfl ?_ -- law.go:41 call
  refine Runs_p rfl (Valid.movek (A := Tup [Sl 1 _ _, Is _, Is _]) rfl rfl) rfl rfl ?_ -- law.go:41 move
  refine Runs_p rfl (Valid.extract _ rfl rfl rfl) rfl rfl ?_ -- law.go:41 extract
  refine Runs_p rfl (Valid.extract _ rfl rfl rfl) rfl rfl ?_ -- law.go:41 extract
  refine Runs_p rfl (Valid.extract _ rfl rfl rfl) rfl rfl ?_ -- law.go:41 extract
  refine Runs_p rfl (Valid.assignk (A := Sl 1 _ _) rfl rfl) rfl rfl ?_ -- law.go:41 assign
  refine Runs_p rfl (Valid.assignk (A := Is _) rfl rfl) rfl rfl ?_ -- law.go:41 assign
  refine Runs_p rfl (Valid.assignk (A := Is _) rfl rfl) rfl rfl ?_ -- law.go:41 assign
  refine Runs_nil ?_
  refine thenQ_n ?_
  refine W_seq ?_
  refine W_regionE (c := 54) (c' := 62) (by kernel_rfl) rfl ?_
  refine Runs_p rfl (Valid.lit (el := 3) (([3, 21] : List Int).map (Value.int .i64)) rfl rfl (fun _ => by kernel_rfl) rfl (by decide)) rfl rfl ?_ -- law.go:42 buildSlice
  refine Runs_p rfl (Valid.call rfl (aw_p kP2 rfl rfl (by decide)) ⟨argle_sl (Reads.sl rfl), trivial⟩) rfl rfl ?_ -- law.go:42 call
  refine Runs_p rfl (Valid.movek (A := Tup [Agg [Is _, Is _], Is _]) rfl rfl) rfl rfl ?_ -- law.go:42 move
  refine Runs_p rfl (Valid.extract _ rfl rfl rfl) rfl rfl ?_ -- law.go:42 extract
  refine Runs_p rfl (Valid.extract _ rfl rfl rfl) rfl rfl ?_ -- law.go:42 extract
  refine Runs_w rfl (Valid.alloc [(Value.string ⟨#[]⟩), (Value.int .i64 0)] rfl zv27 rfl) rfl rfl ?_ -- law.go:42 alloc
  refine Runs_op rfl (Valid.storeagg (l := [_, _]) rfl sz27 rfl rfl (Nat.le_of_ble_eq_true rfl) rfl ⟨(One.is rfl rfl rfl), (One.is rfl rfl rfl), trivial⟩) rfl ?_ -- law.go:42 store
  refine Runs_p rfl (Valid.assignk (A := Is _) rfl rfl) rfl rfl ?_ -- law.go:42 assign
  refine Runs_nil ?_
  refine thenQ_n ?_
  refine W_seq ?_
  refine W_regionE (c := 62) (c' := 107) (by kernel_rfl) rfl ?_
  refine Runs_p rfl (Valid.movek (A := Is _) rfl rfl) rfl rfl ?_ -- law.go:43 move
  refine Runs_p rfl (Valid.eql rfl rfl rfl) rfl rfl ?_ -- law.go:43 binOp
  refine Runs_p rfl (Valid.movek (A := Is _) rfl rfl) rfl rfl ?_ -- law.go:43 move
  refine Runs_yesp rfl rfl (Grd.is rfl) (by decide) (Valid.loadagg rfl ag27 sz27 rfl rfl (Nat.le_of_ble_eq_true rfl)) rfl rfl ?_ -- law.go:43 load
  refine Runs_yesp rfl rfl (Grd.is rfl) (by decide) (Valid.struct [_, _] rfl rfl (fun _ => by kernel_rfl)) rfl rfl ?_ -- law.go:43 build
  refine Runs_yesp rfl rfl (Grd.is rfl) (by decide) (Valid.seqS tf27 rfl rfl rfl) rfl rfl ?_ -- law.go:43 binOp
  refine Runs_p rfl (Valid.pickt (A := Is _) rfl rfl rfl) rfl rfl ?_ -- law.go:43 pick
  refine Runs_p rfl (Valid.movek (A := Is _) rfl rfl) rfl rfl ?_ -- law.go:43 move
  refine Runs_yesp rfl rfl (Grd.is rfl) (by decide) (Valid.movek (A := Is _) rfl rfl) rfl rfl ?_ -- law.go:43 move
  refine Runs_yesp rfl rfl (Grd.is rfl) (by decide) (Valid.eql rfl rfl rfl) rfl rfl ?_ -- law.go:43 binOp
  refine Runs_p rfl (Valid.pickt (A := Is _) rfl rfl rfl) rfl rfl ?_ -- law.go:43 pick
  refine Runs_p rfl (Valid.movek (A := Is _) rfl rfl) rfl rfl ?_ -- law.go:43 move
  refine Runs_yesp rfl rfl (Grd.is rfl) (by decide) (Valid.movek (A := Sl 1 _ _) rfl rfl) rfl rfl ?_ -- law.go:43 move
  refine Runs_yesp rfl rfl (Grd.is rfl) (by decide) (Valid.lit (el := 3) (([3, 4, 4, 2] : List Int).map (Value.int .i64)) rfl rfl (fun _ => by kernel_rfl) rfl (by decide)) rfl rfl ?_ -- law.go:43 buildSlice
  refine Runs_yesp rfl rfl (Grd.is rfl) (by decide) (Valid.call rfl (ksame [3, 4, 4, 2] (by decide)) ⟨argle_sl (Reads.sl rfl), argle_sl (Reads.sl rfl), trivial⟩) rfl rfl ?_ -- law.go:43 call
  refine Runs_p rfl (Valid.pickt (A := Is _) rfl rfl rfl) rfl rfl ?_ -- law.go:43 pick
  refine Runs_p rfl (Valid.movek (A := Is _) rfl rfl) rfl rfl ?_ -- law.go:43 move
  refine Runs_yesp rfl rfl (Grd.is rfl) (by decide) (Valid.movek (A := Is _) rfl rfl) rfl rfl ?_ -- law.go:43 move
  refine Runs_yesp rfl rfl (Grd.is rfl) (by decide) (Valid.eql rfl rfl rfl) rfl rfl ?_ -- law.go:43 binOp
  refine Runs_p rfl (Valid.pickt (A := Is _) rfl rfl rfl) rfl rfl ?_ -- law.go:43 pick
  refine Runs_p rfl (Valid.movek (A := Is _) rfl rfl) rfl rfl ?_ -- law.go:43 move
  refine Runs_yesp rfl rfl (Grd.is rfl) (by decide) (Valid.movek (A := Is _) rfl rfl) rfl rfl ?_ -- law.go:43 move
  refine Runs_yesp rfl rfl (Grd.is rfl) (by decide) (Valid.eql rfl rfl rfl) rfl rfl ?_ -- law.go:43 binOp
  refine Runs_yesp rfl rfl (Grd.is rfl) (by decide) (Valid.movek (A := Is _) rfl rfl) rfl rfl ?_ -- law.go:43 move
  refine Runs_cnd rfl rfl (Grd.is rfl) [] (fun hg => trivial) (fun hg => Valid.movek (A := Is _) rfl rfl) (by rfl) rfl ?_
  refine Runs_cnd rfl rfl (Grd.is rfl) [(83, _)] (fun hg => ⟨cnd_at rfl (by first | exact hg | exact hg.1 | exact hg.1.1 | exact hg.1.1.1), trivial⟩) (fun hg => Valid.eql rfl rfl rfl) (by rfl) rfl ?_
  refine Runs_yesp rfl rfl (Grd.is rfl) (by decide) (Valid.pickor rfl rfl rfl rfl (fun h => by first | exact h | exact ⟨hg, h⟩)) rfl rfl ?_ -- law.go:43 pick
  refine Runs_p rfl (Valid.pickt (A := Is _) rfl rfl rfl) rfl rfl ?_ -- law.go:43 pick
  refine Runs_p rfl (Valid.movek (A := Is _) rfl rfl) rfl rfl ?_ -- law.go:43 move
  refine Runs_yesp rfl rfl (Grd.is rfl) (by decide) (Valid.movek (A := Is _) rfl rfl) rfl rfl ?_ -- law.go:43 move
  refine Runs_yesp rfl rfl (Grd.is rfl) (by decide) (Valid.eql rfl rfl rfl) rfl rfl ?_ -- law.go:43 binOp
  refine Runs_p rfl (Valid.pickt (A := Is _) rfl rfl rfl) rfl rfl ?_ -- law.go:43 pick
  refine Runs_p rfl (Valid.movek (A := Is _) rfl rfl) rfl rfl ?_ -- law.go:43 move
  refine Runs_yesp rfl rfl (Grd.is rfl) (by decide) (Valid.movek (A := Is _) rfl rfl) rfl rfl ?_ -- law.go:43 move
  refine Runs_yesp rfl rfl (Grd.is rfl) (by decide) (Valid.eql rfl rfl rfl) rfl rfl ?_ -- law.go:43 binOp
  refine Runs_p rfl (Valid.pickt (A := Is _) rfl rfl rfl) rfl rfl ?_ -- law.go:43 pick
  refine Runs_p rfl (Valid.movek (A := Is _) rfl rfl) rfl rfl ?_ -- law.go:43 move
  refine Runs_yesp rfl rfl (Grd.is rfl) (by decide) (Valid.movek (A := Is _) rfl rfl) rfl rfl ?_ -- law.go:43 move
  refine Runs_yesp rfl rfl (Grd.is rfl) (by decide) (Valid.eql rfl rfl rfl) rfl rfl ?_ -- law.go:43 binOp
  refine Runs_p rfl (Valid.pickt (A := Is _) rfl rfl rfl) rfl rfl ?_ -- law.go:43 pick
  refine Runs_p rfl (Valid.movek (A := Is _) rfl rfl) rfl rfl ?_ -- law.go:43 move
  refine Runs_yesp rfl rfl (Grd.is rfl) (by decide) (Valid.movek (A := Is _) rfl rfl) rfl rfl ?_ -- law.go:43 move
  refine Runs_yesp rfl rfl (Grd.is rfl) (by decide) (Valid.eql rfl rfl rfl) rfl rfl ?_ -- law.go:43 binOp
  refine Runs_p rfl (Valid.pickt (A := Is _) rfl rfl rfl) rfl rfl ?_ -- law.go:43 pick
  refine Runs_p rfl (Valid.assignk (A := Is _) rfl rfl) rfl rfl ?_ -- law.go:43 assign
  refine Runs_nil ?_
  refine thenQ_n ?_
  refine W_ret ?_
  refine finQ_r ?_
  refine ResOk.one rfl (RVal.is rfl rfl (rfl))
end Dg
end Go.Proofs.Ytbfigolloaeknaa
