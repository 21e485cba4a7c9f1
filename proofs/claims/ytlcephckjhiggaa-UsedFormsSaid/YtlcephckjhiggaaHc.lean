/-
  WALKS of stage 7: how long a Map is.
-/
import Derived.Test.YtlcephckjhiggaaRows
import Derived.Test.YtlcephckjhiggaaAbt
import Derived.Test.YtlcephckjhiggaaBb
import Derived.Test.YtlcephckjhiggaaCa
import Derived.Test.YtlcephckjhiggaaGa
import Derived.Test.YtlcephckjhiggaaGb
import Derived.Test.YtlcephckjhiggaaGc
import Derived.Test.YtlcephckjhiggaaGd
import Derived.Test.YtlcephckjhiggaaGe
import Derived.Test.YtlcephckjhiggaaGf
import Derived.Test.YtlcephckjhiggaaGg
import Derived.Test.YtlcephckjhiggaaGh
import Derived.Test.YtlcephckjhiggaaGi
import Derived.Test.YtlcephckjhiggaaGj
import Derived.Test.YtlcephckjhiggaaGk
import Derived.Test.YtlcephckjhiggaaHa
namespace Go.Proofs.Ytlcephckjhiggaa
open Go.RowKit
namespace Hc
open Ab Bm Bt Bb Ca Ga Gb Gc Gd Ge Gf Gg Gh Gi Gj Gk
theorem ag4 (w : World) : (isAgg 4).run Try.prog w = .ok false w := by kernel_rfl
theorem sz4 (w : World) : (sizeOf 4).run Try.prog w = .ok 1 w := by kernel_rfl
theorem zv40 (w : World) : (zeroValue 40).run Try.prog w = .ok (.agg #[(Value.bool false), (Value.bool false), (Value.bool false), (Value.bool false), (Value.bool false), (Value.bool false), (Value.bool false), (Value.bool false), (Value.bool false), (Value.bool false), (Value.bool false), (Value.bool false), (Value.bool false), (Value.bool false), (Value.bool false), (Value.bool false)]) w := by kernel_rfl
open Ha (map_sz)
theorem fldB1 (us : List Value) (v : Value) (w : World) (h : us[1]? = some v) (hl : us.length = 2) : (Instr.field 25 (.agg us.toArray) 1).run Try.prog w = .ok v w := by
  match us, hl with
  | [a, b], _ =>
    have h : b = v := Option.some.inj h
    subst h
    have e : (Instr.field 25 (.agg [a, b].toArray) 1).run Try.prog w = .ok b w := by kernel_rfl
    exact e

theorem row_y {x : ByteArray} {i k : Nat} (hi : i = x.size) (hk : k < 16) (h : (rowsL x i).getD (k : Int).toNat false = true) : 16 + ((resB (hasV x) k).length : Int) + 16 = 16 + ((resB (hasV x) (k + 1)).length : Int) := by
  have h : (rowsL x i).getD k false = true := h
  rw [hi, rows_any x hk x.size] at h
  rw [resB, if_pos (show anyR (hasV x) k 16 = true from h), List.length_append, rowB_len]; omega
theorem row_n {x : ByteArray} {i k : Nat} (hi : i = x.size) (hk : k < 16) (h : (rowsL x i).getD (k : Int).toNat false = false) : 16 + ((resB (hasV x) k).length : Int) = 16 + ((resB (hasV x) (k + 1)).length : Int) := by
  have h : (rowsL x i).getD k false = false := h
  rw [hi, rows_any x hk x.size] at h
  rw [resB, if_neg (by rw [show anyR (hasV x) k 16 = false from h]; decide)]
theorem len_eq (x : ByteArray) {k : Nat} (hk : k = 16) : ((mapB x).length : Int) = 16 + ((resB (hasV x) k).length : Int) := by rw [hk, map_len]; omega
theorem more_y {x : ByteArray} {u : UInt8} {i : Nat} (hi : i = x.size) (h : (rowsL x i).getD ((u.toNat : Int) / 16).toNat false = false) : ((mapB (x ++ ⟨#[u]⟩)).length : Int) = ((mapB x).length : Int) + 16 := by
  have hu := u.toNat_lt
  have h : (rowsL x i).getD (u.toNat / 16) false = false := h
  rw [hi, rows_any x (by omega) x.size] at h
  rw [map_more, if_pos (show anyR (hasV x) (u.toNat / 16) 16 = false from h)]; omega
theorem more_n {x : ByteArray} {u : UInt8} {i : Nat} (hi : i = x.size) (h : (rowsL x i).getD ((u.toNat : Int) / 16).toNat false = true) : ((mapB (x ++ ⟨#[u]⟩)).length : Int) = ((mapB x).length : Int) := by
  have hu := u.toNat_lt
  have h : (rowsL x i).getD (u.toNat / 16) false = true := h
  rw [hi, rows_any x (by omega) x.size] at h
  rw [map_more, if_neg (by rw [show anyR (hasV x) (u.toNat / 16) 16 = true from h]; decide)]; omega

set_option maxRecDepth 100000 in
set_option maxHeartbeats 1000000 in
theorem long_law (s : ByteArray) (hs : s.size ≤ 9223372036854775807) (u : UInt8) :
    FPure Try.prog 6 [Is (.string s), Is (.int .u8 (u.toNat : Int))] (Is (.bool true)) := by
  refine FPure.of Try.func6 Try.ntmps6 rfl (by kernel_rfl) rfl rfl rfl ?_
  refine W_seq ?_
  refine W_regionE (c := 1) (c' := 2) (by kernel_rfl) rfl ?_
  refine Runs_p rfl (Valid.assignk (A := Is _) rfl rfl) rfl rfl ?_ -- law.go:95 assign
  refine Runs_nil ?_
  refine thenQ_n ?_
  refine W_seq ?_
  refine W_regionE (c := 2) (c' := 4) (by kernel_rfl) rfl ?_
  refine Runs_p rfl (Valid.call rfl (awake7_s) trivial) rfl rfl ?_ -- law.go:96 call
  refine Runs_p rfl (Valid.assignk (A := Is _) rfl rfl) rfl rfl ?_ -- law.go:96 assign
  refine Runs_nil ?_
  refine thenQ_n ?_
  refine W_seq ?_
  refine W_regionE (c := 4) (c' := 10) (by kernel_rfl) rfl ?_
  refine Runs_p rfl (Valid.movek (A := Is _) rfl rfl) rfl rfl ?_ -- law.go:97 move
  refine Runs_p rfl (Valid.movek (A := Is _) rfl rfl) rfl rfl ?_ -- law.go:97 move
  refine Runs_p rfl (Valid.slen rfl Try.underlying9 rfl) rfl rfl ?_ -- law.go:97 call
  refine Runs_p rfl (Valid.min rfl rfl rfl) rfl rfl ?_ -- law.go:97 call
  refine Runs_p rfl (Valid.ssliceto rfl Try.underlying9 rfl rfl (by first | omega | (simp only [Int.toNat_natCast, toNat_add, toNat_add1, List.length_append, List.length_cons, List.length_nil, List.length_replicate]; omega))) rfl rfl ?_ -- law.go:97 slice
  refine Runs_p rfl (Valid.assignk (A := Is _) rfl rfl) rfl rfl ?_ -- law.go:97 assign
  refine Runs_nil ?_
  refine thenQ_n ?_
  refine W_seq ?_
  have hxs : (s.extract 0 (min (s.size : Int) 100).toNat).size ≤ 100 := by rw [ByteArray.size_extract]; omega
  generalize (s.extract 0 (min (s.size : Int) 100).toNat) = x at *
  have hul := u.toNat_lt
  have hu1 : (⟨#[u]⟩ : ByteArray).size = 1 := rfl
  have hxu : (x ++ ⟨#[u]⟩).size = x.size + 1 := by rw [ByteArray.size_append]; rfl
  obtain ⟨hml, hmz⟩ := map_sz x
  refine W_regionE (c := 10) (c' := 11) (by kernel_rfl) rfl ?_
  refine Runs_w rfl (Valid.allocarr (f := Value.bool) (zg := false) (n := 16) rfl zv40 (by kernel_rfl)) rfl rfl ?_ -- law.go:98 alloc
  refine Runs_nil ?_
  refine thenQ_n ?_
  refine W_seq ?_
  refine W_seq ?_
  refine W_regionE (c := 11) (c' := 12) (by kernel_rfl) rfl ?_
  refine Runs_p rfl (Valid.assignk (A := Is _) rfl rfl) rfl rfl ?_ -- law.go:99 assign
  refine Runs_nil ?_
  refine thenQ_n ?_
  refine W_block ?_
  refine W_loopx (G := Nat) (fun (i : Nat) => i ≤ x.size) [(1, Is _), (5, Is _), (6, Is _), (7, Ptr 80 0)] (fun (i : Nat) => [(8, Is (.int .i64 (i : Int)))]) [] (fun (i : Nat) => [(80, .var 40 (Arr (Value.bool) (rowsL x i)))]) 12 (fun (i : Nat) => x.size - i) (0) [] (by first | trivial | omega | (simp; omega)) ⟨⟨(leq_is rfl rfl (by first | rfl | exact rows_0 x)), trivial⟩, ⟨(leq_is rfl rfl rfl), (leq_is rfl rfl rfl), (leq_is rfl rfl rfl), (leq_ptr rfl rfl rfl), trivial⟩, ⟨hp_arr rfl (by first | rfl | exact rows_0 x), trivial⟩, trivial, rfl, ⟨supg rfl, trivial⟩, ⟨supg rfl, supg rfl, supg rfl, supg rfl, trivial⟩, ⟨suph_arr rfl, trivial⟩, trivial, rfl, rfl⟩ ?_
  intro i hI1
  have hrl := rows_len x i
  have hbl := (bat x (i : Int)).toNat_lt
  refine W_seq ?_
  refine W_seq ?_
  refine W_regionE (c := 12) (c' := 16) (by kernel_rfl) rfl ?_
  refine Runs_p rfl (Valid.movek (A := Is _) rfl rfl) rfl rfl ?_ -- law.go:99 move
  refine Runs_p rfl (Valid.movek (A := Is _) rfl rfl) rfl rfl ?_ -- law.go:99 move
  refine Runs_p rfl (Valid.slen rfl Try.underlying9 rfl) rfl rfl ?_ -- law.go:99 call
  refine Runs_p rfl (Valid.lss rfl rfl rfl) rfl rfl ?_ -- law.go:99 binOp
  refine Runs_nil ?_
  refine thenQ_n ?_
  refine W_cond _ rfl (fun hb1 => ?_) (fun hb1 => ?_)
  · try simp only [decide_eq_true_eq] at hb1
    all_goals (
      refine W_skip ?_
      refine thenQ_n ?_
      refine W_seq ?_
      refine W_block ?_
      refine W_regionE (c := 16) (c' := 22) (by kernel_rfl) rfl ?_
      refine Runs_p rfl (Valid.movek (A := Is _) rfl rfl) rfl rfl ?_ -- law.go:100 move
      refine Runs_p rfl (Valid.movek (A := Is _) rfl rfl) rfl rfl ?_ -- law.go:100 move
      refine Runs_p rfl (Valid.sindex rfl Try.underlying9 rfl rfl (by first | omega | (simp only [Int.toNat_natCast, toNat_add, toNat_add1, List.length_append, List.length_cons, List.length_nil, List.length_replicate]; omega))) rfl rfl ?_ -- law.go:100 index
      refine Runs_p rfl (Valid.quo rfl rfl rfl (by first | omega | (simp only [Int.toNat_natCast, toNat_add, toNat_add1, List.length_append, List.length_cons, List.length_nil, List.length_replicate]; omega)) (by first | omega | (simp only [Int.toNat_natCast, toNat_add, toNat_add1, List.length_append, List.length_cons, List.length_nil, List.length_replicate]; omega)) (by first | rfl | (unfold Room; rw [IntKind.wrap_u8]; omega))) rfl rfl ?_ -- law.go:100 binOp
      refine Runs_p rfl (Valid.idxarr1 rfl Try.underlying40 sz4 rfl rfl (by first | omega | (simp only [Int.toNat_natCast, toNat_add, toNat_add1, List.length_append, List.length_cons, List.length_nil, List.length_replicate]; omega))) rfl rfl ?_ -- law.go:100 indexAddr
      refine Runs_op rfl (Valid.storearr _ rfl sz4 rfl rfl (by first | omega | (simp only [Int.toNat_natCast, toNat_add, toNat_add1, List.length_append, List.length_cons, List.length_nil, List.length_replicate]; omega)) rfl (One.is rfl rfl rfl)) rfl ?_ -- law.go:100 store
      refine Runs_nil ?_
      refine blockQ_n ?_
      refine thenQ_n ?_
      refine W_regionE (c := 22) (c' := 25) (by kernel_rfl) rfl ?_
      refine Runs_p rfl (Valid.movek (A := Is _) rfl rfl) rfl rfl ?_ -- law.go:99 move
      refine Runs_p rfl (Valid.add rfl rfl rfl (room64 (by first | omega | (simp only [Int.toNat_natCast, toNat_add, toNat_add1, List.length_append, List.length_cons, List.length_nil, List.length_replicate]; omega)) (by first | omega | (simp only [Int.toNat_natCast, toNat_add, toNat_add1, List.length_append, List.length_cons, List.length_nil, List.length_replicate]; omega)))) rfl rfl ?_ -- law.go:99 binOp
      refine Runs_p rfl (Valid.assignk (A := Is _) rfl rfl) rfl rfl ?_ -- law.go:99 assign
      refine Runs_nil ?_
      refine LoopQ.next (i + 1) [] (by omega) (by omega) ⟨⟨(leq_is rfl rfl (by first | rfl | exact rows_1 _ _)), trivial⟩, ⟨(leq_is rfl rfl rfl), (leq_is rfl rfl rfl), (leq_is rfl rfl rfl), (leq_ptr rfl rfl rfl), trivial⟩, ⟨hp_arr rfl (by first | rfl | exact rows_1 _ _), trivial⟩, trivial, rfl, ⟨supg rfl, trivial⟩, ⟨supg rfl, supg rfl, supg rfl, supg rfl, trivial⟩, ⟨suph_arr rfl, trivial⟩, trivial, rfl, rfl⟩
      done)
  · try simp only [decide_eq_false_iff_not] at hb1
    all_goals (
      refine W_exit ?_
      refine thenQ_e ?_
      refine loopQ_e ?_
      refine blockQ_x ?_
      refine thenQ_n ?_
      refine W_seq ?_
      refine W_regionE (c := 16) (c' := 17) (by kernel_rfl) rfl ?_
      refine Runs_p rfl (Valid.assignk (A := Is _) rfl rfl) rfl rfl ?_ -- law.go:102 assign
      refine Runs_nil ?_
      refine thenQ_n ?_
      refine W_seq ?_
      refine W_seq ?_
      refine W_regionE (c := 17) (c' := 18) (by kernel_rfl) rfl ?_
      refine Runs_p rfl (Valid.assignk (A := Is _) rfl rfl) rfl rfl ?_ -- law.go:103 assign
      refine Runs_nil ?_
      refine thenQ_n ?_
      refine W_block ?_
      refine W_loopx (G := Nat) (fun (k : Nat) => k ≤ 16) [(1, Is _), (5, Is _), (6, Is _), (7, Ptr 80 0)] (fun (k : Nat) => [(10, Is (.int .i64 (k : Int))), (9, Is (.int .i64 (16 + ((resB (hasV x) k).length : Int))))]) [(80, .var 40 (Arr (Value.bool) _))] (fun (k : Nat) => []) 18 (fun (k : Nat) => 16 - k) (0) [] (by first | trivial | omega | (simp; omega)) ⟨⟨(leq_is rfl rfl (by first | rfl | (rw [resB_0]; rfl))), (leq_is rfl rfl (by first | rfl | (rw [resB_0]; rfl))), trivial⟩, ⟨(leq_is rfl rfl rfl), (leq_is rfl rfl rfl), (leq_is rfl rfl rfl), (leq_ptr rfl rfl rfl), trivial⟩, trivial, ⟨hp_arr rfl rfl, trivial⟩, rfl, ⟨supg rfl, supg rfl, trivial⟩, ⟨supg rfl, supg rfl, supg rfl, supg rfl, trivial⟩, trivial, ⟨suph_arr rfl, trivial⟩, rfl, rfl⟩ ?_
      intro k hI2
      have hix : i = x.size := by omega
      have hrl := rows_len x x.size
      have hrs := resB_le (hasV x) k
      refine W_seq ?_
      refine W_seq ?_
      refine W_regionE (c := 18) (c' := 20) (by kernel_rfl) rfl ?_
      refine Runs_p rfl (Valid.movek (A := Is _) rfl rfl) rfl rfl ?_ -- law.go:103 move
      refine Runs_p rfl (Valid.lss rfl rfl rfl) rfl rfl ?_ -- law.go:103 binOp
      refine Runs_nil ?_
      refine thenQ_n ?_
      refine W_cond _ rfl (fun hb2 => ?_) (fun hb2 => ?_)
      · try simp only [decide_eq_true_eq] at hb2
        all_goals (
          refine W_skip ?_
          refine thenQ_n ?_
          refine W_seq ?_
          refine W_block ?_
          refine W_seq ?_
          refine W_regionE (c := 20) (c' := 23) (by kernel_rfl) rfl ?_
          refine Runs_p rfl (Valid.movek (A := Is _) rfl rfl) rfl rfl ?_ -- law.go:104 move
          refine Runs_p rfl (Valid.idxarr1 rfl Try.underlying40 sz4 rfl rfl (by first | omega | (simp only [Int.toNat_natCast, toNat_add, toNat_add1, List.length_append, List.length_cons, List.length_nil, List.length_replicate]; omega))) rfl rfl ?_ -- law.go:104 indexAddr
          refine Runs_p rfl (Valid.loadarr false rfl ag4 rfl rfl (by first | omega | (simp only [Int.toNat_natCast, toNat_add, toNat_add1, List.length_append, List.length_cons, List.length_nil, List.length_replicate]; omega))) rfl rfl ?_ -- law.go:104 load
          refine Runs_nil ?_
          refine thenQ_n ?_
          refine W_cond _ rfl (fun hb3 => ?_) (fun hb3 => ?_)
          · try simp only [Int.toNat_natCast] at hb3
            all_goals (
              refine W_regionE (c := 23) (c' := 26) (by kernel_rfl) rfl ?_
              refine Runs_p rfl (Valid.movek (A := Is _) rfl rfl) rfl rfl ?_ -- law.go:105 move
              refine Runs_p rfl (Valid.add rfl rfl rfl (room64 (by first | omega | (simp only [Int.toNat_natCast, toNat_add, toNat_add1, List.length_append, List.length_cons, List.length_nil, List.length_replicate]; omega)) (by first | omega | (simp only [Int.toNat_natCast, toNat_add, toNat_add1, List.length_append, List.length_cons, List.length_nil, List.length_replicate]; omega)))) rfl rfl ?_ -- law.go:105 binOp
              refine Runs_p rfl (Valid.assignk (A := Is _) rfl rfl) rfl rfl ?_ -- law.go:105 assign
              refine Runs_nil ?_
              refine blockQ_n ?_
              refine thenQ_n ?_
              refine W_regionE (c := 26) (c' := 29) (by kernel_rfl) rfl ?_
              refine Runs_p rfl (Valid.movek (A := Is _) rfl rfl) rfl rfl ?_ -- law.go:103 move
              refine Runs_p rfl (Valid.add rfl rfl rfl (room64 (by first | omega | (simp only [Int.toNat_natCast, toNat_add, toNat_add1, List.length_append, List.length_cons, List.length_nil, List.length_replicate]; omega)) (by first | omega | (simp only [Int.toNat_natCast, toNat_add, toNat_add1, List.length_append, List.length_cons, List.length_nil, List.length_replicate]; omega)))) rfl rfl ?_ -- law.go:103 binOp
              refine Runs_p rfl (Valid.assignk (A := Is _) rfl rfl) rfl rfl ?_ -- law.go:103 assign
              refine Runs_nil ?_
              refine LoopQ.next (k + 1) [] (by omega) (by omega) ⟨⟨(leq_is rfl rfl (by first | rfl | exact congrArg (Value.int .i64) (row_y hix (by omega) (by assumption)) | exact congrArg (Value.int .i64) (row_n hix (by omega) (by assumption)) | exact congrArg (Value.int .i64) (by omega))), (leq_is rfl rfl (by first | rfl | exact congrArg (Value.int .i64) (row_y hix (by omega) (by assumption)) | exact congrArg (Value.int .i64) (row_n hix (by omega) (by assumption)) | exact congrArg (Value.int .i64) (by omega))), trivial⟩, ⟨(leq_is rfl rfl rfl), (leq_is rfl rfl rfl), (leq_is rfl rfl rfl), (leq_ptr rfl rfl rfl), trivial⟩, trivial, ⟨hp_arr rfl rfl, trivial⟩, rfl, ⟨supg rfl, supg rfl, trivial⟩, ⟨supg rfl, supg rfl, supg rfl, supg rfl, trivial⟩, trivial, ⟨suph_arr rfl, trivial⟩, rfl, rfl⟩
              done)
          · try simp only [Int.toNat_natCast] at hb3
            all_goals (
              refine W_skip ?_
              refine blockQ_n ?_
              refine thenQ_n ?_
              refine W_regionE (c := 23) (c' := 26) (by kernel_rfl) rfl ?_
              refine Runs_p rfl (Valid.movek (A := Is _) rfl rfl) rfl rfl ?_ -- law.go:103 move
              refine Runs_p rfl (Valid.add rfl rfl rfl (room64 (by first | omega | (simp only [Int.toNat_natCast, toNat_add, toNat_add1, List.length_append, List.length_cons, List.length_nil, List.length_replicate]; omega)) (by first | omega | (simp only [Int.toNat_natCast, toNat_add, toNat_add1, List.length_append, List.length_cons, List.length_nil, List.length_replicate]; omega)))) rfl rfl ?_ -- law.go:103 binOp
              refine Runs_p rfl (Valid.assignk (A := Is _) rfl rfl) rfl rfl ?_ -- law.go:103 assign
              refine Runs_nil ?_
              refine LoopQ.next (k + 1) [] (by omega) (by omega) ⟨⟨(leq_is rfl rfl (by first | rfl | exact congrArg (Value.int .i64) (row_y hix (by omega) (by assumption)) | exact congrArg (Value.int .i64) (row_n hix (by omega) (by assumption)) | exact congrArg (Value.int .i64) (by omega))), (leq_is rfl rfl (by first | rfl | exact congrArg (Value.int .i64) (row_y hix (by omega) (by assumption)) | exact congrArg (Value.int .i64) (row_n hix (by omega) (by assumption)) | exact congrArg (Value.int .i64) (by omega))), trivial⟩, ⟨(leq_is rfl rfl rfl), (leq_is rfl rfl rfl), (leq_is rfl rfl rfl), (leq_ptr rfl rfl rfl), trivial⟩, trivial, ⟨hp_arr rfl rfl, trivial⟩, rfl, ⟨supg rfl, supg rfl, trivial⟩, ⟨supg rfl, supg rfl, supg rfl, supg rfl, trivial⟩, trivial, ⟨suph_arr rfl, trivial⟩, rfl, rfl⟩
              done)
          done)
      · try simp only [decide_eq_false_iff_not] at hb2
        all_goals (
          refine W_exit ?_
          refine thenQ_e ?_
          refine loopQ_e ?_
          refine blockQ_x ?_
          refine thenQ_n ?_
          refine W_seq ?_
          refine W_regionE (c := 20) (c' := 22) (by kernel_rfl) rfl ?_
          refine Runs_p rfl (Valid.movek (A := Is _) rfl rfl) rfl rfl ?_ -- law.go:108 move
          refine Runs_p rfl (Valid.assignk (A := Is _) rfl rfl) rfl rfl ?_ -- law.go:108 assign
          refine Runs_nil ?_
          refine thenQ_n ?_
          refine W_seq ?_
          refine W_seq ?_
          refine W_regionE (c := 22) (c' := 27) (by kernel_rfl) rfl ?_
          refine Runs_p rfl (Valid.movek (A := Is _) rfl rfl) rfl rfl ?_ -- law.go:109 move
          refine Runs_p rfl (Valid.quo rfl rfl rfl (by first | omega | (simp only [Int.toNat_natCast, toNat_add, toNat_add1, List.length_append, List.length_cons, List.length_nil, List.length_replicate]; omega)) (by first | omega | (simp only [Int.toNat_natCast, toNat_add, toNat_add1, List.length_append, List.length_cons, List.length_nil, List.length_replicate]; omega)) (by first | rfl | (unfold Room; rw [IntKind.wrap_u8]; omega))) rfl rfl ?_ -- law.go:109 binOp
          refine Runs_p rfl (Valid.idxarr1 rfl Try.underlying40 sz4 rfl rfl (by first | omega | (simp only [Int.toNat_natCast, toNat_add, toNat_add1, List.length_append, List.length_cons, List.length_nil, List.length_replicate]; omega))) rfl rfl ?_ -- law.go:109 indexAddr
          refine Runs_p rfl (Valid.loadarr false rfl ag4 rfl rfl (by first | omega | (simp only [Int.toNat_natCast, toNat_add, toNat_add1, List.length_append, List.length_cons, List.length_nil, List.length_replicate]; omega))) rfl rfl ?_ -- law.go:109 load
          refine Runs_p rfl (Valid.not rfl rfl) rfl rfl ?_ -- law.go:109 unOp
          refine Runs_nil ?_
          refine thenQ_n ?_
          refine W_cond _ rfl (fun hb4 => ?_) (fun hb4 => ?_)
          · try simp only [Bool.not_eq_true'] at hb4
            all_goals (
              refine W_regionE (c := 27) (c' := 30) (by kernel_rfl) rfl ?_
              refine Runs_p rfl (Valid.movek (A := Is _) rfl rfl) rfl rfl ?_ -- law.go:110 move
              refine Runs_p rfl (Valid.add rfl rfl rfl (room64 (by first | omega | (simp only [Int.toNat_natCast, toNat_add, toNat_add1, List.length_append, List.length_cons, List.length_nil, List.length_replicate]; omega)) (by first | omega | (simp only [Int.toNat_natCast, toNat_add, toNat_add1, List.length_append, List.length_cons, List.length_nil, List.length_replicate]; omega)))) rfl rfl ?_ -- law.go:110 binOp
              refine Runs_p rfl (Valid.assignk (A := Is _) rfl rfl) rfl rfl ?_ -- law.go:110 assign
              refine Runs_nil ?_
              refine thenQ_n ?_
              refine W_seq ?_
              refine W_regionE (c := 30) (c' := 63) (by kernel_rfl) rfl ?_
              refine Runs_p rfl (Valid.movek (A := Is _) rfl rfl) rfl rfl ?_ -- law.go:112 move
              refine Runs_p rfl (Valid.movek (A := Is _) rfl rfl) rfl rfl ?_ -- law.go:112 move
              refine Runs_cnd rfl rfl (Grd.is rfl) [] (fun hg => trivial) (fun hg => Valid.movek (A := Is _) rfl rfl) (by rfl) rfl ?_
              refine Runs_cnd rfl rfl (Grd.is rfl) [(48, _)] (fun hg => ⟨cnd_at rfl (by first | exact hg | exact hg.1 | exact hg.1.1 | exact hg.1.1.1), trivial⟩) (fun hg => Valid.call rfl (map_s _ (by (try simp only [] at hg); first | omega | (simp only [ByteArray.size_append]; omega))) ⟨argle rfl, trivial⟩) (by rfl) rfl ?_
              refine Runs_cnd rfl rfl (Grd.is rfl) [(49, _)] (fun hg => ⟨cnd_at rfl (by first | exact hg | exact hg.1 | exact hg.1.1 | exact hg.1.1.1), trivial⟩) (fun hg => Valid.field _ rfl rfl rfl fldB1) (by rfl) rfl ?_
              refine Runs_cnd rfl rfl (Grd.is rfl) [] (fun hg => trivial) (fun hg => Valid.movek (A := Is _) rfl rfl) (by rfl) rfl ?_
              refine Runs_cnd rfl rfl (Grd.is rfl) [(50, _), (51, _)] (fun hg => ⟨cnd_at rfl (by first | exact hg | exact hg.1 | exact hg.1.1 | exact hg.1.1.1), cnd_at rfl (by first | exact hg | exact hg.1 | exact hg.1.1 | exact hg.1.1.1), trivial⟩) (fun hg => Valid.eql rfl rfl rfl) (by rfl) rfl ?_
              refine Runs_p rfl (Valid.pickand rfl rfl rfl (fun h => by first | exact h | exact ⟨hg, h⟩) rfl) rfl rfl ?_ -- law.go:112 pick
              refine Runs_p rfl (Valid.movek (A := Is _) rfl rfl) rfl rfl ?_ -- law.go:112 move
              refine Runs_cnd rfl rfl (Grd.is rfl) [] (fun hg => trivial) (fun hg => Valid.movek (A := Is _) rfl rfl) (by rfl) rfl ?_
              refine Runs_cnd rfl rfl (Grd.is rfl) [] (fun hg => trivial) (fun hg => Valid.movek (A := Is _) rfl rfl) (by rfl) rfl ?_
              refine Runs_cnd rfl rfl (Grd.is rfl) [(56, _)] (fun hg => ⟨cnd_at rfl (by first | exact hg | exact hg.1 | exact hg.1.1 | exact hg.1.1.1), trivial⟩) (fun hg => Valid.lit (el := 5) ([u].map B) rfl rfl (fun _ => by kernel_rfl) rfl (by decide)) (by rfl) rfl ?_
              refine Runs_cnd rfl rfl (Grd.is rfl) [(57, _)] (fun hg => ⟨cnd_at rfl (by first | exact hg | exact hg.1 | exact hg.1.1 | exact hg.1.1.1), trivial⟩) (fun hg => Valid.tostring rfl Try.underlying27 Try.underlying5 Try.underlying9 (Reads.sl rfl)) (by rfl) rfl ?_
              refine Runs_cnd rfl rfl (Grd.is rfl) [(55, _), (58, _)] (fun hg => ⟨cnd_at rfl (by first | exact hg | exact hg.1 | exact hg.1.1 | exact hg.1.1.1), cnd_at rfl (by first | exact hg | exact hg.1 | exact hg.1.1 | exact hg.1.1.1), trivial⟩) (fun hg => Valid.cat rfl rfl rfl (by (try simp only [decide_eq_true_eq, Bool.and_eq_true] at hg); first | omega | (rw [hu1]; omega) | (simp only [maxLen]; rw [hu1]; omega))) (by rfl) rfl ?_
              refine Runs_cnd rfl rfl (Grd.is rfl) [(59, _)] (fun hg => ⟨cnd_at rfl (by first | exact hg | exact hg.1 | exact hg.1.1 | exact hg.1.1.1), trivial⟩) (fun hg => Valid.call rfl (map_s _ (by (try simp only [decide_eq_true_eq, Bool.and_eq_true] at hg); first | omega | (simp only [ByteArray.size_append]; omega))) ⟨argle rfl, trivial⟩) (by rfl) rfl ?_
              refine Runs_cnd rfl rfl (Grd.is rfl) [(60, _)] (fun hg => ⟨cnd_at rfl (by first | exact hg | exact hg.1 | exact hg.1.1 | exact hg.1.1.1), trivial⟩) (fun hg => Valid.field _ rfl rfl rfl fldB1) (by rfl) rfl ?_
              refine Runs_cnd rfl rfl (Grd.is rfl) [] (fun hg => trivial) (fun hg => Valid.movek (A := Is _) rfl rfl) (by rfl) rfl ?_
              refine Runs_cnd rfl rfl (Grd.is rfl) [(61, _), (62, _)] (fun hg => ⟨cnd_at rfl (by first | exact hg | exact hg.1 | exact hg.1.1 | exact hg.1.1.1), cnd_at rfl (by first | exact hg | exact hg.1 | exact hg.1.1 | exact hg.1.1.1), trivial⟩) (fun hg => Valid.eql rfl rfl rfl) (by rfl) rfl ?_
              refine Runs_p rfl (Valid.pickand rfl rfl rfl (fun h => by first | exact h | exact ⟨hg, h⟩) rfl) rfl rfl ?_ -- law.go:112 pick
              refine Runs_p rfl (Valid.movek (A := Is _) rfl rfl) rfl rfl ?_ -- law.go:112 move
              refine Runs_cnd rfl rfl (Grd.is rfl) [] (fun hg => trivial) (fun hg => Valid.movek (A := Is _) rfl rfl) (by rfl) rfl ?_
              refine Runs_cnd rfl rfl (Grd.is rfl) [(66, _)] (fun hg => ⟨cnd_at rfl (by first | exact hg | exact hg.1 | exact hg.1.1 | exact hg.1.1.1), trivial⟩) (fun hg => Valid.call rfl (map_s _ (by (try simp only [decide_eq_true_eq, Bool.and_eq_true] at hg); first | omega | (simp only [ByteArray.size_append]; omega))) ⟨argle rfl, trivial⟩) (by rfl) rfl ?_
              refine Runs_cnd rfl rfl (Grd.is rfl) [(67, _)] (fun hg => ⟨cnd_at rfl (by first | exact hg | exact hg.1 | exact hg.1.1 | exact hg.1.1.1), trivial⟩) (fun hg => Valid.call rfl (right_f _ _ (by (try simp only [decide_eq_true_eq, Bool.and_eq_true] at hg); omega) (by (try simp only [decide_eq_true_eq, Bool.and_eq_true] at hg); omega) (by (try simp only [decide_eq_true_eq, Bool.and_eq_true] at hg); omega)) ⟨argle rfl, trivial⟩) (by rfl) rfl ?_
              refine Runs_p rfl (Valid.pickand rfl rfl rfl (fun h => by first | exact h | exact ⟨hg, h⟩) rfl) rfl rfl ?_ -- law.go:112 pick
              refine Runs_p rfl (Valid.movek (A := Is _) rfl rfl) rfl rfl ?_ -- law.go:112 move
              refine Runs_cnd rfl rfl (Grd.is rfl) [] (fun hg => trivial) (fun hg => Valid.movek (A := Is _) rfl rfl) (by rfl) rfl ?_
              refine Runs_cnd rfl rfl (Grd.is rfl) [(71, _)] (fun hg => ⟨cnd_at rfl (by first | exact hg | exact hg.1 | exact hg.1.1 | exact hg.1.1.1), trivial⟩) (fun hg => Valid.call rfl (alph_s _ (by (try simp only [decide_eq_true_eq, Bool.and_eq_true] at hg); omega)) ⟨argle rfl, trivial⟩) (by rfl) rfl ?_
              refine Runs_cnd rfl rfl (Grd.is rfl) [(72, _)] (fun hg => ⟨cnd_at rfl (by first | exact hg | exact hg.1 | exact hg.1.1 | exact hg.1.1.1), trivial⟩) (fun hg => Valid.slen rfl Try.underlying9 rfl) (by rfl) rfl ?_
              refine Runs_cnd rfl rfl (Grd.is rfl) [] (fun hg => trivial) (fun hg => Valid.movek (A := Is _) rfl rfl) (by rfl) rfl ?_
              refine Runs_cnd rfl rfl (Grd.is rfl) [(74, _)] (fun hg => ⟨cnd_at rfl (by first | exact hg | exact hg.1 | exact hg.1.1 | exact hg.1.1.1), trivial⟩) (fun hg => Valid.slen rfl Try.underlying9 rfl) (by rfl) rfl ?_
              refine Runs_cnd rfl rfl (Grd.is rfl) [(73, _), (75, _)] (fun hg => ⟨cnd_at rfl (by first | exact hg | exact hg.1 | exact hg.1.1 | exact hg.1.1.1), cnd_at rfl (by first | exact hg | exact hg.1 | exact hg.1.1 | exact hg.1.1.1), trivial⟩) (fun hg => Valid.leq rfl rfl rfl) (by rfl) rfl ?_
              refine Runs_p rfl (Valid.pickand rfl rfl rfl (fun h => by first | exact h | exact ⟨hg, h⟩) rfl) rfl rfl ?_ -- law.go:112 pick
              refine Runs_p rfl (Valid.assignk (A := Is _) rfl rfl) rfl rfl ?_ -- law.go:112 assign
              refine Runs_nil ?_
              refine thenQ_n ?_
              refine W_ret ?_
              refine finQ_r ?_
              refine ResOk.one rfl (RVal.is rfl rfl (by first | (rw [← len_eq x (show k = 16 by omega)]; simp [more_y (u := u) hix (by assumption), right_pack, alV_le x]; done) | (rw [← len_eq x (show k = 16 by omega)]; simp [more_n (u := u) hix (by assumption), right_pack, alV_le x]; done)))
              done)
          · try simp only [Bool.not_eq_false'] at hb4
            all_goals (
              refine W_skip ?_
              refine thenQ_n ?_
              refine W_seq ?_
              refine W_regionE (c := 27) (c' := 60) (by kernel_rfl) rfl ?_
              refine Runs_p rfl (Valid.movek (A := Is _) rfl rfl) rfl rfl ?_ -- law.go:112 move
              refine Runs_p rfl (Valid.movek (A := Is _) rfl rfl) rfl rfl ?_ -- law.go:112 move
              refine Runs_cnd rfl rfl (Grd.is rfl) [] (fun hg => trivial) (fun hg => Valid.movek (A := Is _) rfl rfl) (by rfl) rfl ?_
              refine Runs_cnd rfl rfl (Grd.is rfl) [(48, _)] (fun hg => ⟨cnd_at rfl (by first | exact hg | exact hg.1 | exact hg.1.1 | exact hg.1.1.1), trivial⟩) (fun hg => Valid.call rfl (map_s _ (by (try simp only [] at hg); first | omega | (simp only [ByteArray.size_append]; omega))) ⟨argle rfl, trivial⟩) (by rfl) rfl ?_
              refine Runs_cnd rfl rfl (Grd.is rfl) [(49, _)] (fun hg => ⟨cnd_at rfl (by first | exact hg | exact hg.1 | exact hg.1.1 | exact hg.1.1.1), trivial⟩) (fun hg => Valid.field _ rfl rfl rfl fldB1) (by rfl) rfl ?_
              refine Runs_cnd rfl rfl (Grd.is rfl) [] (fun hg => trivial) (fun hg => Valid.movek (A := Is _) rfl rfl) (by rfl) rfl ?_
              refine Runs_cnd rfl rfl (Grd.is rfl) [(50, _), (51, _)] (fun hg => ⟨cnd_at rfl (by first | exact hg | exact hg.1 | exact hg.1.1 | exact hg.1.1.1), cnd_at rfl (by first | exact hg | exact hg.1 | exact hg.1.1 | exact hg.1.1.1), trivial⟩) (fun hg => Valid.eql rfl rfl rfl) (by rfl) rfl ?_
              refine Runs_p rfl (Valid.pickand rfl rfl rfl (fun h => by first | exact h | exact ⟨hg, h⟩) rfl) rfl rfl ?_ -- law.go:112 pick
              refine Runs_p rfl (Valid.movek (A := Is _) rfl rfl) rfl rfl ?_ -- law.go:112 move
              refine Runs_cnd rfl rfl (Grd.is rfl) [] (fun hg => trivial) (fun hg => Valid.movek (A := Is _) rfl rfl) (by rfl) rfl ?_
              refine Runs_cnd rfl rfl (Grd.is rfl) [] (fun hg => trivial) (fun hg => Valid.movek (A := Is _) rfl rfl) (by rfl) rfl ?_
              refine Runs_cnd rfl rfl (Grd.is rfl) [(56, _)] (fun hg => ⟨cnd_at rfl (by first | exact hg | exact hg.1 | exact hg.1.1 | exact hg.1.1.1), trivial⟩) (fun hg => Valid.lit (el := 5) ([u].map B) rfl rfl (fun _ => by kernel_rfl) rfl (by decide)) (by rfl) rfl ?_
              refine Runs_cnd rfl rfl (Grd.is rfl) [(57, _)] (fun hg => ⟨cnd_at rfl (by first | exact hg | exact hg.1 | exact hg.1.1 | exact hg.1.1.1), trivial⟩) (fun hg => Valid.tostring rfl Try.underlying27 Try.underlying5 Try.underlying9 (Reads.sl rfl)) (by rfl) rfl ?_
              refine Runs_cnd rfl rfl (Grd.is rfl) [(55, _), (58, _)] (fun hg => ⟨cnd_at rfl (by first | exact hg | exact hg.1 | exact hg.1.1 | exact hg.1.1.1), cnd_at rfl (by first | exact hg | exact hg.1 | exact hg.1.1 | exact hg.1.1.1), trivial⟩) (fun hg => Valid.cat rfl rfl rfl (by (try simp only [decide_eq_true_eq, Bool.and_eq_true] at hg); first | omega | (rw [hu1]; omega) | (simp only [maxLen]; rw [hu1]; omega))) (by rfl) rfl ?_
              refine Runs_cnd rfl rfl (Grd.is rfl) [(59, _)] (fun hg => ⟨cnd_at rfl (by first | exact hg | exact hg.1 | exact hg.1.1 | exact hg.1.1.1), trivial⟩) (fun hg => Valid.call rfl (map_s _ (by (try simp only [decide_eq_true_eq, Bool.and_eq_true] at hg); first | omega | (simp only [ByteArray.size_append]; omega))) ⟨argle rfl, trivial⟩) (by rfl) rfl ?_
              refine Runs_cnd rfl rfl (Grd.is rfl) [(60, _)] (fun hg => ⟨cnd_at rfl (by first | exact hg | exact hg.1 | exact hg.1.1 | exact hg.1.1.1), trivial⟩) (fun hg => Valid.field _ rfl rfl rfl fldB1) (by rfl) rfl ?_
              refine Runs_cnd rfl rfl (Grd.is rfl) [] (fun hg => trivial) (fun hg => Valid.movek (A := Is _) rfl rfl) (by rfl) rfl ?_
              refine Runs_cnd rfl rfl (Grd.is rfl) [(61, _), (62, _)] (fun hg => ⟨cnd_at rfl (by first | exact hg | exact hg.1 | exact hg.1.1 | exact hg.1.1.1), cnd_at rfl (by first | exact hg | exact hg.1 | exact hg.1.1 | exact hg.1.1.1), trivial⟩) (fun hg => Valid.eql rfl rfl rfl) (by rfl) rfl ?_
              refine Runs_p rfl (Valid.pickand rfl rfl rfl (fun h => by first | exact h | exact ⟨hg, h⟩) rfl) rfl rfl ?_ -- law.go:112 pick
              refine Runs_p rfl (Valid.movek (A := Is _) rfl rfl) rfl rfl ?_ -- law.go:112 move
              refine Runs_cnd rfl rfl (Grd.is rfl) [] (fun hg => trivial) (fun hg => Valid.movek (A := Is _) rfl rfl) (by rfl) rfl ?_
              refine Runs_cnd rfl rfl (Grd.is rfl) [(66, _)] (fun hg => ⟨cnd_at rfl (by first | exact hg | exact hg.1 | exact hg.1.1 | exact hg.1.1.1), trivial⟩) (fun hg => Valid.call rfl (map_s _ (by (try simp only [decide_eq_true_eq, Bool.and_eq_true] at hg); first | omega | (simp only [ByteArray.size_append]; omega))) ⟨argle rfl, trivial⟩) (by rfl) rfl ?_
              refine Runs_cnd rfl rfl (Grd.is rfl) [(67, _)] (fun hg => ⟨cnd_at rfl (by first | exact hg | exact hg.1 | exact hg.1.1 | exact hg.1.1.1), trivial⟩) (fun hg => Valid.call rfl (right_f _ _ (by (try simp only [decide_eq_true_eq, Bool.and_eq_true] at hg); omega) (by (try simp only [decide_eq_true_eq, Bool.and_eq_true] at hg); omega) (by (try simp only [decide_eq_true_eq, Bool.and_eq_true] at hg); omega)) ⟨argle rfl, trivial⟩) (by rfl) rfl ?_
              refine Runs_p rfl (Valid.pickand rfl rfl rfl (fun h => by first | exact h | exact ⟨hg, h⟩) rfl) rfl rfl ?_ -- law.go:112 pick
              refine Runs_p rfl (Valid.movek (A := Is _) rfl rfl) rfl rfl ?_ -- law.go:112 move
              refine Runs_cnd rfl rfl (Grd.is rfl) [] (fun hg => trivial) (fun hg => Valid.movek (A := Is _) rfl rfl) (by rfl) rfl ?_
              refine Runs_cnd rfl rfl (Grd.is rfl) [(71, _)] (fun hg => ⟨cnd_at rfl (by first | exact hg | exact hg.1 | exact hg.1.1 | exact hg.1.1.1), trivial⟩) (fun hg => Valid.call rfl (alph_s _ (by (try simp only [decide_eq_true_eq, Bool.and_eq_true] at hg); omega)) ⟨argle rfl, trivial⟩) (by rfl) rfl ?_
              refine Runs_cnd rfl rfl (Grd.is rfl) [(72, _)] (fun hg => ⟨cnd_at rfl (by first | exact hg | exact hg.1 | exact hg.1.1 | exact hg.1.1.1), trivial⟩) (fun hg => Valid.slen rfl Try.underlying9 rfl) (by rfl) rfl ?_
              refine Runs_cnd rfl rfl (Grd.is rfl) [] (fun hg => trivial) (fun hg => Valid.movek (A := Is _) rfl rfl) (by rfl) rfl ?_
              refine Runs_cnd rfl rfl (Grd.is rfl) [(74, _)] (fun hg => ⟨cnd_at rfl (by first | exact hg | exact hg.1 | exact hg.1.1 | exact hg.1.1.1), trivial⟩) (fun hg => Valid.slen rfl Try.underlying9 rfl) (by rfl) rfl ?_
              refine Runs_cnd rfl rfl (Grd.is rfl) [(73, _), (75, _)] (fun hg => ⟨cnd_at rfl (by first | exact hg | exact hg.1 | exact hg.1.1 | exact hg.1.1.1), cnd_at rfl (by first | exact hg | exact hg.1 | exact hg.1.1 | exact hg.1.1.1), trivial⟩) (fun hg => Valid.leq rfl rfl rfl) (by rfl) rfl ?_
              refine Runs_p rfl (Valid.pickand rfl rfl rfl (fun h => by first | exact h | exact ⟨hg, h⟩) rfl) rfl rfl ?_ -- law.go:112 pick
              refine Runs_p rfl (Valid.assignk (A := Is _) rfl rfl) rfl rfl ?_ -- law.go:112 assign
              refine Runs_nil ?_
              refine thenQ_n ?_
              refine W_ret ?_
              refine finQ_r ?_
              refine ResOk.one rfl (RVal.is rfl rfl (by first | (rw [← len_eq x (show k = 16 by omega)]; simp [more_y (u := u) hix (by assumption), right_pack, alV_le x]; done) | (rw [← len_eq x (show k = 16 by omega)]; simp [more_n (u := u) hix (by assumption), right_pack, alV_le x]; done)))
              done)
          done)
      done)
end Hc
end Go.Proofs.Ytlcephckjhiggaa
