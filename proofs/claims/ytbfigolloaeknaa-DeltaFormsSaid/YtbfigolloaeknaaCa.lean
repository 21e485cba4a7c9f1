/-
  WALKS of stage 1: bits that are drawn.
-/
import Derived.Test.YtbfigolloaeknaaRows
import Derived.Test.YtbfigolloaeknaaMgb
import Derived.Test.YtbfigolloaeknaaMha
namespace Go.Proofs.Ytbfigolloaeknaa
open Go.RowKit
namespace Ca
open Ab Bm Bt Bb
theorem ag27 (w : World) : (isAgg 27).run Try.prog w = .ok true w := by kernel_rfl
theorem ag3 (w : World) : (isAgg 3).run Try.prog w = .ok false w := by kernel_rfl
theorem sz27 (w : World) : (sizeOf 27).run Try.prog w = .ok 2 w := by kernel_rfl
theorem sz3 (w : World) : (sizeOf 3).run Try.prog w = .ok 1 w := by kernel_rfl
theorem ti3 : TI Try.prog 3 1 8 := .mk' (z := (Value.int .i64 0)) (by kernel_rfl) rfl
theorem ti5 : TI Try.prog 5 1 1 := .mk' (z := (Value.int .u8 0)) (by kernel_rfl) rfl
theorem zv27 (w : World) : (zeroValue 27).run Try.prog w = .ok (.agg #[(Value.string ⟨#[]⟩), (Value.int .i64 0)]) w := by kernel_rfl
/-- a bit as an int -/
def bI (b : Bool) : Value := .int .i64 (b.toNat : Int)
def grp (b : List Bool) (i k : Nat) : List Bool := (List.range k).map fun j => b.getD (i + j) false
theorem grp_0 (b : List Bool) (i : Nat) : val (grp b i 0) = 0 := rfl
theorem grp_succ (b : List Bool) (i k : Nat) : val (grp b i (k + 1)) = 2 * val (grp b i k) + (b.getD (i + k) false).toNat := by
  unfold grp
  rw [List.range_succ, List.map_append, val_append]
  simp [val]; omega
theorem grp_lt (b : List Bool) (i k : Nat) : val (grp b i k) < 2 ^ k := by
  have := val_lt (grp b i k)
  simpa [grp] using this
theorem grp_256 (b : List Bool) (i k : Nat) (hk : k ≤ 8) : val (grp b i k) < 256 := Nat.lt_of_lt_of_le (grp_lt b i k) (Nat.pow_le_pow_right (n := 2) (by omega) hk)
theorem grp_in (b : List Bool) (q k : Nat) : 2 * ((val (grp b (8 * q) k) : Nat) : Int) + (((b.getD (((8 * q : Nat) : Int) + (k : Int)).toNat false).toNat : Nat) : Int) = ((val (grp b (8 * q) (k + 1)) : Nat) : Int) := by
  rw [grp_succ, show (((8 * q : Nat) : Int) + (k : Int)).toNat = 8 * q + k by omega]; omega
theorem grp_out (b : List Bool) (q k : Nat) (h : ¬ (8 * q : Int) + k < b.length) : 2 * ((val (grp b (8 * q) k) : Nat) : Int) = ((val (grp b (8 * q) (k + 1)) : Nat) : Int) := by
  rw [grp_succ, List.getD_eq_getElem?_getD, List.getElem?_eq_none (by omega)]
  simp
theorem enc_take (b : List Bool) (q : Nat) (h : 8 * q < b.length) : (enc b).take (q + 1) = (enc b).take q ++ [UInt8.ofNat (val (grp b (8 * q) 8))] := by
  have hq : q < (enc b).length := by rw [enc_len]; omega
  rw [List.take_succ_eq_append_getElem hq]
  congr 2
  simp [enc, pk, grp]
theorem enc_step (b : List Bool) (q k : Nat) (h : 8 * q < b.length) (hk : k = 8) : ((enc b).take q).map B ++ [Value.int .u8 ((val (grp b (8 * q) k) : Nat) : Int)] = ((enc b).take (q + 1)).map B := by
  subst hk
  have := grp_256 b (8 * q) 8 (by omega)
  rw [enc_take b q h, List.map_append]
  congr 1
  simp only [List.map_cons, List.map_nil, B]
  rw [UInt8.toNat_ofNat', Nat.mod_eq_of_lt this]
theorem enc_all (b : List Bool) (q : Nat) (h : b.length ≤ 8 * q) : (⟨((enc b).take q).toArray⟩ : ByteArray) = pack b := by
  unfold pack
  rw [List.take_of_length_le (by rw [enc_len]; omega)]

set_option maxRecDepth 100000 in
set_option maxHeartbeats 1000000 in
theorem pick1_s (c n : Int) (h1 : -9223372036854775808 ≤ c) (h2 : c ≤ 9223372036854775807) (h3 : 0 < n) (_h4 : n ≤ 9223372036854775807) :
    FPure Try.prog 32 [Is (.int .i64 c), Is (.int .i64 n)] (Is (.int .i64 (pickV c n))) := by
  refine FPure.of Try.func32 Try.ntmps32 rfl (by kernel_rfl) rfl rfl rfl ?_
  refine W_seq ?_
  refine W_regionE (c := 1) (c' := 2) (by kernel_rfl) rfl ?_
  refine Runs_p rfl (Valid.assignk (A := Is _) rfl rfl) rfl rfl ?_ -- law.go:11 assign
  refine Runs_nil ?_
  refine thenQ_n ?_
  refine W_seq ?_
  refine W_seq ?_
  refine W_regionE (c := 2) (c' := 4) (by kernel_rfl) rfl ?_
  refine Runs_p rfl (Valid.movek (A := Is _) rfl rfl) rfl rfl ?_ -- law.go:12 move
  refine Runs_p rfl (Valid.lss rfl rfl rfl) rfl rfl ?_ -- law.go:12 binOp
  refine Runs_nil ?_
  refine thenQ_n ?_
  refine W_cond _ rfl (fun hb1 => ?_) (fun hb1 => ?_)
  · try simp only [decide_eq_true_eq] at hb1
    all_goals (
      refine W_regionE (c := 4) (c' := 8) (by kernel_rfl) rfl ?_
      refine Runs_p rfl (Valid.movek (A := Is _) rfl rfl) rfl rfl ?_ -- law.go:13 move
      refine Runs_p rfl (Valid.add rfl rfl rfl (room64 (by first | omega | (simp only [Int.toNat_natCast, toNat_add, toNat_add1, List.length_append, List.length_cons, List.length_nil, List.length_replicate]; omega)) (by first | omega | (simp only [Int.toNat_natCast, toNat_add, toNat_add1, List.length_append, List.length_cons, List.length_nil, List.length_replicate]; omega)))) rfl rfl ?_ -- law.go:13 binOp
      refine Runs_p rfl (Valid.neg rfl rfl (room64 (by first | omega | (simp only [Int.toNat_natCast, toNat_add, toNat_add1, List.length_append, List.length_cons, List.length_nil, List.length_replicate]; omega)) (by first | omega | (simp only [Int.toNat_natCast, toNat_add, toNat_add1, List.length_append, List.length_cons, List.length_nil, List.length_replicate]; omega)))) rfl rfl ?_ -- law.go:13 unOp
      refine Runs_p rfl (Valid.assignk (A := Is _) rfl rfl) rfl rfl ?_ -- law.go:13 assign
      refine Runs_nil ?_
      refine thenQ_n ?_
      refine W_seq ?_
      refine W_regionE (c := 8) (c' := 12) (by kernel_rfl) rfl ?_
      refine Runs_p rfl (Valid.movek (A := Is _) rfl rfl) rfl rfl ?_ -- law.go:15 move
      refine Runs_p rfl (Valid.movek (A := Is _) rfl rfl) rfl rfl ?_ -- law.go:15 move
      refine Runs_p rfl (Valid.rem rfl rfl rfl (by first | omega | (simp only [Int.toNat_natCast, toNat_add, toNat_add1, List.length_append, List.length_cons, List.length_nil, List.length_replicate]; omega)) (by first | omega | (simp only [Int.toNat_natCast, toNat_add, toNat_add1, List.length_append, List.length_cons, List.length_nil, List.length_replicate]; omega))) rfl rfl ?_ -- law.go:15 binOp
      refine Runs_p rfl (Valid.assignk (A := Is _) rfl rfl) rfl rfl ?_ -- law.go:15 assign
      refine Runs_nil ?_
      refine thenQ_n ?_
      refine W_ret ?_
      refine finQ_r ?_
      refine ResOk.one rfl (RVal.is rfl rfl (by simp only [pickV]; split <;> first | rfl | omega))
      done)
  · try simp only [decide_eq_false_iff_not] at hb1
    all_goals (
      refine W_skip ?_
      refine thenQ_n ?_
      refine W_seq ?_
      refine W_regionE (c := 4) (c' := 8) (by kernel_rfl) rfl ?_
      refine Runs_p rfl (Valid.movek (A := Is _) rfl rfl) rfl rfl ?_ -- law.go:15 move
      refine Runs_p rfl (Valid.movek (A := Is _) rfl rfl) rfl rfl ?_ -- law.go:15 move
      refine Runs_p rfl (Valid.rem rfl rfl rfl (by first | omega | (simp only [Int.toNat_natCast, toNat_add, toNat_add1, List.length_append, List.length_cons, List.length_nil, List.length_replicate]; omega)) (by first | omega | (simp only [Int.toNat_natCast, toNat_add, toNat_add1, List.length_append, List.length_cons, List.length_nil, List.length_replicate]; omega))) rfl rfl ?_ -- law.go:15 binOp
      refine Runs_p rfl (Valid.assignk (A := Is _) rfl rfl) rfl rfl ?_ -- law.go:15 assign
      refine Runs_nil ?_
      refine thenQ_n ?_
      refine W_ret ?_
      refine finQ_r ?_
      refine ResOk.one rfl (RVal.is rfl rfl (by simp only [pickV]; split <;> first | rfl | omega))
      done)

set_option maxRecDepth 100000 in
set_option maxHeartbeats 1000000 in
theorem of_s (b : List Bool) (hb : b.length ≤ 1000000000) :
    FPure Try.prog 24 [Sl 1 b.length (b.map bI)] (Agg [Is (.string (pack b)), Is (.int .i64 (b.length : Int))]) := by
  refine FPure.of Try.func24 Try.ntmps24 rfl (by kernel_rfl) rfl rfl rfl ?_
  refine W_seq ?_
  refine W_regionE (c := 1) (c' := 2) (by kernel_rfl) rfl ?_
  refine Runs_w rfl (Valid.alloc [(Value.string ⟨#[]⟩), (Value.int .i64 0)] rfl zv27 rfl) rfl rfl ?_ -- ref.go:21 alloc
  refine Runs_nil ?_
  refine thenQ_n ?_
  refine W_seq ?_
  refine W_regionE (c := 2) (c' := 3) (by kernel_rfl) rfl ?_
  refine Runs_p rfl (Valid.assignk (A := Is (.slice none 0 0)) rfl rfl) rfl rfl ?_ -- ref.go:22 assign
  refine Runs_nil ?_
  refine thenQ_n ?_
  refine W_seq ?_
  refine W_seq ?_
  refine W_regionE (c := 3) (c' := 4) (by kernel_rfl) rfl ?_
  refine Runs_p rfl (Valid.assignk (A := Is _) rfl rfl) rfl rfl ?_ -- ref.go:23 assign
  refine Runs_nil ?_
  refine thenQ_n ?_
  refine W_block ?_
  refine W.ent ?_ (Ent.ownnil 3 5 1 rfl)
  refine W_loopx (G := Nat) (fun (q : Nat) => 8 * q < b.length + 8) [(0, Sl 1 _ _), (2, Ptr 8 0)] (fun (q : Nat) => [(4, Is (.int .i64 ((8 * q : Nat) : Int))), (3, Ab.Own 32 1 q (((enc b).take q).map B))]) [(8, .var 27 [Is _, Is _])] (fun (q : Nat) => [(32, .row 5 1 q (((enc b).take q).map B))]) 5 (fun (q : Nat) => b.length + 8 - 8 * q) (0) [] (by first | trivial | omega | (simp; omega)) ⟨⟨(leq_is rfl rfl (by first | rfl | exact enc_step _ _ _ (by omega) (by omega) | exact congrArg (Value.int .i64) (by omega))), (leq_own rfl rfl rfl (by first | rfl | exact enc_step _ _ _ (by omega) (by omega) | exact congrArg (Value.int .i64) (by omega)) (by first | rfl | exact enc_step _ _ _ (by omega) (by omega) | exact congrArg (Value.int .i64) (by omega))), trivial⟩, ⟨(leq_sl (Reads.sl rfl) rfl rfl rfl), (leq_ptr rfl rfl rfl), trivial⟩, ⟨hp_row rfl (by first | rfl | exact enc_step _ _ _ (by omega) (by omega) | exact congrArg (Value.int .i64) (by omega)) (by first | rfl | exact enc_step _ _ _ (by omega) (by omega) | exact congrArg (Value.int .i64) (by omega)), trivial⟩, ⟨hp_var rfl ⟨(leq_is rfl rfl rfl), (leq_is rfl rfl rfl), trivial⟩, trivial⟩, rfl, ⟨supg rfl, supg rfl, trivial⟩, ⟨supg rfl, supg rfl, trivial⟩, ⟨suph rfl rfl, trivial⟩, ⟨suph rfl rfl, trivial⟩, rfl, rfl⟩ ?_
  intro q hI1
  refine W_seq ?_
  refine W_seq ?_
  refine W_regionE (c := 5) (c' := 9) (by kernel_rfl) rfl ?_
  refine Runs_p rfl (Valid.movek (A := Is _) rfl rfl) rfl rfl ?_ -- ref.go:23 move
  refine Runs_p rfl (Valid.movek (A := Sl 1 _ _) rfl rfl) rfl rfl ?_ -- ref.go:23 move
  refine Runs_p rfl (Valid.len rfl Try.underlying22 (Reads.sl rfl)) rfl rfl ?_ -- ref.go:23 call
  refine Runs_p rfl (Valid.lss rfl rfl rfl) rfl rfl ?_ -- ref.go:23 binOp
  refine Runs_nil ?_
  refine thenQ_n ?_
  refine W_cond _ rfl (fun hb1 => ?_) (fun hb1 => ?_)
  · try simp only [decide_eq_true_eq] at hb1
    all_goals (
      refine W_skip ?_
      refine thenQ_n ?_
      refine W_seq ?_
      refine W_block ?_
      refine W_seq ?_
      refine W_regionE (c := 9) (c' := 10) (by kernel_rfl) rfl ?_
      refine Runs_p rfl (Valid.assignk (A := Is _) rfl rfl) rfl rfl ?_ -- ref.go:24 assign
      refine Runs_nil ?_
      refine thenQ_n ?_
      refine W_seq ?_
      refine W_seq ?_
      refine W_regionE (c := 10) (c' := 11) (by kernel_rfl) rfl ?_
      refine Runs_p rfl (Valid.assignk (A := Is _) rfl rfl) rfl rfl ?_ -- ref.go:25 assign
      refine Runs_nil ?_
      refine thenQ_n ?_
      refine W_block ?_
      refine W_loopx (G := Nat) (fun (k : Nat) => k ≤ 8) [(0, Sl 1 _ _), (2, Ptr 8 0), (3, Ab.Own 32 1 _ _), (4, Is _)] (fun (k : Nat) => [(5, Is (.int .i64 ((val (grp b (8 * q) k) : Nat) : Int))), (6, Is (.int .i64 (k : Int)))]) [(8, .var 27 [Is _, Is _]), (32, .row 5 1 _ _)] (fun (k : Nat) => []) 11 (fun (k : Nat) => 8 - k) (0) [] (by first | trivial | omega | (simp; omega)) ⟨⟨(leq_is rfl rfl (by first | rfl | (rw [grp_0]; rfl))), (leq_is rfl rfl (by first | rfl | (rw [grp_0]; rfl))), trivial⟩, ⟨(leq_sl (Reads.sl rfl) rfl rfl rfl), (leq_ptr rfl rfl rfl), (leq_own rfl rfl rfl rfl rfl), (leq_is rfl rfl rfl), trivial⟩, trivial, ⟨hp_var rfl ⟨(leq_is rfl rfl rfl), (leq_is rfl rfl rfl), trivial⟩, hp_row rfl rfl rfl, trivial⟩, rfl, ⟨supg rfl, supg rfl, trivial⟩, ⟨supg rfl, supg rfl, supg rfl, supg rfl, trivial⟩, trivial, ⟨suph rfl rfl, suph rfl rfl, trivial⟩, rfl, rfl⟩ ?_
      intro k hI2
      have hg := grp_256 b (8 * q) k hI2
      have hbl := Bool.toNat_le (b.getD (((8 * q : Nat) : Int) + (k : Int)).toNat false)
      refine W_seq ?_
      refine W_seq ?_
      refine W_regionE (c := 11) (c' := 13) (by kernel_rfl) rfl ?_
      refine Runs_p rfl (Valid.movek (A := Is _) rfl rfl) rfl rfl ?_ -- ref.go:25 move
      refine Runs_p rfl (Valid.lss rfl rfl rfl) rfl rfl ?_ -- ref.go:25 binOp
      refine Runs_nil ?_
      refine thenQ_n ?_
      refine W_cond _ rfl (fun hb2 => ?_) (fun hb2 => ?_)
      · try simp only [decide_eq_true_eq] at hb2
        all_goals (
          refine W_skip ?_
          refine thenQ_n ?_
          refine W_seq ?_
          refine W_block ?_
          refine W_seq ?_
          refine W_regionE (c := 13) (c' := 16) (by kernel_rfl) rfl ?_
          refine Runs_p rfl (Valid.movek (A := Is _) rfl rfl) rfl rfl ?_ -- ref.go:26 move
          refine Runs_p rfl (Valid.mul rfl rfl rfl (room64 (by first | omega | (simp only [Int.toNat_natCast, toNat_add, toNat_add1, List.length_append, List.length_cons, List.length_nil, List.length_replicate]; omega)) (by first | omega | (simp only [Int.toNat_natCast, toNat_add, toNat_add1, List.length_append, List.length_cons, List.length_nil, List.length_replicate]; omega)))) rfl rfl ?_ -- ref.go:26 binOp
          refine Runs_p rfl (Valid.assignk (A := Is _) rfl rfl) rfl rfl ?_ -- ref.go:26 assign
          refine Runs_nil ?_
          refine thenQ_n ?_
          refine W_seq ?_
          refine W_regionE (c := 16) (c' := 22) (by kernel_rfl) rfl ?_
          refine Runs_p rfl (Valid.movek (A := Is _) rfl rfl) rfl rfl ?_ -- ref.go:27 move
          refine Runs_p rfl (Valid.movek (A := Is _) rfl rfl) rfl rfl ?_ -- ref.go:27 move
          refine Runs_p rfl (Valid.add rfl rfl rfl (room64 (by first | omega | (simp only [Int.toNat_natCast, toNat_add, toNat_add1, List.length_append, List.length_cons, List.length_nil, List.length_replicate]; omega)) (by first | omega | (simp only [Int.toNat_natCast, toNat_add, toNat_add1, List.length_append, List.length_cons, List.length_nil, List.length_replicate]; omega)))) rfl rfl ?_ -- ref.go:27 binOp
          refine Runs_p rfl (Valid.movek (A := Sl 1 _ _) rfl rfl) rfl rfl ?_ -- ref.go:27 move
          refine Runs_p rfl (Valid.len rfl Try.underlying22 (Reads.sl rfl)) rfl rfl ?_ -- ref.go:27 call
          refine Runs_p rfl (Valid.lss rfl rfl rfl) rfl rfl ?_ -- ref.go:27 binOp
          refine Runs_nil ?_
          refine thenQ_n ?_
          refine W_cond _ rfl (fun hb3 => ?_) (fun hb3 => ?_)
          · try simp only [decide_eq_true_eq] at hb3
            all_goals (
              refine W_regionE (c := 22) (c' := 31) (by kernel_rfl) rfl ?_
              refine Runs_p rfl (Valid.movek (A := Is _) rfl rfl) rfl rfl ?_ -- ref.go:28 move
              refine Runs_p rfl (Valid.movek (A := Sl 1 _ _) rfl rfl) rfl rfl ?_ -- ref.go:28 move
              refine Runs_p rfl (Valid.movek (A := Is _) rfl rfl) rfl rfl ?_ -- ref.go:28 move
              refine Runs_p rfl (Valid.movek (A := Is _) rfl rfl) rfl rfl ?_ -- ref.go:28 move
              refine Runs_p rfl (Valid.add rfl rfl rfl (room64 (by first | omega | (simp only [Int.toNat_natCast, toNat_add, toNat_add1, List.length_append, List.length_cons, List.length_nil, List.length_replicate]; omega)) (by first | omega | (simp only [Int.toNat_natCast, toNat_add, toNat_add1, List.length_append, List.length_cons, List.length_nil, List.length_replicate]; omega)))) rfl rfl ?_ -- ref.go:28 binOp
              refine Runs_p rfl (Valid.eltaddr1 false rfl Try.underlying22 sz3 (Reads.sl rfl) rfl (by first | omega | (simp only [Int.toNat_natCast, toNat_add, toNat_add1, List.length_append, List.length_cons, List.length_nil, List.length_replicate]; omega)) (by first | rfl | simp)) rfl rfl ?_ -- ref.go:28 indexAddr
              refine Runs_p rfl (Valid.loadelt rfl ag3 rfl) rfl rfl ?_ -- ref.go:28 load
              refine Runs_p rfl (Valid.add rfl rfl rfl (room64 (by first | omega | (simp only [Int.toNat_natCast, toNat_add, toNat_add1, List.length_append, List.length_cons, List.length_nil, List.length_replicate]; omega)) (by first | omega | (simp only [Int.toNat_natCast, toNat_add, toNat_add1, List.length_append, List.length_cons, List.length_nil, List.length_replicate]; omega)))) rfl rfl ?_ -- ref.go:28 binOp
              refine Runs_p rfl (Valid.assignk (A := Is _) rfl rfl) rfl rfl ?_ -- ref.go:28 assign
              refine Runs_nil ?_
              refine blockQ_n ?_
              refine thenQ_n ?_
              refine W_regionE (c := 31) (c' := 34) (by kernel_rfl) rfl ?_
              refine Runs_p rfl (Valid.movek (A := Is _) rfl rfl) rfl rfl ?_ -- ref.go:25 move
              refine Runs_p rfl (Valid.add rfl rfl rfl (room64 (by first | omega | (simp only [Int.toNat_natCast, toNat_add, toNat_add1, List.length_append, List.length_cons, List.length_nil, List.length_replicate]; omega)) (by first | omega | (simp only [Int.toNat_natCast, toNat_add, toNat_add1, List.length_append, List.length_cons, List.length_nil, List.length_replicate]; omega)))) rfl rfl ?_ -- ref.go:25 binOp
              refine Runs_p rfl (Valid.assignk (A := Is _) rfl rfl) rfl rfl ?_ -- ref.go:25 assign
              refine Runs_nil ?_
              refine LoopQ.next (k + 1) [] (by omega) (by omega) ⟨⟨(leq_is rfl rfl (by first | rfl | exact congrArg (Value.int .i64) (grp_in _ _ _) | exact congrArg (Value.int .i64) (grp_out _ _ _ (by omega)))), (leq_is rfl rfl (by first | rfl | exact congrArg (Value.int .i64) (grp_in _ _ _) | exact congrArg (Value.int .i64) (grp_out _ _ _ (by omega)))), trivial⟩, ⟨(leq_sl (Reads.sl rfl) rfl rfl rfl), (leq_ptr rfl rfl rfl), (leq_own rfl rfl rfl rfl rfl), (leq_is rfl rfl rfl), trivial⟩, trivial, ⟨hp_var rfl ⟨(leq_is rfl rfl rfl), (leq_is rfl rfl rfl), trivial⟩, hp_row rfl rfl rfl, trivial⟩, rfl, ⟨supg rfl, supg rfl, trivial⟩, ⟨supg rfl, supg rfl, supg rfl, supg rfl, trivial⟩, trivial, ⟨suph rfl rfl, suph rfl rfl, trivial⟩, rfl, rfl⟩
              done)
          · try simp only [decide_eq_false_iff_not] at hb3
            all_goals (
              refine W_skip ?_
              refine blockQ_n ?_
              refine thenQ_n ?_
              refine W_regionE (c := 22) (c' := 25) (by kernel_rfl) rfl ?_
              refine Runs_p rfl (Valid.movek (A := Is _) rfl rfl) rfl rfl ?_ -- ref.go:25 move
              refine Runs_p rfl (Valid.add rfl rfl rfl (room64 (by first | omega | (simp only [Int.toNat_natCast, toNat_add, toNat_add1, List.length_append, List.length_cons, List.length_nil, List.length_replicate]; omega)) (by first | omega | (simp only [Int.toNat_natCast, toNat_add, toNat_add1, List.length_append, List.length_cons, List.length_nil, List.length_replicate]; omega)))) rfl rfl ?_ -- ref.go:25 binOp
              refine Runs_p rfl (Valid.assignk (A := Is _) rfl rfl) rfl rfl ?_ -- ref.go:25 assign
              refine Runs_nil ?_
              refine LoopQ.next (k + 1) [] (by omega) (by omega) ⟨⟨(leq_is rfl rfl (by first | rfl | exact congrArg (Value.int .i64) (grp_in _ _ _) | exact congrArg (Value.int .i64) (grp_out _ _ _ (by omega)))), (leq_is rfl rfl (by first | rfl | exact congrArg (Value.int .i64) (grp_in _ _ _) | exact congrArg (Value.int .i64) (grp_out _ _ _ (by omega)))), trivial⟩, ⟨(leq_sl (Reads.sl rfl) rfl rfl rfl), (leq_ptr rfl rfl rfl), (leq_own rfl rfl rfl rfl rfl), (leq_is rfl rfl rfl), trivial⟩, trivial, ⟨hp_var rfl ⟨(leq_is rfl rfl rfl), (leq_is rfl rfl rfl), trivial⟩, hp_row rfl rfl rfl, trivial⟩, rfl, ⟨supg rfl, supg rfl, trivial⟩, ⟨supg rfl, supg rfl, supg rfl, supg rfl, trivial⟩, trivial, ⟨suph rfl rfl, suph rfl rfl, trivial⟩, rfl, rfl⟩
              done)
          done)
      · try simp only [decide_eq_false_iff_not] at hb2
        all_goals (
          refine W_exit ?_
          refine thenQ_e ?_
          refine loopQ_e ?_
          refine blockQ_x ?_
          refine thenQ_n ?_
          refine W_regionE (c := 13) (c' := 19) (by kernel_rfl) rfl ?_
          refine Runs_p rfl (Valid.movek (A := Ab.Own 32 1 _ _) rfl rfl) rfl rfl ?_ -- ref.go:31 move
          refine Runs_p rfl (Valid.movek (A := Is _) rfl rfl) rfl rfl ?_ -- ref.go:31 move
          refine Runs_p rfl (Valid.convr rfl rfl Try.underlying3 Try.underlying5 (by unfold Room; rw [IntKind.wrap_u8]; omega)) rfl rfl ?_ -- ref.go:31 convert
          refine Runs_p rfl (Valid.lit (el := 5) [_] rfl rfl (fun _ => by kernel_rfl) rfl (by decide)) rfl rfl ?_ -- ref.go:31 buildSlice
          refine Runs_w rfl (Valid.app rfl Try.underlying31 ti5 (by decide) rfl rfl (Reads.sl rfl) (by first | exact one_map (fun _ => rfl) | exact one_cons rfl one_nil | exact one_app (one_map (fun _ => rfl)) (one_cons rfl one_nil) | exact one_app (one_map (fun _ => rfl)) (one_map (fun _ => rfl)) | exact one_rep rfl | exact one_app (one_rep rfl) (one_map (fun _ => rfl)) | (intro u hu; simp at hu; rcases hu with rfl | hu <;> first | rfl | (subst hu; rfl))) (by first | (simp only [maxLen]; omega) | (simp only [maxLen, Int.toNat_natCast, toNat_add, toNat_add1, List.length_append, List.length_cons, List.length_nil, List.length_replicate]; omega)) (by first | omega | (simp only [Int.toNat_natCast, toNat_add, toNat_add1, List.length_append, List.length_cons, List.length_nil, List.length_replicate]; omega))) rfl rfl ?_ -- ref.go:31 call
          refine Runs_p rfl (Valid.assignk (A := Ab.Own 136 1 _ _) rfl rfl) rfl rfl ?_ -- ref.go:31 assign
          refine Runs_nil ?_
          refine blockQ_n ?_
          refine thenQ_n ?_
          refine W_regionE (c := 19) (c' := 22) (by kernel_rfl) rfl ?_
          refine Runs_p rfl (Valid.movek (A := Is _) rfl rfl) rfl rfl ?_ -- ref.go:23 move
          refine Runs_p rfl (Valid.add rfl rfl rfl (room64 (by first | omega | (simp only [Int.toNat_natCast, toNat_add, toNat_add1, List.length_append, List.length_cons, List.length_nil, List.length_replicate]; omega)) (by first | omega | (simp only [Int.toNat_natCast, toNat_add, toNat_add1, List.length_append, List.length_cons, List.length_nil, List.length_replicate]; omega)))) rfl rfl ?_ -- ref.go:23 binOp
          refine Runs_p rfl (Valid.assignk (A := Is _) rfl rfl) rfl rfl ?_ -- ref.go:23 assign
          refine Runs_nil ?_
          refine LoopQ.next (q + 1) [(32, 136)] (by omega) (by omega) ⟨⟨(leq_is rfl rfl (by first | rfl | exact enc_step _ _ _ (by omega) (by omega) | exact congrArg (Value.int .i64) (by omega))), (leq_own rfl rfl rfl (by first | rfl | exact enc_step _ _ _ (by omega) (by omega) | exact congrArg (Value.int .i64) (by omega)) (by first | rfl | exact enc_step _ _ _ (by omega) (by omega) | exact congrArg (Value.int .i64) (by omega))), trivial⟩, ⟨(leq_sl (Reads.sl rfl) rfl rfl rfl), (leq_ptr rfl rfl rfl), trivial⟩, ⟨hp_row rfl (by first | rfl | exact enc_step _ _ _ (by omega) (by omega) | exact congrArg (Value.int .i64) (by omega)) (by first | rfl | exact enc_step _ _ _ (by omega) (by omega) | exact congrArg (Value.int .i64) (by omega)), trivial⟩, ⟨hp_var rfl ⟨(leq_is rfl rfl rfl), (leq_is rfl rfl rfl), trivial⟩, trivial⟩, rfl, ⟨supg rfl, supg rfl, trivial⟩, ⟨supg rfl, supg rfl, trivial⟩, ⟨suph rfl rfl, trivial⟩, ⟨suph rfl rfl, trivial⟩, rfl, rfl⟩
          done)
      done)
  · try simp only [decide_eq_false_iff_not] at hb1
    all_goals (
      refine W_exit ?_
      refine thenQ_e ?_
      refine loopQ_e ?_
      refine blockQ_x ?_
      refine thenQ_n ?_
      refine W_seq ?_
      refine W_regionE (c := 9) (c' := 15) (by kernel_rfl) rfl ?_
      refine Runs_p rfl (Valid.movek (A := Ab.Own 32 1 _ _) rfl rfl) rfl rfl ?_ -- ref.go:33 move
      refine Runs_p rfl (Valid.tostring rfl Try.underlying31 Try.underlying5 Try.underlying9 (Reads.own rfl)) rfl rfl ?_ -- ref.go:33 convert
      refine Runs_p rfl (Valid.movek (A := Sl 1 _ _) rfl rfl) rfl rfl ?_ -- ref.go:33 move
      refine Runs_p rfl (Valid.len rfl Try.underlying22 (Reads.sl rfl)) rfl rfl ?_ -- ref.go:33 call
      refine Runs_p rfl (Valid.struct [_, _] rfl rfl (fun _ => by kernel_rfl)) rfl rfl ?_ -- ref.go:33 build
      refine Runs_op rfl (Valid.storeagg (l := [_, _]) rfl sz27 rfl rfl (Nat.le_of_ble_eq_true rfl) rfl ⟨(One.is rfl rfl rfl), (One.is rfl rfl rfl), trivial⟩) rfl ?_ -- ref.go:33 store
      refine Runs_nil ?_
      refine thenQ_n ?_
      refine W_ret ?_
      refine finQ_r ?_
      refine ResOk.one rfl (RVal.cellagg ag27 sz27 rfl rfl (Nat.le_of_ble_eq_true rfl) (argle (by first | rfl | (rw [← enc_all b q (by omega)]; rfl))))
      done)

theorem of_t {b : List Bool} {n : Nat} {xs : List Value} (hb : b.length ≤ 1000000000) (hn : n = b.length) (hx : xs = b.map bI) : FPure Try.prog 24 [Sl 1 n xs] (Agg [Is (.string (pack b)), Is (.int .i64 (b.length : Int))]) := by
  subst hn hx; exact of_s b hb
def bitsV (raw : List Int) (k : Nat) : List Bool := (raw.take k).map fun c => decide (pickV c 2 = 1)
theorem pick2 (c : Int) : Value.int .i64 (pickV c 2) = bI (decide (pickV c 2 = 1)) := by
  have := pickV_range c 2 (by decide)
  unfold bI
  by_cases h : pickV c 2 = 1
  · rw [h]; rfl
  · rw [decide_eq_false h, show pickV c 2 = 0 by omega]; rfl
theorem bits_1 (raw : List Int) (k : Nat) (h : k < raw.length) : (bitsV raw k).map bI ++ [Value.int .i64 (pickV (raw.getD (k : Int).toNat 0) 2)] = (bitsV raw (k + 1)).map bI := by
  unfold bitsV
  rw [take_snoc raw k 0 h, pick2]; simp
theorem bits_len (raw : List Int) (k : Nat) : (bitsV raw k).length = min k raw.length := by simp [bitsV]
theorem bits_end (raw : List Int) (k m : Nat) (hk : k ≤ raw.length) (hm : k ≤ m) (h : ¬ ((k : Int) < raw.length ∧ (k : Int) < m)) : bitsV raw k = bitsV raw m := by
  unfold bitsV
  by_cases e : k = m
  · rw [e]
  · rw [List.take_of_length_le (by omega), List.take_of_length_le (show raw.length ≤ m by omega)]

set_option maxRecDepth 100000 in
set_option maxHeartbeats 1000000 in
theorem bits_s (raw : List Int) (m : Nat) (hr : In64 raw) (hl : raw.length ≤ 9223372036854775807) (hm : m ≤ 1000000) :
    FPure Try.prog 17 [Sl 1 raw.length (raw.map (Value.int .i64)), Is (.int .i64 (m : Int))] (Agg [Is (.string (pack (bitsV raw m))), Is (.int .i64 ((bitsV raw m).length : Int))]) := by
  refine FPure.of Try.func17 Try.ntmps17 rfl (by kernel_rfl) rfl rfl rfl ?_
  refine W_seq ?_
  refine W_regionE (c := 1) (c' := 2) (by kernel_rfl) rfl ?_
  refine Runs_w rfl (Valid.alloc [(Value.string ⟨#[]⟩), (Value.int .i64 0)] rfl zv27 rfl) rfl rfl ?_ -- law.go:19 alloc
  refine Runs_nil ?_
  refine thenQ_n ?_
  refine W_seq ?_
  refine W_regionE (c := 2) (c' := 3) (by kernel_rfl) rfl ?_
  refine Runs_p rfl (Valid.assignk (A := Is (.slice none 0 0)) rfl rfl) rfl rfl ?_ -- law.go:20 assign
  refine Runs_nil ?_
  refine thenQ_n ?_
  refine W_seq ?_
  refine W_seq ?_
  refine W_regionE (c := 3) (c' := 4) (by kernel_rfl) rfl ?_
  refine Runs_p rfl (Valid.assignk (A := Is _) rfl rfl) rfl rfl ?_ -- law.go:21 assign
  refine Runs_nil ?_
  refine thenQ_n ?_
  refine W_block ?_
  refine W.ent ?_ (Ent.ownnil 5 3 1 rfl)
  refine W_loopx (G := Nat) (fun (k : Nat) => k ≤ raw.length ∧ k ≤ m) [(0, Sl 1 _ _), (1, Is _), (4, Ptr 8 0)] (fun (k : Nat) => [(6, Is (.int .i64 (k : Int))), (5, Ab.Own 32 1 k ((bitsV raw k).map bI))]) [(8, .var 27 [Is _, Is _])] (fun (k : Nat) => [(32, .row 3 1 k ((bitsV raw k).map bI))]) 5 (fun (k : Nat) => raw.length - k) (0) [] (⟨by omega, by omega⟩) ⟨⟨(leq_is rfl rfl (by first | rfl | exact bits_1 _ _ (by omega))), (leq_own rfl rfl rfl (by first | rfl | exact bits_1 _ _ (by omega)) (by first | rfl | exact bits_1 _ _ (by omega))), trivial⟩, ⟨(leq_sl (Reads.sl rfl) rfl rfl rfl), (leq_is rfl rfl rfl), (leq_ptr rfl rfl rfl), trivial⟩, ⟨hp_row rfl (by first | rfl | exact bits_1 _ _ (by omega)) (by first | rfl | exact bits_1 _ _ (by omega)), trivial⟩, ⟨hp_var rfl ⟨(leq_is rfl rfl rfl), (leq_is rfl rfl rfl), trivial⟩, trivial⟩, rfl, ⟨supg rfl, supg rfl, trivial⟩, ⟨supg rfl, supg rfl, supg rfl, trivial⟩, ⟨suph rfl rfl, trivial⟩, ⟨suph rfl rfl, trivial⟩, rfl, rfl⟩ ?_
  intro k hI1
  obtain ⟨hk1, hk2⟩ := hI1
  refine W_seq ?_
  refine W_seq ?_
  refine W_regionE (c := 5) (c' := 14) (by kernel_rfl) rfl ?_
  refine Runs_p rfl (Valid.movek (A := Is _) rfl rfl) rfl rfl ?_ -- law.go:21 move
  refine Runs_p rfl (Valid.movek (A := Sl 1 _ _) rfl rfl) rfl rfl ?_ -- law.go:21 move
  refine Runs_p rfl (Valid.len rfl Try.underlying22 (Reads.sl rfl)) rfl rfl ?_ -- law.go:21 call
  refine Runs_p rfl (Valid.lss rfl rfl rfl) rfl rfl ?_ -- law.go:21 binOp
  refine Runs_p rfl (Valid.movek (A := Is _) rfl rfl) rfl rfl ?_ -- law.go:21 move
  refine Runs_cnd rfl rfl (Grd.is rfl) [] (fun hg => trivial) (fun hg => Valid.movek (A := Is _) rfl rfl) (by rfl) rfl ?_
  refine Runs_cnd rfl rfl (Grd.is rfl) [] (fun hg => trivial) (fun hg => Valid.movek (A := Is _) rfl rfl) (by rfl) rfl ?_
  refine Runs_cnd rfl rfl (Grd.is rfl) [(12, _), (13, _)] (fun hg => ⟨cnd_at rfl (by first | exact hg | exact hg.1 | exact hg.1.1 | exact hg.1.1.1), cnd_at rfl (by first | exact hg | exact hg.1 | exact hg.1.1 | exact hg.1.1.1), trivial⟩) (fun hg => Valid.lss rfl rfl rfl) (by rfl) rfl ?_
  refine Runs_p rfl (Valid.pickand rfl rfl rfl (fun h => by first | exact h | exact ⟨hg, h⟩) rfl) rfl rfl ?_ -- law.go:21 pick
  refine Runs_nil ?_
  refine thenQ_n ?_
  refine W_cond _ rfl (fun hb1 => ?_) (fun hb1 => ?_)
  · try simp only [decide_eq_true_eq, Bool.and_eq_true] at hb1
    all_goals (
      refine W_skip ?_
      refine thenQ_n ?_
      refine W_seq ?_
      refine W_block ?_
      refine W_regionE (c := 14) (c' := 23) (by kernel_rfl) rfl ?_
      refine Runs_p rfl (Valid.movek (A := Ab.Own 32 1 _ _) rfl rfl) rfl rfl ?_ -- law.go:22 move
      refine Runs_p rfl (Valid.movek (A := Sl 1 _ _) rfl rfl) rfl rfl ?_ -- law.go:22 move
      refine Runs_p rfl (Valid.movek (A := Is _) rfl rfl) rfl rfl ?_ -- law.go:22 move
      refine Runs_p rfl (Valid.eltaddr1 0 rfl Try.underlying22 sz3 (Reads.sl rfl) rfl (by first | omega | (simp only [Int.toNat_natCast, toNat_add, toNat_add1, List.length_append, List.length_cons, List.length_nil, List.length_replicate]; omega)) (by first | rfl | simp)) rfl rfl ?_ -- law.go:22 indexAddr
      refine Runs_p rfl (Valid.loadelt rfl ag3 rfl) rfl rfl ?_ -- law.go:22 load
      refine Runs_p rfl (Valid.call rfl (pick1_s _ _ (hr.at_ _).1 (hr.at_ _).2 (by decide) (by decide)) ⟨argle rfl, argle rfl, trivial⟩) rfl rfl ?_ -- law.go:22 call
      refine Runs_p rfl (Valid.lit (el := 3) [_] rfl rfl (fun _ => by kernel_rfl) rfl (by decide)) rfl rfl ?_ -- law.go:22 buildSlice
      refine Runs_w rfl (Valid.app rfl Try.underlying22 ti3 (by decide) rfl rfl (Reads.sl rfl) (by first | exact one_map (fun _ => rfl) | exact one_cons rfl one_nil | exact one_app (one_map (fun _ => rfl)) (one_cons rfl one_nil) | exact one_app (one_map (fun _ => rfl)) (one_map (fun _ => rfl)) | exact one_rep rfl | exact one_app (one_rep rfl) (one_map (fun _ => rfl)) | (intro u hu; simp at hu; rcases hu with rfl | hu <;> first | rfl | (subst hu; rfl))) (by first | (simp only [maxLen]; omega) | (simp only [maxLen, Int.toNat_natCast, toNat_add, toNat_add1, List.length_append, List.length_cons, List.length_nil, List.length_replicate]; omega)) (by first | omega | (simp only [Int.toNat_natCast, toNat_add, toNat_add1, List.length_append, List.length_cons, List.length_nil, List.length_replicate]; omega))) rfl rfl ?_ -- law.go:22 call
      refine Runs_p rfl (Valid.assignk (A := Ab.Own 168 1 _ _) rfl rfl) rfl rfl ?_ -- law.go:22 assign
      refine Runs_nil ?_
      refine blockQ_n ?_
      refine thenQ_n ?_
      refine W_regionE (c := 23) (c' := 26) (by kernel_rfl) rfl ?_
      refine Runs_p rfl (Valid.movek (A := Is _) rfl rfl) rfl rfl ?_ -- law.go:21 move
      refine Runs_p rfl (Valid.add rfl rfl rfl (room64 (by first | omega | (simp only [Int.toNat_natCast, toNat_add, toNat_add1, List.length_append, List.length_cons, List.length_nil, List.length_replicate]; omega)) (by first | omega | (simp only [Int.toNat_natCast, toNat_add, toNat_add1, List.length_append, List.length_cons, List.length_nil, List.length_replicate]; omega)))) rfl rfl ?_ -- law.go:21 binOp
      refine Runs_p rfl (Valid.assignk (A := Is _) rfl rfl) rfl rfl ?_ -- law.go:21 assign
      refine Runs_nil ?_
      refine LoopQ.next (k + 1) [(32, 168)] (⟨by omega, by omega⟩) (by first | omega | (dsimp only; omega)) ⟨⟨(leq_is rfl rfl (by first | rfl | exact bits_1 _ _ (by omega))), (leq_own rfl rfl rfl (by first | rfl | exact bits_1 _ _ (by omega)) (by first | rfl | exact bits_1 _ _ (by omega))), trivial⟩, ⟨(leq_sl (Reads.sl rfl) rfl rfl rfl), (leq_is rfl rfl rfl), (leq_ptr rfl rfl rfl), trivial⟩, ⟨hp_row rfl (by first | rfl | exact bits_1 _ _ (by omega)) (by first | rfl | exact bits_1 _ _ (by omega)), trivial⟩, ⟨hp_var rfl ⟨(leq_is rfl rfl rfl), (leq_is rfl rfl rfl), trivial⟩, trivial⟩, rfl, ⟨supg rfl, supg rfl, trivial⟩, ⟨supg rfl, supg rfl, supg rfl, trivial⟩, ⟨suph rfl rfl, trivial⟩, ⟨suph rfl rfl, trivial⟩, rfl, rfl⟩
      done)
  · try simp only [decide_eq_false_iff_not, Bool.and_eq_false_iff] at hb1
    all_goals (
      refine W_exit ?_
      refine thenQ_e ?_
      refine loopQ_e ?_
      refine blockQ_x ?_
      refine thenQ_n ?_
      refine W_seq ?_
      refine W_regionE (c := 14) (c' := 17) (by kernel_rfl) rfl ?_
      refine Runs_p rfl (Valid.movek (A := Ab.Own 32 1 _ _) rfl rfl) rfl rfl ?_ -- law.go:24 move
      refine Runs_p rfl (Valid.call rfl (of_t (b := bitsV raw m) (by rw [bits_len]; omega) (by rw [bits_len]; omega) (by rw [bits_end raw k m (by omega) (by omega) (by omega)])) ⟨argle_sl (Reads.own rfl), trivial⟩) rfl rfl ?_ -- law.go:24 call
      refine Runs_op rfl (Valid.storeagg (l := [_, _]) rfl sz27 rfl rfl (Nat.le_of_ble_eq_true rfl) rfl ⟨(One.is rfl rfl rfl), (One.is rfl rfl rfl), trivial⟩) rfl ?_ -- law.go:24 store
      refine Runs_nil ?_
      refine thenQ_n ?_
      refine W_ret ?_
      refine finQ_r ?_
      refine ResOk.one rfl (RVal.cellagg ag27 sz27 rfl rfl (Nat.le_of_ble_eq_true rfl) (argle (by rfl)))
      done)
end Ca
end Go.Proofs.Ytbfigolloaeknaa
