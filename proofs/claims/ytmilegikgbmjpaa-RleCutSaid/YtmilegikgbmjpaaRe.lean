/-
  WALKS of stage 4: runs that are drawn; the law that is awake.
-/
import Derived.Test.YtmilegikgbmjpaaRows
import Derived.Test.YtmilegikgbmjpaaRd
import Derived.Test.YtmilegikgbmjpaaRn
namespace Go.Proofs.Ytmilegikgbmjpaa
open Go.RowKit
namespace Re
open Ab Rl Rl Ra Rb Rc Rd
theorem ag3 (w : World) : (isAgg 3).run Try.prog w = .ok false w := by kernel_rfl
theorem ag5 (w : World) : (isAgg 5).run Try.prog w = .ok false w := by kernel_rfl
theorem sz3 (w : World) : (sizeOf 3).run Try.prog w = .ok 1 w := by kernel_rfl
theorem sz42 (w : World) : (sizeOf 42).run Try.prog w = .ok 2 w := by kernel_rfl
theorem sz5 (w : World) : (sizeOf 5).run Try.prog w = .ok 1 w := by kernel_rfl
set_option maxRecDepth 100000 in
set_option maxHeartbeats 1000000 in
theorem pick4_s (c n : Int) (h1 : -9223372036854775808 ≤ c) (h2 : c ≤ 9223372036854775807) (h3 : 0 < n) (_h4 : n ≤ 9223372036854775807) :
    FPure Try.prog 15 [Is (.int .i64 c), Is (.int .i64 n)] (Is (.int .i64 (pickV c n))) := by
  refine FPure.of Try.func15 Try.ntmps15 rfl (by kernel_rfl) rfl rfl rfl ?_
  refine W_seq ?_
  refine W_regionE (c := 1) (c' := 2) (by kernel_rfl) rfl ?_
  refine Runs_p rfl (Valid.assignk (A := Is _) rfl rfl) rfl rfl ?_ -- law.go:11 assign
  refine Runs_nil ?_
  refine thenQ_n ?_
  refine W_seq ?_
  refine W_seq ?_
  refine W_regionE (c := 2) (c' := 4) (by kernel_rfl) rfl ?_
  refine Runs_p rfl (Valid.movek (A := Is _) rfl rfl) rfl rfl ?_ -- law.go:12 move
  refine Runs_p rfl (Valid.lss rfl rfl rfl) rfl rfl ?_ -- law.go:12 binOp
  refine Runs_nil ?_
  refine thenQ_n ?_
  refine W_cond _ rfl (fun hb1 => ?_) (fun hb1 => ?_)
  · try simp only [decide_eq_true_eq] at hb1
    all_goals (
      refine W_regionE (c := 4) (c' := 8) (by kernel_rfl) rfl ?_
      refine Runs_p rfl (Valid.movek (A := Is _) rfl rfl) rfl rfl ?_ -- law.go:13 move
      refine Runs_p rfl (Valid.add rfl rfl rfl (room64 (by first | omega | (simp only [Int.toNat_natCast, toNat_add, toNat_add1, List.length_append, List.length_cons, List.length_nil, List.length_replicate]; omega)) (by first | omega | (simp only [Int.toNat_natCast, toNat_add, toNat_add1, List.length_append, List.length_cons, List.length_nil, List.length_replicate]; omega)))) rfl rfl ?_ -- law.go:13 binOp
      refine Runs_p rfl (Valid.neg rfl rfl (room64 (by first | omega | (simp only [Int.toNat_natCast, toNat_add, toNat_add1, List.length_append, List.length_cons, List.length_nil, List.length_replicate]; omega)) (by first | omega | (simp only [Int.toNat_natCast, toNat_add, toNat_add1, List.length_append, List.length_cons, List.length_nil, List.length_replicate]; omega)))) rfl rfl ?_ -- law.go:13 unOp
      refine Runs_p rfl (Valid.assignk (A := Is _) rfl rfl) rfl rfl ?_ -- law.go:13 assign
      refine Runs_nil ?_
      refine thenQ_n ?_
      refine W_seq ?_
      refine W_regionE (c := 8) (c' := 12) (by kernel_rfl) rfl ?_
      refine Runs_p rfl (Valid.movek (A := Is _) rfl rfl) rfl rfl ?_ -- law.go:15 move
      refine Runs_p rfl (Valid.movek (A := Is _) rfl rfl) rfl rfl ?_ -- law.go:15 move
      refine Runs_p rfl (Valid.rem rfl rfl rfl (by first | omega | (simp only [Int.toNat_natCast, toNat_add, toNat_add1, List.length_append, List.length_cons, List.length_nil, List.length_replicate]; omega)) (by first | omega | (simp only [Int.toNat_natCast, toNat_add, toNat_add1, List.length_append, List.length_cons, List.length_nil, List.length_replicate]; omega))) rfl rfl ?_ -- law.go:15 binOp
      refine Runs_p rfl (Valid.assignk (A := Is _) rfl rfl) rfl rfl ?_ -- law.go:15 assign
      refine Runs_nil ?_
      refine thenQ_n ?_
      refine W_ret ?_
      refine finQ_r ?_
      refine ResOk.one rfl (RVal.is rfl rfl (by simp only [pickV]; split <;> first | rfl | omega))
      done)
  · try simp only [decide_eq_false_iff_not] at hb1
    all_goals (
      refine W_skip ?_
      refine thenQ_n ?_
      refine W_seq ?_
      refine W_regionE (c := 4) (c' := 8) (by kernel_rfl) rfl ?_
      refine Runs_p rfl (Valid.movek (A := Is _) rfl rfl) rfl rfl ?_ -- law.go:15 move
      refine Runs_p rfl (Valid.movek (A := Is _) rfl rfl) rfl rfl ?_ -- law.go:15 move
      refine Runs_p rfl (Valid.rem rfl rfl rfl (by first | omega | (simp only [Int.toNat_natCast, toNat_add, toNat_add1, List.length_append, List.length_cons, List.length_nil, List.length_replicate]; omega)) (by first | omega | (simp only [Int.toNat_natCast, toNat_add, toNat_add1, List.length_append, List.length_cons, List.length_nil, List.length_replicate]; omega))) rfl rfl ?_ -- law.go:15 binOp
      refine Runs_p rfl (Valid.assignk (A := Is _) rfl rfl) rfl rfl ?_ -- law.go:15 assign
      refine Runs_nil ?_
      refine thenQ_n ?_
      refine W_ret ?_
      refine finQ_r ?_
      refine ResOk.one rfl (RVal.is rfl rfl (by simp only [pickV]; split <;> first | rfl | omega))
      done)

def ba (l : List UInt8) : ByteArray := ⟨l.toArray⟩
theorem ba_size (l : List UInt8) : (ba l).size = l.length := rfl
theorem ba_list (l : List UInt8) : (ba l).data.toList = l := rfl
theorem list_ba (s : ByteArray) : ba s.data.toList = s := rfl
theorem ba_app (l m : List UInt8) : ba l ++ ba m = ba (l ++ m) := by
  apply ByteArray.ext
  simp [ba, ByteArray.data_append]
theorem ba_inj {a b : List UInt8} (h : ba a = ba b) : a = b := by
  have := congrArg (fun s : ByteArray => s.data.toList) h
  simpa [ba] using this
def in2 (raw : List (Int × Int)) : Prop := ∀ p ∈ raw, (-9223372036854775808 ≤ p.1 ∧ p.1 ≤ 9223372036854775807) ∧ (-9223372036854775808 ≤ p.2 ∧ p.2 ≤ 9223372036854775807)
theorem in2_at {raw : List (Int × Int)} (h : in2 raw) (i : Nat) : (-9223372036854775808 ≤ (raw.getD i (0, 0)).1 ∧ (raw.getD i (0, 0)).1 ≤ 9223372036854775807) ∧ (-9223372036854775808 ≤ (raw.getD i (0, 0)).2 ∧ (raw.getD i (0, 0)).2 ≤ 9223372036854775807) := by
  rw [List.getD_eq_getElem?_getD]
  by_cases hi : i < raw.length
  · rw [List.getElem?_eq_getElem hi]; exact h _ (List.getElem_mem hi)
  · rw [List.getElem?_eq_none (by omega)]; exact ⟨by decide, by decide⟩
def c6 : List UInt8 := [0, 1, 4, 97, 98, 255]
def runB (raw : List (Int × Int)) (i : Nat) : UInt8 := c6.getD (pickV (raw.getD i (0, 0)).1 6).toNat 0
def runsI (raw : List (Int × Int)) (most : Nat) : Nat → List UInt8
  | 0 => []
  | i + 1 => if (runsI raw most i).length < most then runsI raw most i ++ List.replicate (min (most - (runsI raw most i).length) (1 + (pickV (raw.getD i (0, 0)).2 300).toNat)) (runB raw i) else runsI raw most i
def runsL (raw : List (Int × Int)) (most : Nat) : List UInt8 := runsI raw most raw.length
theorem runs_le (raw : List (Int × Int)) (most : Nat) : ∀ i, (runsI raw most i).length ≤ most
  | 0 => by simp [runsI]
  | i + 1 => by
    have := runs_le raw most i
    rw [runsI]; split
    · rw [List.length_append, List.length_replicate]; omega
    · exact this
theorem runs_full {raw : List (Int × Int)} {most i : Nat} (h : ¬ (runsI raw most i).length < most) : ∀ j, i ≤ j → runsI raw most j = runsI raw most i := by
  intro j
  induction j with
  | zero => intro hj; have : i = 0 := by omega
            subst this; rfl
  | succ j ih =>
    intro hj
    by_cases e : i = j + 1
    · rw [e]
    · rw [runsI, ih (by omega), if_neg h]
theorem runs_stop {raw : List (Int × Int)} {most i : Nat} (hi : i ≤ raw.length) (h : ¬ (i : Int) < (raw.length : Int) ∨ ¬ ((ba (runsI raw most i)).size : Int) < (most : Int)) : runsI raw most i = runsL raw most := by
  rcases h with h | h
  · rw [runsL, show i = raw.length by omega]
  · rw [runsL, runs_full (i := i) (by rw [ba_size] at h; omega) _ hi]
theorem runs_step {raw : List (Int × Int)} {most i k : Nat} (h1 : (runsI raw most i).length < most) (h2 : (k : Int) ≤ 1 + pickV (raw.getD i (0, 0)).2 300) (h3 : (runsI raw most i).length + k ≤ most) (h4 : ¬ (k : Int) < 1 + pickV (raw.getD i (0, 0)).2 300 ∨ ¬ ((ba (runsI raw most i ++ List.replicate k (runB raw i))).size : Int) < (most : Int)) : runsI raw most i ++ List.replicate k (runB raw i) = runsI raw most (i + 1) := by
  have hp := pickV_range (raw.getD i (0, 0)).2 300 (by decide)
  rw [runsI, if_pos h1]
  congr 2
  rw [ba_size, List.length_append, List.length_replicate] at h4
  omega
theorem run_cat (l : List UInt8) (c : UInt8) (k : Nat) : ba (l ++ List.replicate k c) ++ ba [c] = ba (l ++ List.replicate (k + 1) c) := by
  rw [ba_app, List.append_assoc, replicate_snoc]
theorem runs_noc (raw : List (Int × Int)) (most : Nat) : ∀ i, ∀ x ∈ runsI raw most i, x ≠ 99
  | 0, x, hx => by simp [runsI] at hx
  | i + 1, x, hx => by
    rw [runsI] at hx
    split at hx
    · rcases List.mem_append.1 hx with hx | hx
      · exact runs_noc raw most i x hx
      · have := List.eq_of_mem_replicate hx
        subst this
        have hp := pickV_range (raw.getD i (0, 0)).1 6 (by decide)
        unfold runB c6
        have h6 : (pickV (raw.getD i (0, 0)).1 6).toNat < 6 := by omega
        generalize (pickV (raw.getD i (0, 0)).1 6).toNat = q at h6
        match q, h6 with
        | 0, _ => decide
        | 1, _ => decide
        | 2, _ => decide
        | 3, _ => decide
        | 4, _ => decide
        | 5, _ => decide
    · exact runs_noc raw most i x hx

set_option maxRecDepth 100000 in
set_option maxHeartbeats 1000000 in
theorem runs_s (raw : List (Int × Int)) (hr : in2 raw) (hl : raw.length ≤ 9223372036854775807) (most : Nat) (hm : most ≤ 1000000) :
    FPure Try.prog 11 [Sl 2 raw.length (prs raw), Is (.int .i64 (most : Int))] (Is (.string (ba (runsL raw most)))) := by
  refine FPure.of Try.func11 Try.ntmps11 rfl (by kernel_rfl) rfl rfl rfl ?_
  refine W_seq ?_
  refine W_regionE (c := 1) (c' := 2) (by kernel_rfl) rfl ?_
  refine Runs_p rfl (Valid.assignk (A := Is _) rfl rfl) rfl rfl ?_ -- law.go:19 assign
  refine Runs_nil ?_
  refine thenQ_n ?_
  refine W_seq ?_
  refine W_regionE (c := 2) (c' := 3) (by kernel_rfl) rfl ?_
  refine Runs_p rfl (Valid.assignk (A := Is _) rfl rfl) rfl rfl ?_ -- law.go:20 assign
  refine Runs_nil ?_
  refine thenQ_n ?_
  refine W_seq ?_
  refine W_seq ?_
  refine W_regionE (c := 3) (c' := 4) (by kernel_rfl) rfl ?_
  refine Runs_p rfl (Valid.assignk (A := Is _) rfl rfl) rfl rfl ?_ -- law.go:21 assign
  refine Runs_nil ?_
  refine thenQ_n ?_
  refine W_block ?_
  refine W_loopx (G := Nat) (fun (i : Nat) => i ≤ raw.length) [(0, Sl 2 _ _), (1, Is _)] (fun (i : Nat) => [(6, Is (.int .i64 (i : Int))), (5, Is (.string (ba (runsI raw most i))))]) [] (fun (i : Nat) => []) 4 (fun (i : Nat) => raw.length - i) (0) [] (by first | trivial | omega | (simp; omega)) ⟨⟨(leq_is rfl rfl (by first | rfl | (rw [runs_step (by rw [ba_size] at hb1; omega) hI2.1 hI2.2 hb2]; done))), (leq_is rfl rfl (by first | rfl | (rw [runs_step (by rw [ba_size] at hb1; omega) hI2.1 hI2.2 hb2]; done))), trivial⟩, ⟨(leq_sl (Reads.sl rfl) rfl rfl rfl), (leq_is rfl rfl rfl), trivial⟩, trivial, trivial, rfl, ⟨supg rfl, supg rfl, trivial⟩, ⟨supg rfl, supg rfl, trivial⟩, trivial, trivial, rfl, rfl⟩ ?_
  intro i hI1
  have hle := runs_le raw most i
  have hra := in2_at hr (i : Int).toNat
  have hp1 := pickV_range (raw.getD (i : Int).toNat (0, 0)).1 6 (by decide)
  have hp2 := pickV_range (raw.getD (i : Int).toNat (0, 0)).2 300 (by decide)
  have hp3 : 0 ≤ pickV (raw.getD i (0, 0)).2 300 ∧ pickV (raw.getD i (0, 0)).2 300 < 300 := hp2
  refine W_seq ?_
  refine W_seq ?_
  refine W_regionE (c := 4) (c' := 14) (by kernel_rfl) rfl ?_
  refine Runs_p rfl (Valid.movek (A := Is _) rfl rfl) rfl rfl ?_ -- law.go:21 move
  refine Runs_p rfl (Valid.movek (A := Sl 2 _ _) rfl rfl) rfl rfl ?_ -- law.go:21 move
  refine Runs_p rfl (Valid.len rfl Try.underlying22 (Reads.sl rfl)) rfl rfl ?_ -- law.go:21 call
  refine Runs_p rfl (Valid.lss rfl rfl rfl) rfl rfl ?_ -- law.go:21 binOp
  refine Runs_p rfl (Valid.movek (A := Is _) rfl rfl) rfl rfl ?_ -- law.go:21 move
  refine Runs_cnd rfl rfl (Grd.is rfl) [] (fun hg => trivial) (fun hg => Valid.movek (A := Is _) rfl rfl) (by rfl) rfl ?_
  refine Runs_cnd rfl rfl (Grd.is rfl) [(14, _)] (fun hg => ⟨cnd_at rfl (by first | exact hg | exact hg.1 | exact hg.1.1 | exact hg.1.1.1), trivial⟩) (fun hg => Valid.slen rfl Try.underlying9 rfl) (by rfl) rfl ?_
  refine Runs_cnd rfl rfl (Grd.is rfl) [] (fun hg => trivial) (fun hg => Valid.movek (A := Is _) rfl rfl) (by rfl) rfl ?_
  refine Runs_cnd rfl rfl (Grd.is rfl) [(15, _), (16, _)] (fun hg => ⟨cnd_at rfl (by first | exact hg | exact hg.1 | exact hg.1.1 | exact hg.1.1.1), cnd_at rfl (by first | exact hg | exact hg.1 | exact hg.1.1 | exact hg.1.1.1), trivial⟩) (fun hg => Valid.lss rfl rfl rfl) (by rfl) rfl ?_
  refine Runs_p rfl (Valid.pickand rfl rfl rfl (fun h => by first | exact h | exact ⟨hg, h⟩) rfl) rfl rfl ?_ -- law.go:21 pick
  refine Runs_nil ?_
  refine thenQ_n ?_
  refine W_cond _ rfl (fun hb1 => ?_) (fun hb1 => ?_)
  · try simp only [decide_eq_true_eq, Bool.and_eq_true] at hb1
    all_goals (
      refine W_skip ?_
      refine thenQ_n ?_
      refine W_seq ?_
      refine W_block ?_
      refine W_seq ?_
      refine W_regionE (c := 14) (c' := 24) (by kernel_rfl) rfl ?_
      refine Runs_p rfl (Valid.lit (el := 5) (c6.map B) rfl rfl (fun _ => by kernel_rfl) rfl (by decide)) rfl rfl ?_ -- law.go:22 buildSlice
      refine Runs_p rfl (Valid.movek (A := Sl 2 _ _) rfl rfl) rfl rfl ?_ -- law.go:22 move
      refine Runs_p rfl (Valid.movek (A := Is _) rfl rfl) rfl rfl ?_ -- law.go:22 move
      refine Runs_p rfl (Valid.eltA rfl Try.underlying22 sz42 (Reads.sl rfl) rfl (by first | omega | (simp only [Int.toNat_natCast, toNat_add, toNat_add1, List.length_append, List.length_cons, List.length_nil, List.length_replicate]; omega)) (by first | rfl | simp)) rfl rfl ?_ -- law.go:22 indexAddr
      refine Runs_p rfl (Valid.idxelt rfl Try.underlying42 sz3 rfl rfl (by first | omega | (simp only [Int.toNat_natCast, toNat_add, toNat_add1, List.length_append, List.length_cons, List.length_nil, List.length_replicate]; omega))) rfl rfl ?_ -- law.go:22 indexAddr
      refine Runs_p rfl (Valid.loadelt rfl ag3 rfl) rfl rfl ?_ -- law.go:22 load
      refine Runs_p rfl (Valid.call rfl (pick4_s _ _ (by omega) (by omega) (by omega) (by omega)) ⟨argle rfl, argle rfl, trivial⟩) rfl rfl ?_ -- law.go:22 call
      refine Runs_p rfl (Valid.eltaddr1 0 rfl Try.underlying40 sz5 (Reads.sl rfl) rfl (by first | omega | (simp only [Int.toNat_natCast, toNat_add, toNat_add1, List.length_append, List.length_cons, List.length_nil, List.length_replicate]; omega)) (by first | rfl | simp)) rfl rfl ?_ -- law.go:22 indexAddr
      refine Runs_p rfl (Valid.loadelt rfl ag5 rfl) rfl rfl ?_ -- law.go:22 load
      refine Runs_p rfl (Valid.assignk (A := Is _) rfl rfl) rfl rfl ?_ -- law.go:22 assign
      refine Runs_nil ?_
      refine thenQ_n ?_
      refine W_seq ?_
      refine W_regionE (c := 24) (c' := 25) (by kernel_rfl) rfl ?_
      refine Runs_p rfl (Valid.assignk (A := Is _) rfl rfl) rfl rfl ?_ -- law.go:23 assign
      refine Runs_nil ?_
      refine thenQ_n ?_
      refine W_block ?_
      refine W_loopx (G := Nat) (fun (k : Nat) => (k : Int) ≤ 1 + pickV (raw.getD i (0, 0)).2 300 ∧ (runsI raw most i).length + k ≤ most) [(0, Sl 2 _ _), (1, Is _), (6, Is _), (7, Is _)] (fun (k : Nat) => [(8, Is (.int .i64 (k : Int))), (5, Is (.string (ba (runsI raw most i ++ List.replicate k (runB raw i)))))]) [] (fun (k : Nat) => []) 25 (fun (k : Nat) => 302 - k) (0) [] (⟨by omega, by omega⟩) ⟨⟨(leq_is rfl rfl (by first | rfl | (rw [List.replicate_zero, List.append_nil]; done))), (leq_is rfl rfl (by first | rfl | (rw [List.replicate_zero, List.append_nil]; done))), trivial⟩, ⟨(leq_sl (Reads.sl rfl) rfl rfl rfl), (leq_is rfl rfl rfl), (leq_is rfl rfl rfl), (leq_is rfl rfl rfl), trivial⟩, trivial, trivial, rfl, ⟨supg rfl, supg rfl, trivial⟩, ⟨supg rfl, supg rfl, supg rfl, supg rfl, trivial⟩, trivial, trivial, rfl, rfl⟩ ?_
      intro k hI2
      have hbs : (ba (runsI raw most i ++ List.replicate k (runB raw i))).size = (runsI raw most i).length + k := by rw [ba_size, List.length_append, List.length_replicate]
      refine W_seq ?_
      refine W_seq ?_
      refine W_regionE (c := 25) (c' := 40) (by kernel_rfl) rfl ?_
      refine Runs_p rfl (Valid.movek (A := Is _) rfl rfl) rfl rfl ?_ -- law.go:23 move
      refine Runs_p rfl (Valid.movek (A := Sl 2 _ _) rfl rfl) rfl rfl ?_ -- law.go:23 move
      refine Runs_p rfl (Valid.movek (A := Is _) rfl rfl) rfl rfl ?_ -- law.go:23 move
      refine Runs_p rfl (Valid.eltA rfl Try.underlying22 sz42 (Reads.sl rfl) rfl (by first | omega | (simp only [Int.toNat_natCast, toNat_add, toNat_add1, List.length_append, List.length_cons, List.length_nil, List.length_replicate]; omega)) (by first | rfl | simp)) rfl rfl ?_ -- law.go:23 indexAddr
      refine Runs_p rfl (Valid.idxelt rfl Try.underlying42 sz3 rfl rfl (by first | omega | (simp only [Int.toNat_natCast, toNat_add, toNat_add1, List.length_append, List.length_cons, List.length_nil, List.length_replicate]; omega))) rfl rfl ?_ -- law.go:23 indexAddr
      refine Runs_p rfl (Valid.loadelt rfl ag3 rfl) rfl rfl ?_ -- law.go:23 load
      refine Runs_p rfl (Valid.call rfl (pick4_s _ _ (by omega) (by omega) (by omega) (by omega)) ⟨argle rfl, argle rfl, trivial⟩) rfl rfl ?_ -- law.go:23 call
      refine Runs_p rfl (Valid.add rfl rfl rfl (room64 (by first | omega | (simp only [Int.toNat_natCast, toNat_add, toNat_add1, List.length_append, List.length_cons, List.length_nil, List.length_replicate]; omega)) (by first | omega | (simp only [Int.toNat_natCast, toNat_add, toNat_add1, List.length_append, List.length_cons, List.length_nil, List.length_replicate]; omega)))) rfl rfl ?_ -- law.go:23 binOp
      refine Runs_p rfl (Valid.lss rfl rfl rfl) rfl rfl ?_ -- law.go:23 binOp
      refine Runs_p rfl (Valid.movek (A := Is _) rfl rfl) rfl rfl ?_ -- law.go:23 move
      refine Runs_cnd rfl rfl (Grd.is rfl) [] (fun hg => trivial) (fun hg => Valid.movek (A := Is _) rfl rfl) (by rfl) rfl ?_
      refine Runs_cnd rfl rfl (Grd.is rfl) [(40, _)] (fun hg => ⟨cnd_at rfl (by first | exact hg | exact hg.1 | exact hg.1.1 | exact hg.1.1.1), trivial⟩) (fun hg => Valid.slen rfl Try.underlying9 rfl) (by rfl) rfl ?_
      refine Runs_cnd rfl rfl (Grd.is rfl) [] (fun hg => trivial) (fun hg => Valid.movek (A := Is _) rfl rfl) (by rfl) rfl ?_
      refine Runs_cnd rfl rfl (Grd.is rfl) [(41, _), (42, _)] (fun hg => ⟨cnd_at rfl (by first | exact hg | exact hg.1 | exact hg.1.1 | exact hg.1.1.1), cnd_at rfl (by first | exact hg | exact hg.1 | exact hg.1.1 | exact hg.1.1.1), trivial⟩) (fun hg => Valid.lss rfl rfl rfl) (by rfl) rfl ?_
      refine Runs_p rfl (Valid.pickand rfl rfl rfl (fun h => by first | exact h | exact ⟨hg, h⟩) rfl) rfl rfl ?_ -- law.go:23 pick
      refine Runs_nil ?_
      refine thenQ_n ?_
      refine W_cond _ rfl (fun hb2 => ?_) (fun hb2 => ?_)
      · try simp only [Int.toNat_natCast, decide_eq_true_eq, Bool.and_eq_true] at hb2
        all_goals (
          refine W_skip ?_
          refine thenQ_n ?_
          refine W_seq ?_
          refine W_block ?_
          refine W_regionE (c := 40) (c' := 46) (by kernel_rfl) rfl ?_
          refine Runs_p rfl (Valid.movek (A := Is _) rfl rfl) rfl rfl ?_ -- law.go:24 move
          refine Runs_p rfl (Valid.movek (A := Is _) rfl rfl) rfl rfl ?_ -- law.go:24 move
          refine Runs_p rfl (Valid.lit (el := 5) ([runB raw i].map B) rfl rfl (fun _ => by kernel_rfl) rfl (by decide)) rfl rfl ?_ -- law.go:24 buildSlice
          refine Runs_p rfl (Valid.tostring rfl Try.underlying40 Try.underlying5 Try.underlying9 (Reads.sl rfl)) rfl rfl ?_ -- law.go:24 convert
          refine Runs_p rfl (Valid.cat rfl rfl rfl (by rw [hbs]; show _ + 1 ≤ _; omega)) rfl rfl ?_ -- law.go:24 binOp
          refine Runs_p rfl (Valid.assignk (A := Is _) rfl rfl) rfl rfl ?_ -- law.go:24 assign
          refine Runs_nil ?_
          refine blockQ_n ?_
          refine thenQ_n ?_
          refine W_regionE (c := 46) (c' := 49) (by kernel_rfl) rfl ?_
          refine Runs_p rfl (Valid.movek (A := Is _) rfl rfl) rfl rfl ?_ -- law.go:23 move
          refine Runs_p rfl (Valid.add rfl rfl rfl (room64 (by first | omega | (simp only [Int.toNat_natCast, toNat_add, toNat_add1, List.length_append, List.length_cons, List.length_nil, List.length_replicate]; omega)) (by first | omega | (simp only [Int.toNat_natCast, toNat_add, toNat_add1, List.length_append, List.length_cons, List.length_nil, List.length_replicate]; omega)))) rfl rfl ?_ -- law.go:23 binOp
          refine Runs_p rfl (Valid.assignk (A := Is _) rfl rfl) rfl rfl ?_ -- law.go:23 assign
          refine Runs_nil ?_
          refine LoopQ.next (k + 1) [] (⟨by have h : (k : Int) < 1 + pickV (raw.getD i (0, 0)).2 300 := hb2.1; omega, by omega⟩) (by have h : (k : Int) < 1 + pickV (raw.getD i (0, 0)).2 300 := hb2.1; omega) ⟨⟨(leq_is rfl rfl (by first | rfl | exact congrArg Value.string (run_cat _ _ _))), (leq_is rfl rfl (by first | rfl | exact congrArg Value.string (run_cat _ _ _))), trivial⟩, ⟨(leq_sl (Reads.sl rfl) rfl rfl rfl), (leq_is rfl rfl rfl), (leq_is rfl rfl rfl), (leq_is rfl rfl rfl), trivial⟩, trivial, trivial, rfl, ⟨supg rfl, supg rfl, trivial⟩, ⟨supg rfl, supg rfl, supg rfl, supg rfl, trivial⟩, trivial, trivial, rfl, rfl⟩
          done)
      · try simp only [Int.toNat_natCast, decide_eq_false_iff_not, Bool.and_eq_false_iff] at hb2
        all_goals (
          refine W_exit ?_
          refine thenQ_e ?_
          refine loopQ_e ?_
          refine blockQ_x ?_
          refine blockQ_n ?_
          refine thenQ_n ?_
          refine W_regionE (c := 40) (c' := 43) (by kernel_rfl) rfl ?_
          refine Runs_p rfl (Valid.movek (A := Is _) rfl rfl) rfl rfl ?_ -- law.go:21 move
          refine Runs_p rfl (Valid.add rfl rfl rfl (room64 (by first | omega | (simp only [Int.toNat_natCast, toNat_add, toNat_add1, List.length_append, List.length_cons, List.length_nil, List.length_replicate]; omega)) (by first | omega | (simp only [Int.toNat_natCast, toNat_add, toNat_add1, List.length_append, List.length_cons, List.length_nil, List.length_replicate]; omega)))) rfl rfl ?_ -- law.go:21 binOp
          refine Runs_p rfl (Valid.assignk (A := Is _) rfl rfl) rfl rfl ?_ -- law.go:21 assign
          refine Runs_nil ?_
          refine LoopQ.next (i + 1) [] (by omega) (by first | omega | (dsimp only; omega)) ⟨⟨(leq_is rfl rfl (by first | rfl | (rw [runs_step (by rw [ba_size] at hb1; omega) hI2.1 hI2.2 hb2]; done))), (leq_is rfl rfl (by first | rfl | (rw [runs_step (by rw [ba_size] at hb1; omega) hI2.1 hI2.2 hb2]; done))), trivial⟩, ⟨(leq_sl (Reads.sl rfl) rfl rfl rfl), (leq_is rfl rfl rfl), trivial⟩, trivial, trivial, rfl, ⟨supg rfl, supg rfl, trivial⟩, ⟨supg rfl, supg rfl, trivial⟩, trivial, trivial, rfl, rfl⟩
          done)
      done)
  · try simp only [decide_eq_false_iff_not, Bool.and_eq_false_iff] at hb1
    all_goals (
      refine W_exit ?_
      refine thenQ_e ?_
      refine loopQ_e ?_
      refine blockQ_x ?_
      refine thenQ_n ?_
      refine W_seq ?_
      refine W_regionE (c := 14) (c' := 16) (by kernel_rfl) rfl ?_
      refine Runs_p rfl (Valid.movek (A := Is _) rfl rfl) rfl rfl ?_ -- law.go:27 move
      refine Runs_p rfl (Valid.assignk (A := Is _) rfl rfl) rfl rfl ?_ -- law.go:27 assign
      refine Runs_nil ?_
      refine thenQ_n ?_
      refine W_ret ?_
      refine finQ_r ?_
      refine ResOk.one rfl (RVal.is rfl rfl (by first | (rw [runs_stop hI1 (by assumption)]; done) | (trace_state; skip)))
      done)
end Re
end Go.Proofs.Ytmilegikgbmjpaa
