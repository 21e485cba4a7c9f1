/-
  WALKS of stage 14: raw texts (of law 13).
-/
import Derived.Test.YtfelmdagolnpeaaRows
import Derived.Test.YtfelmdagolnpeaaVm
import Derived.Test.YtfelmdagolnpeaaVa
import Derived.Test.YtfelmdagolnpeaaVb
namespace Go.Proofs.Ytfelmdagolnpeaa
open Go.RowKit
namespace Vc
open Ab Vm Va Vb
theorem ag3 (w : World) : (isAgg 3).run Try.prog w = .ok false w := by kernel_rfl
theorem ag9 (w : World) : (isAgg 9).run Try.prog w = .ok false w := by kernel_rfl
theorem sz3 (w : World) : (sizeOf 3).run Try.prog w = .ok 1 w := by kernel_rfl
theorem sz9 (w : World) : (sizeOf 9).run Try.prog w = .ok 1 w := by kernel_rfl
abbrev lettL : List ByteArray := [⟨#[97]⟩, ⟨#[98]⟩, ⟨#[255]⟩]
def lett (c : Int) : ByteArray := lettL.getD (pickV c 3).toNat ByteArray.empty
theorem lett_size (c : Int) : (lett c).size = 1 := by
  have := pickV_range c 3 (by decide)
  have h : ∀ n, n < 3 → (lettL.getD n ByteArray.empty).size = 1 := by decide
  exact h _ (by omega)
def oneT (raw : List Int) : Nat → ByteArray
  | 0 => ByteArray.empty
  | k + 1 => oneT raw k ++ lett (raw.getD k 0)
  termination_by k => k
theorem oneT_size (raw : List Int) : ∀ k, (oneT raw k).size = k
  | 0 => by rw [oneT]; rfl
  | k + 1 => by rw [oneT, ByteArray.size_append, oneT_size raw k, lett_size]
theorem one_0 (raw : List Int) : oneT raw 0 = ByteArray.empty := by rw [oneT]
theorem one_1 (raw : List Int) (k : Nat) : oneT raw k ++ lettL.getD (pickV (raw.getD (k : Int).toNat 0) 3).toNat ByteArray.empty = oneT raw (k + 1) := by rw [oneT]; rfl
def goT (one : ByteArray) (most : Int) : Nat → ByteArray → ByteArray
  | 0, out => out
  | n + 1, out => if (out.size : Int) + one.size ≤ most then goT one most n (out ++ one) else out
  termination_by n => n
theorem go_0 (one out : ByteArray) (most : Int) (n : Nat) (h : n = 0) : goT one most n out = out := by subst h; rw [goT]
theorem go_1 (one out : ByteArray) (most : Int) (n : Nat) (hn : 0 < n) (h : (out.size : Int) + one.size ≤ most) : goT one most n out = goT one most (n - 1) (out ++ one) := by
  obtain ⟨d, rfl⟩ : ∃ d, n = d + 1 := ⟨n - 1, by omega⟩
  rw [goT, if_pos h]; rfl
theorem go_2 (one out : ByteArray) (most : Int) (n : Nat) (h : ¬ (out.size : Int) + one.size ≤ most) : goT one most n out = out := by
  cases n with
  | zero => rw [goT]
  | succ d => rw [goT, if_neg h]
def textV (raw : List Int) (most times : Int) : ByteArray := goT (oneT raw (min raw.length most.toNat)) most (pickV times 4).toNat (oneT raw (min raw.length most.toNat))

set_option maxRecDepth 100000 in
set_option maxHeartbeats 1000000 in
theorem pick13_s (c n : Int) (h1 : -9223372036854775808 ≤ c) (h2 : c ≤ 9223372036854775807) (h3 : 0 < n) (_h4 : n ≤ 9223372036854775807) :
    FPure Try.prog 21 [Is (.int .i64 c), Is (.int .i64 n)] (Is (.int .i64 (pickV c n))) := by
  refine FPure.of Try.func21 Try.ntmps21 rfl (by kernel_rfl) rfl rfl rfl ?_
  refine W_seq ?_
  refine W_regionE (c := 1) (c' := 2) (by kernel_rfl) rfl ?_
  refine Runs_p rfl (Valid.assignk (A := Is _) rfl rfl) rfl rfl ?_ -- law.go:11 assign
  refine Runs_nil ?_
  refine thenQ_n ?_
  refine W_seq ?_
  refine W_seq ?_
  refine W_regionE (c := 2) (c' := 4) (by kernel_rfl) rfl ?_
  refine Runs_p rfl (Valid.movek (A := Is _) rfl rfl) rfl rfl ?_ -- law.go:12 move
  refine Runs_p rfl (Valid.lss rfl rfl rfl) rfl rfl ?_ -- law.go:12 binOp
  refine Runs_nil ?_
  refine thenQ_n ?_
  refine W_cond _ rfl (fun hb1 => ?_) (fun hb1 => ?_)
  · try simp only [decide_eq_true_eq] at hb1
    all_goals (
      refine W_regionE (c := 4) (c' := 8) (by kernel_rfl) rfl ?_
      refine Runs_p rfl (Valid.movek (A := Is _) rfl rfl) rfl rfl ?_ -- law.go:13 move
      refine Runs_p rfl (Valid.add rfl rfl rfl (room64 (by first | omega | (simp only [Int.toNat_natCast, toNat_add, toNat_add1, List.length_append, List.length_cons, List.length_nil, List.length_replicate]; omega)) (by first | omega | (simp only [Int.toNat_natCast, toNat_add, toNat_add1, List.length_append, List.length_cons, List.length_nil, List.length_replicate]; omega)))) rfl rfl ?_ -- law.go:13 binOp
      refine Runs_p rfl (Valid.neg rfl rfl (room64 (by first | omega | (simp only [Int.toNat_natCast, toNat_add, toNat_add1, List.length_append, List.length_cons, List.length_nil, List.length_replicate]; omega)) (by first | omega | (simp only [Int.toNat_natCast, toNat_add, toNat_add1, List.length_append, List.length_cons, List.length_nil, List.length_replicate]; omega)))) rfl rfl ?_ -- law.go:13 unOp
      refine Runs_p rfl (Valid.assignk (A := Is _) rfl rfl) rfl rfl ?_ -- law.go:13 assign
      refine Runs_nil ?_
      refine thenQ_n ?_
      refine W_seq ?_
      refine W_regionE (c := 8) (c' := 12) (by kernel_rfl) rfl ?_
      refine Runs_p rfl (Valid.movek (A := Is _) rfl rfl) rfl rfl ?_ -- law.go:15 move
      refine Runs_p rfl (Valid.movek (A := Is _) rfl rfl) rfl rfl ?_ -- law.go:15 move
      refine Runs_p rfl (Valid.rem rfl rfl rfl (by first | omega | (simp only [Int.toNat_natCast, toNat_add, toNat_add1, List.length_append, List.length_cons, List.length_nil, List.length_replicate]; omega)) (by first | omega | (simp only [Int.toNat_natCast, toNat_add, toNat_add1, List.length_append, List.length_cons, List.length_nil, List.length_replicate]; omega))) rfl rfl ?_ -- law.go:15 binOp
      refine Runs_p rfl (Valid.assignk (A := Is _) rfl rfl) rfl rfl ?_ -- law.go:15 assign
      refine Runs_nil ?_
      refine thenQ_n ?_
      refine W_ret ?_
      refine finQ_r ?_
      refine ResOk.one rfl (RVal.is rfl rfl (by simp only [pickV]; split <;> first | rfl | omega))
      done)
  · try simp only [decide_eq_false_iff_not] at hb1
    all_goals (
      refine W_skip ?_
      refine thenQ_n ?_
      refine W_seq ?_
      refine W_regionE (c := 4) (c' := 8) (by kernel_rfl) rfl ?_
      refine Runs_p rfl (Valid.movek (A := Is _) rfl rfl) rfl rfl ?_ -- law.go:15 move
      refine Runs_p rfl (Valid.movek (A := Is _) rfl rfl) rfl rfl ?_ -- law.go:15 move
      refine Runs_p rfl (Valid.rem rfl rfl rfl (by first | omega | (simp only [Int.toNat_natCast, toNat_add, toNat_add1, List.length_append, List.length_cons, List.length_nil, List.length_replicate]; omega)) (by first | omega | (simp only [Int.toNat_natCast, toNat_add, toNat_add1, List.length_append, List.length_cons, List.length_nil, List.length_replicate]; omega))) rfl rfl ?_ -- law.go:15 binOp
      refine Runs_p rfl (Valid.assignk (A := Is _) rfl rfl) rfl rfl ?_ -- law.go:15 assign
      refine Runs_nil ?_
      refine thenQ_n ?_
      refine W_ret ?_
      refine finQ_r ?_
      refine ResOk.one rfl (RVal.is rfl rfl (by simp only [pickV]; split <;> first | rfl | omega))
      done)

set_option maxRecDepth 100000 in
set_option maxHeartbeats 1000000 in
theorem text_s (raw : List Int) (most times : Int) (hr : In64 raw) (hl : raw.length ≤ 9223372036854775807) (h0 : 0 ≤ most) (h1 : most ≤ 100000) (ht : -9223372036854775808 ≤ times ∧ times ≤ 9223372036854775807) :
    FPure Try.prog 10 [Sl 1 raw.length (raw.map (Value.int .i64)), Is (.int .i64 most), Is (.int .i64 times)] (Is (.string (textV raw most times))) := by
  refine FPure.of Try.func10 Try.ntmps10 rfl (by kernel_rfl) rfl rfl rfl ?_
  refine W_seq ?_
  refine W_regionE (c := 1) (c' := 2) (by kernel_rfl) rfl ?_
  refine Runs_p rfl (Valid.assignk (A := Is _) rfl rfl) rfl rfl ?_ -- law.go:19 assign
  refine Runs_nil ?_
  refine thenQ_n ?_
  refine W_seq ?_
  refine W_regionE (c := 2) (c' := 3) (by kernel_rfl) rfl ?_
  refine Runs_p rfl (Valid.assignk (A := Is _) rfl rfl) rfl rfl ?_ -- law.go:20 assign
  refine Runs_nil ?_
  refine thenQ_n ?_
  refine W_seq ?_
  refine W_seq ?_
  refine W_regionE (c := 3) (c' := 4) (by kernel_rfl) rfl ?_
  refine Runs_p rfl (Valid.assignk (A := Is _) rfl rfl) rfl rfl ?_ -- law.go:21 assign
  refine Runs_nil ?_
  refine thenQ_n ?_
  refine W_block ?_
  refine W_loopx (G := Nat) (fun (k : Nat) => k ≤ raw.length ∧ (k : Int) ≤ most) [(0, Sl 1 _ _), (1, Is _), (2, Is _)] (fun (k : Nat) => [(7, Is (.string (oneT raw k))), (8, Is (.int .i64 (k : Int)))]) [] (fun (k : Nat) => []) 4 (fun (k : Nat) => raw.length - k) (0) [] (⟨by omega, by omega⟩) ⟨⟨(leq_is rfl rfl (by first | rfl | exact congrArg Value.string (one_0 _).symm)), (leq_is rfl rfl (by first | rfl | exact congrArg Value.string (one_0 _).symm)), trivial⟩, ⟨(leq_sl (Reads.sl rfl) rfl rfl rfl), (leq_is rfl rfl rfl), (leq_is rfl rfl rfl), trivial⟩, trivial, trivial, rfl, ⟨supg rfl, supg rfl, trivial⟩, ⟨supg rfl, supg rfl, supg rfl, trivial⟩, trivial, trivial, rfl, rfl⟩ ?_
  intro k hI1
  obtain ⟨hk1, hk2⟩ := hI1
  have hsz := oneT_size raw k
  refine W_seq ?_
  refine W_seq ?_
  refine W_regionE (c := 4) (c' := 13) (by kernel_rfl) rfl ?_
  refine Runs_p rfl (Valid.movek (A := Is _) rfl rfl) rfl rfl ?_ -- law.go:21 move
  refine Runs_p rfl (Valid.movek (A := Sl 1 _ _) rfl rfl) rfl rfl ?_ -- law.go:21 move
  refine Runs_p rfl (Valid.len rfl Try.underlying22 (Reads.sl rfl)) rfl rfl ?_ -- law.go:21 call
  refine Runs_p rfl (Valid.lss rfl rfl rfl) rfl rfl ?_ -- law.go:21 binOp
  refine Runs_p rfl (Valid.movek (A := Is _) rfl rfl) rfl rfl ?_ -- law.go:21 move
  refine Runs_cnd rfl rfl (Grd.is rfl) [] (fun hg => trivial) (fun hg => Valid.movek (A := Is _) rfl rfl) (by rfl) rfl ?_
  refine Runs_cnd rfl rfl (Grd.is rfl) [] (fun hg => trivial) (fun hg => Valid.movek (A := Is _) rfl rfl) (by rfl) rfl ?_
  refine Runs_cnd rfl rfl (Grd.is rfl) [(16, _), (17, _)] (fun hg => ⟨cnd_at rfl (by first | exact hg | exact hg.1 | exact hg.1.1 | exact hg.1.1.1), cnd_at rfl (by first | exact hg | exact hg.1 | exact hg.1.1 | exact hg.1.1.1), trivial⟩) (fun hg => Valid.lss rfl rfl rfl) (by rfl) rfl ?_
  refine Runs_p rfl (Valid.pickand rfl rfl rfl (fun h => by first | exact h | exact ⟨hg, h⟩) rfl) rfl rfl ?_ -- law.go:21 pick
  refine Runs_nil ?_
  refine thenQ_n ?_
  refine W_cond _ rfl (fun hb1 => ?_) (fun hb1 => ?_)
  · try simp only [decide_eq_true_eq, Bool.and_eq_true] at hb1
    all_goals (
      refine W_skip ?_
      refine thenQ_n ?_
      refine W_seq ?_
      refine W_block ?_
      refine W_regionE (c := 13) (c' := 24) (by kernel_rfl) rfl ?_
      refine Runs_p rfl (Valid.movek (A := Is _) rfl rfl) rfl rfl ?_ -- law.go:22 move
      refine Runs_p rfl (Valid.lit (el := 9) (lettL.map Value.string) rfl rfl (fun _ => by kernel_rfl) rfl (by decide)) rfl rfl ?_ -- law.go:22 buildSlice
      refine Runs_p rfl (Valid.movek (A := Sl 1 _ _) rfl rfl) rfl rfl ?_ -- law.go:22 move
      refine Runs_p rfl (Valid.movek (A := Is _) rfl rfl) rfl rfl ?_ -- law.go:22 move
      refine Runs_p rfl (Valid.eltaddr1 0 rfl Try.underlying22 sz3 (Reads.sl rfl) rfl (by first | omega | (have := pickV_range (raw.getD (k : Int).toNat 0) 3 (by decide); omega)) (by first | rfl | simp)) rfl rfl ?_ -- law.go:22 indexAddr
      refine Runs_p rfl (Valid.loadelt rfl ag3 rfl) rfl rfl ?_ -- law.go:22 load
      refine Runs_p rfl (Valid.call rfl (pick13_s _ _ (hr.at_ _).1 (hr.at_ _).2 (by decide) (by decide)) ⟨argle rfl, argle rfl, trivial⟩) rfl rfl ?_ -- law.go:22 call
      refine Runs_p rfl (Valid.eltaddr1 ByteArray.empty rfl Try.underlying25 sz9 (Reads.sl rfl) rfl (by first | omega | (have := pickV_range (raw.getD (k : Int).toNat 0) 3 (by decide); omega)) (by first | rfl | simp)) rfl rfl ?_ -- law.go:22 indexAddr
      refine Runs_p rfl (Valid.loadelt rfl ag9 rfl) rfl rfl ?_ -- law.go:22 load
      refine Runs_p rfl (Valid.cat rfl rfl rfl (by have h := lett_size (raw.getD (k : Int).toNat 0); rw [lett] at h; first | omega | (simp only [maxLen]; omega))) rfl rfl ?_ -- law.go:22 binOp
      refine Runs_p rfl (Valid.assignk (A := Is _) rfl rfl) rfl rfl ?_ -- law.go:22 assign
      refine Runs_nil ?_
      refine blockQ_n ?_
      refine thenQ_n ?_
      refine W_regionE (c := 24) (c' := 27) (by kernel_rfl) rfl ?_
      refine Runs_p rfl (Valid.movek (A := Is _) rfl rfl) rfl rfl ?_ -- law.go:21 move
      refine Runs_p rfl (Valid.add rfl rfl rfl (room64 (by first | omega | (simp only [Int.toNat_natCast, toNat_add, toNat_add1, List.length_append, List.length_cons, List.length_nil, List.length_replicate]; omega)) (by first | omega | (simp only [Int.toNat_natCast, toNat_add, toNat_add1, List.length_append, List.length_cons, List.length_nil, List.length_replicate]; omega)))) rfl rfl ?_ -- law.go:21 binOp
      refine Runs_p rfl (Valid.assignk (A := Is _) rfl rfl) rfl rfl ?_ -- law.go:21 assign
      refine Runs_nil ?_
      refine LoopQ.next (k + 1) [] (⟨by omega, by omega⟩) (by first | omega | (dsimp only; omega)) ⟨⟨(leq_is rfl rfl (by first | rfl | exact congrArg Value.string (one_1 _ _))), (leq_is rfl rfl (by first | rfl | exact congrArg Value.string (one_1 _ _))), trivial⟩, ⟨(leq_sl (Reads.sl rfl) rfl rfl rfl), (leq_is rfl rfl rfl), (leq_is rfl rfl rfl), trivial⟩, trivial, trivial, rfl, ⟨supg rfl, supg rfl, trivial⟩, ⟨supg rfl, supg rfl, supg rfl, trivial⟩, trivial, trivial, rfl, rfl⟩
      done)
  · try simp only [decide_eq_false_iff_not, Bool.and_eq_false_iff] at hb1
    all_goals (
      refine W_exit ?_
      refine thenQ_e ?_
      refine loopQ_e ?_
      refine blockQ_x ?_
      refine thenQ_n ?_
      refine W_seq ?_
      refine W_regionE (c := 13) (c' := 15) (by kernel_rfl) rfl ?_
      refine Runs_p rfl (Valid.movek (A := Is _) rfl rfl) rfl rfl ?_ -- law.go:24 move
      refine Runs_p rfl (Valid.assignk (A := Is _) rfl rfl) rfl rfl ?_ -- law.go:24 assign
      refine Runs_nil ?_
      refine thenQ_n ?_
      refine W_seq ?_
      refine W_seq ?_
      refine W_regionE (c := 15) (c' := 16) (by kernel_rfl) rfl ?_
      refine Runs_p rfl (Valid.assignk (A := Is _) rfl rfl) rfl rfl ?_ -- law.go:25 assign
      refine Runs_nil ?_
      refine thenQ_n ?_
      refine W_block ?_
      refine W_loopx (G := Nat × ByteArray) (fun (g_ : Nat × ByteArray) => match g_ with | ⟨j, out⟩ => out.size ≤ 200000 ∧ (j : Int) ≤ pickV times 4 ∧ goT (oneT raw k) most ((pickV times 4).toNat - j) out = textV raw most times) [(1, Is _), (2, Is _), (7, Is _)] (fun (g_ : Nat × ByteArray) => match g_ with | ⟨j, out⟩ => [(9, Is (.string out)), (10, Is (.int .i64 (j : Int)))]) [] (fun (g_ : Nat × ByteArray) => match g_ with | ⟨j, out⟩ => []) 16 (fun (g_ : Nat × ByteArray) => match g_ with | ⟨j, out⟩ => (pickV times 4).toNat - j) (⟨0, oneT raw k⟩) [] (⟨by omega, by have := pickV_range times 4 (by decide); omega, by rw [textV, show min raw.length most.toNat = k by omega]; rfl⟩) ⟨⟨(leq_is rfl rfl (by first | rfl | (simp; done) | omega | (simp [toNat_add, toNat_add1, Nat.add_assoc]; done) | (simp [toNat_add, toNat_add1]; omega))), (leq_is rfl rfl (by first | rfl | (simp; done) | omega | (simp [toNat_add, toNat_add1, Nat.add_assoc]; done) | (simp [toNat_add, toNat_add1]; omega))), trivial⟩, ⟨(leq_is rfl rfl rfl), (leq_is rfl rfl rfl), (leq_is rfl rfl rfl), trivial⟩, trivial, trivial, rfl, ⟨supg rfl, supg rfl, trivial⟩, ⟨supg rfl, supg rfl, supg rfl, trivial⟩, trivial, trivial, rfl, rfl⟩ ?_
      intro ⟨j, out⟩ hI2
      obtain ⟨ho, hj, hg⟩ := hI2
      have hpv := pickV_range times 4 (by decide)
      refine W_seq ?_
      refine W_seq ?_
      refine W_regionE (c := 16) (c' := 29) (by kernel_rfl) rfl ?_
      refine Runs_p rfl (Valid.movek (A := Is _) rfl rfl) rfl rfl ?_ -- law.go:25 move
      refine Runs_p rfl (Valid.movek (A := Is _) rfl rfl) rfl rfl ?_ -- law.go:25 move
      refine Runs_p rfl (Valid.call rfl (pick13_s _ _ (by omega) (by omega) (by omega) (by omega)) ⟨argle rfl, argle rfl, trivial⟩) rfl rfl ?_ -- law.go:25 call
      refine Runs_p rfl (Valid.lss rfl rfl rfl) rfl rfl ?_ -- law.go:25 binOp
      refine Runs_p rfl (Valid.movek (A := Is _) rfl rfl) rfl rfl ?_ -- law.go:25 move
      refine Runs_cnd rfl rfl (Grd.is rfl) [] (fun hg => trivial) (fun hg => Valid.movek (A := Is _) rfl rfl) (by rfl) rfl ?_
      refine Runs_cnd rfl rfl (Grd.is rfl) [(38, _)] (fun hg => ⟨cnd_at rfl (by first | exact hg | exact hg.1 | exact hg.1.1 | exact hg.1.1.1), trivial⟩) (fun hg => Valid.slen rfl Try.underlying9 rfl) (by rfl) rfl ?_
      refine Runs_cnd rfl rfl (Grd.is rfl) [] (fun hg => trivial) (fun hg => Valid.movek (A := Is _) rfl rfl) (by rfl) rfl ?_
      refine Runs_cnd rfl rfl (Grd.is rfl) [(40, _)] (fun hg => ⟨cnd_at rfl (by first | exact hg | exact hg.1 | exact hg.1.1 | exact hg.1.1.1), trivial⟩) (fun hg => Valid.slen rfl Try.underlying9 rfl) (by rfl) rfl ?_
      refine Runs_cnd rfl rfl (Grd.is rfl) [(39, _), (41, _)] (fun hg => ⟨cnd_at rfl (by first | exact hg | exact hg.1 | exact hg.1.1 | exact hg.1.1.1), cnd_at rfl (by first | exact hg | exact hg.1 | exact hg.1.1 | exact hg.1.1.1), trivial⟩) (fun hg => Valid.add rfl rfl rfl (room64 (by (try simp only [decide_eq_true_eq] at hg); first | omega | (simp only [Int.toNat_natCast, toNat_add, toNat_add1, List.length_append, List.length_cons, List.length_nil, List.length_replicate]; omega)) (by (try simp only [decide_eq_true_eq] at hg); first | omega | (simp only [Int.toNat_natCast, toNat_add, toNat_add1, List.length_append, List.length_cons, List.length_nil, List.length_replicate]; omega)))) (by rfl) rfl ?_
      refine Runs_cnd rfl rfl (Grd.is rfl) [] (fun hg => trivial) (fun hg => Valid.movek (A := Is _) rfl rfl) (by rfl) rfl ?_
      refine Runs_cnd rfl rfl (Grd.is rfl) [(42, _), (43, _)] (fun hg => ⟨cnd_at rfl (by first | exact hg | exact hg.1 | exact hg.1.1 | exact hg.1.1.1), cnd_at rfl (by first | exact hg | exact hg.1 | exact hg.1.1 | exact hg.1.1.1), trivial⟩) (fun hg => Valid.leq rfl rfl rfl) (by rfl) rfl ?_
      refine Runs_p rfl (Valid.pickand rfl rfl rfl (fun h => by first | exact h | exact ⟨hg, h⟩) rfl) rfl rfl ?_ -- law.go:25 pick
      refine Runs_nil ?_
      refine thenQ_n ?_
      refine W_cond _ rfl (fun hb2 => ?_) (fun hb2 => ?_)
      · try simp only [decide_eq_true_eq, Bool.and_eq_true] at hb2
        all_goals (
          refine W_skip ?_
          refine thenQ_n ?_
          refine W_seq ?_
          refine W_block ?_
          refine W_regionE (c := 29) (c' := 33) (by kernel_rfl) rfl ?_
          refine Runs_p rfl (Valid.movek (A := Is _) rfl rfl) rfl rfl ?_ -- law.go:26 move
          refine Runs_p rfl (Valid.movek (A := Is _) rfl rfl) rfl rfl ?_ -- law.go:26 move
          refine Runs_p rfl (Valid.cat rfl rfl rfl (by first | omega | (simp only [ByteArray.size_append, ByteArray.size_extract]; omega) | (simp only [maxLen]; omega))) rfl rfl ?_ -- law.go:26 binOp
          refine Runs_p rfl (Valid.assignk (A := Is _) rfl rfl) rfl rfl ?_ -- law.go:26 assign
          refine Runs_nil ?_
          refine blockQ_n ?_
          refine thenQ_n ?_
          refine W_regionE (c := 33) (c' := 36) (by kernel_rfl) rfl ?_
          refine Runs_p rfl (Valid.movek (A := Is _) rfl rfl) rfl rfl ?_ -- law.go:25 move
          refine Runs_p rfl (Valid.add rfl rfl rfl (room64 (by first | omega | (simp only [Int.toNat_natCast, toNat_add, toNat_add1, List.length_append, List.length_cons, List.length_nil, List.length_replicate]; omega)) (by first | omega | (simp only [Int.toNat_natCast, toNat_add, toNat_add1, List.length_append, List.length_cons, List.length_nil, List.length_replicate]; omega)))) rfl rfl ?_ -- law.go:25 binOp
          refine Runs_p rfl (Valid.assignk (A := Is _) rfl rfl) rfl rfl ?_ -- law.go:25 assign
          refine Runs_nil ?_
          refine LoopQ.next (⟨j + 1, out ++ oneT raw k⟩) [] (⟨by rw [ByteArray.size_append]; omega, by omega, by rw [← hg, go_1 (oneT raw k) out most ((pickV times 4).toNat - j) (by omega) (by omega)]; congr 1⟩) (by dsimp only; omega) ⟨⟨(leq_is rfl rfl (by first | rfl | (simp; done) | omega | (simp [toNat_add, toNat_add1, Nat.add_assoc]; done) | (simp [toNat_add, toNat_add1]; omega))), (leq_is rfl rfl (by first | rfl | (simp; done) | omega | (simp [toNat_add, toNat_add1, Nat.add_assoc]; done) | (simp [toNat_add, toNat_add1]; omega))), trivial⟩, ⟨(leq_is rfl rfl rfl), (leq_is rfl rfl rfl), (leq_is rfl rfl rfl), trivial⟩, trivial, trivial, rfl, ⟨supg rfl, supg rfl, trivial⟩, ⟨supg rfl, supg rfl, supg rfl, trivial⟩, trivial, trivial, rfl, rfl⟩
          done)
      · try simp only [decide_eq_false_iff_not, Bool.and_eq_false_iff] at hb2
        all_goals (
          refine W_exit ?_
          refine thenQ_e ?_
          refine loopQ_e ?_
          refine blockQ_x ?_
          refine thenQ_n ?_
          refine W_seq ?_
          refine W_regionE (c := 29) (c' := 31) (by kernel_rfl) rfl ?_
          refine Runs_p rfl (Valid.movek (A := Is _) rfl rfl) rfl rfl ?_ -- law.go:28 move
          refine Runs_p rfl (Valid.assignk (A := Is _) rfl rfl) rfl rfl ?_ -- law.go:28 assign
          refine Runs_nil ?_
          refine thenQ_n ?_
          refine W_ret ?_
          refine finQ_r ?_
          refine ResOk.one rfl (RVal.is rfl rfl (by rw [← hg]; first | rw [go_0 _ _ _ _ (by omega)] | rw [go_2 _ _ _ _ (by omega)] | (rcases Decidable.em ((pickV times 4).toNat - j = 0) with h | h <;> first | rw [go_0 _ _ _ _ h] | rw [go_2 _ _ _ _ (by omega)])))
          done)
      done)
end Vc
end Go.Proofs.Ytfelmdagolnpeaa
