/-
  WALKS of stage 7: the reference of Unmap is the program's.
-/
import Derived.Test.YtlcephckjhiggaaRows
import Derived.Test.YtlcephckjhiggaaAbt
import Derived.Test.YtlcephckjhiggaaBb
import Derived.Test.YtlcephckjhiggaaCa
import Derived.Test.YtlcephckjhiggaaGa
import Derived.Test.YtlcephckjhiggaaGb
import Derived.Test.YtlcephckjhiggaaGc
import Derived.Test.YtlcephckjhiggaaGd
import Derived.Test.YtlcephckjhiggaaGe
import Derived.Test.YtlcephckjhiggaaGf
import Derived.Test.YtlcephckjhiggaaGg
namespace Go.Proofs.Ytlcephckjhiggaa
open Go.RowKit
namespace Gh
open Ab Bm Bt Bb Ca Ga Gb Gc Gd Ge Gf Gg
theorem ti5 : TI Try.prog 5 1 1 := .mk' (z := (Value.int .u8 0)) (by kernel_rfl) rfl
theorem tb_v (x k : Nat) (hk : k < 16) : ((x : Int).fdiv (2 ^ min (15 - (k : Int)).toNat IntKind.u64.bits)) % 2 = ((x / 2 ^ (15 - k) % 2 : Nat) : Int) := by
  rw [show IntKind.u64.bits = 64 from rfl, show min (15 - (k : Int)).toNat 64 = 15 - k by omega, fdiv_n]; rfl
theorem tb_y {x k : Nat} (hk : k < 16) (h : ¬ ((x : Int).fdiv (2 ^ min (15 - (k : Int)).toNat IntKind.u64.bits)) % 2 = 0) : x.testBit (15 - (k : Int).toNat) = true := by
  rw [tb_v x k hk] at h
  rw [Int.toNat_natCast, Nat.testBit_eq_decide_div_mod_eq]
  exact decide_eq_true (by omega)
theorem tb_n {x k : Nat} (hk : k < 16) (h : ¬ ((x : Int).fdiv (2 ^ min (15 - (k : Int)).toNat IntKind.u64.bits)) % 2 = 1) : x.testBit (15 - (k : Int).toNat) = false := by
  rw [tb_v x k hk] at h
  rw [Int.toNat_natCast, Nat.testBit_eq_decide_div_mod_eq]
  exact decide_eq_false (by omega)
theorem gv2 {s : ByteArray} {a : Int} (h0 : 0 ≤ a) (h : ¬ (getV s a 16).2 = 0) : (getV s a 16).2 = 2 ∧ ¬ a + 16 ≤ 8 * s.size := by
  unfold getV at h ⊢
  have h1 : ¬ (decide ((0 : Int) ≤ 16) && decide ((16 : Int) ≤ 64) && decide (0 ≤ a)) = false := by rw [decide_eq_true h0]; decide
  rw [if_neg h1] at h ⊢
  by_cases h2 : a + 16 ≤ 8 * s.size
  · rw [if_pos h2] at h; exact absurd rfl h
  · rw [if_neg h2]; exact ⟨rfl, h2⟩
theorem uN_mono (f : Nat) (a : Int) (k : Nat) : ∀ d, uN f a k ≤ uN f a (k + d)
  | 0 => Int.le_refl _
  | d + 1 => by
    have := uN_mono f a k d
    rw [← Nat.add_assoc, uN]; split <;> omega
theorem um_short {s : ByteArray} {a : Int} {f k : Nat} (h0 : (getV s a 16).2 = 0) (hf : (getV s a 16).1 = (f : Int)) (hfl : f < 65536) (hk : k < 16) (hb : f.testBit (15 - (k : Int).toNat) = true) (hp : ¬ uN f (a + 16) k + 16 ≤ 8 * s.size) : unmapV s a = (⟨#[]⟩, 0, 2) := by
  have h1 := uN_mono f (a + 16) (k + 1) (15 - k)
  rw [← uN_y hb, show k + 1 + (15 - k) = 16 by omega, uN_cnt f (a + 16) 16, cnt_ones f hfl] at h1
  rw [unmapV, if_pos h0, hf, Int.toNat_natCast, if_pos (by omega)]
theorem um_bad {s : ByteArray} {a : Int} {f : Nat} (h0 : (getV s a 16).2 = 0) (hf : (getV s a 16).1 = (f : Int)) (hfl : f < 65536) (hp : uN f (a + 16) 16 ≤ 8 * s.size) (hb : (f : Int) = 0 ∨ ¬ uE s f (a + 16) 16 = 0) : unmapV s a = (⟨#[]⟩, 0, 3) := by
  rw [uN_cnt f (a + 16) 16, cnt_ones f hfl] at hp
  rw [unmapV, if_pos h0, hf, Int.toNat_natCast, if_neg (by omega)]
  by_cases e : (f : Int) = 0
  · rw [if_pos e]
  · rw [if_neg e, if_neg (hb.resolve_left e)]
theorem um_ok {s : ByteArray} {a : Int} {f : Nat} (h0 : (getV s a 16).2 = 0) (hf : (getV s a 16).1 = (f : Int)) (hfl : f < 65536) (hp : uN f (a + 16) 16 ≤ 8 * s.size) (hb : ¬ ((f : Int) = 0 ∨ ¬ uE s f (a + 16) 16 = 0)) : unmapV s a = (⟨(uL s f (a + 16) 16).toArray⟩, uN f (a + 16) 16, 0) := by
  have h1 := hp
  rw [uN_cnt f (a + 16) 16, cnt_ones f hfl] at h1
  rw [unmapV, if_pos h0, hf, Int.toNat_natCast, if_neg (by omega), if_neg (fun e => hb (.inl e)), if_pos (Classical.byContradiction fun e => hb (.inr e))]
def badB (s : ByteArray) (f : Nat) (a : Int) (k : Nat) : Bool := decide ((f : Int) = 0 ∨ ¬ uE s f a k = 0)
theorem bad_0 (s : ByteArray) (f : Nat) (a : Int) : decide ((f : Int) = 0) = badB s f a 0 := by
  unfold badB; rw [uE_0]; simp
theorem bad_n {s : ByteArray} {f k : Nat} {a : Int} (h : f.testBit (15 - (k : Int).toNat) = false) : badB s f a k = badB s f a (k + 1) := by
  unfold badB
  by_cases e : uE s f a k = 0
  · rw [uE_n e h, e]
  · rw [uE, if_neg e]
theorem bad_y {s : ByteArray} {f k v : Nat} {a : Int} (h : f.testBit (15 - (k : Int).toNat) = true) (hv : (getV s (uN f a k) 16).1 = (v : Int)) : (badB s f a k || decide ((v : Int) = 0)) = badB s f a (k + 1) := by
  unfold badB
  by_cases e : uE s f a k = 0
  · by_cases e2 : (v : Int) = 0
    · rw [uE_3 e hv h e2, decide_eq_true e2, decide_eq_true (show (f : Int) = 0 ∨ ¬ (3 : Int) = 0 by omega)]; simp
    · rw [uE_y e hv e2, e, decide_eq_false e2, Bool.or_false]
  · rw [uE, if_neg e, decide_eq_true (.inr e)]; simp

set_option maxRecDepth 100000 in
set_option maxHeartbeats 1000000 in
theorem runmap_s (s : ByteArray) (a : Int) (hs : s.size ≤ 1000000000000) (ha : a ≤ 9223372036854775807) :
    FPure Try.prog 15 [Is (.string s), Is (.int .i64 a)] (Tup [Is (.string (unmapV s a).1), Is (.int .i64 (unmapV s a).2.1), Is (.int .i64 (unmapV s a).2.2)]) := by
  refine FPure.of Try.func15 Try.ntmps15 rfl (by kernel_rfl) rfl rfl rfl ?_
  refine W_seq ?_
  refine W_regionE (c := 1) (c' := 4) (by kernel_rfl) rfl ?_
  refine Runs_p rfl (Valid.assignk (A := Is _) rfl rfl) rfl rfl ?_ -- ref.go:62 assign
  refine Runs_p rfl (Valid.assignk (A := Is _) rfl rfl) rfl rfl ?_ -- ref.go:62 assign
  refine Runs_p rfl (Valid.assignk (A := Is _) rfl rfl) rfl rfl ?_ -- ref.go:62 assign
  refine Runs_nil ?_
  refine thenQ_n ?_
  refine W_seq ?_
  refine W_regionE (c := 4) (c' := 12) (by kernel_rfl) rfl ?_
  refine Runs_p rfl (Valid.movek (A := Is _) rfl rfl) rfl rfl ?_ -- ref.go:63 move
  refine Runs_p rfl (Valid.movek (A := Is _) rfl rfl) rfl rfl ?_ -- ref.go:63 move
  refine Runs_p rfl (Valid.call rfl (rget_s _ _ _ (by omega) (by omega)) ⟨argle rfl, argle rfl, argle rfl, trivial⟩) rfl rfl ?_ -- ref.go:63 call
  refine Runs_p rfl (Valid.movek (A := Tup [Is _, Is _]) rfl rfl) rfl rfl ?_ -- ref.go:63 move
  refine Runs_p rfl (Valid.extract _ rfl rfl rfl) rfl rfl ?_ -- ref.go:63 extract
  refine Runs_p rfl (Valid.extract _ rfl rfl rfl) rfl rfl ?_ -- ref.go:63 extract
  refine Runs_p rfl (Valid.assignk (A := Is _) rfl rfl) rfl rfl ?_ -- ref.go:63 assign
  refine Runs_p rfl (Valid.assignk (A := Is _) rfl rfl) rfl rfl ?_ -- ref.go:63 assign
  refine Runs_nil ?_
  refine thenQ_n ?_
  refine W_seq ?_
  refine W_seq ?_
  refine W_regionE (c := 12) (c' := 14) (by kernel_rfl) rfl ?_
  refine Runs_p rfl (Valid.movek (A := Is _) rfl rfl) rfl rfl ?_ -- ref.go:64 move
  refine Runs_p rfl (Valid.neq rfl rfl rfl) rfl rfl ?_ -- ref.go:64 binOp
  refine Runs_nil ?_
  refine thenQ_n ?_
  refine W_cond _ rfl (fun hb1 => ?_) (fun hb1 => ?_)
  · try simp only [decide_eq_true_eq, ne_eq] at hb1
    all_goals (
      refine W_seq ?_
      refine W_regionE (c := 14) (c' := 18) (by kernel_rfl) rfl ?_
      refine Runs_p rfl (Valid.movek (A := Is _) rfl rfl) rfl rfl ?_ -- ref.go:65 move
      refine Runs_p rfl (Valid.assignk (A := Is _) rfl rfl) rfl rfl ?_ -- ref.go:65 assign
      refine Runs_p rfl (Valid.assignk (A := Is _) rfl rfl) rfl rfl ?_ -- ref.go:65 assign
      refine Runs_p rfl (Valid.assignk (A := Is _) rfl rfl) rfl rfl ?_ -- ref.go:65 assign
      refine Runs_nil ?_
      refine thenQ_n ?_
      refine W_ret ?_
      refine thenQ_r ?_
      refine finQ_r ?_
      refine ResOk.three rfl (RVal.is rfl rfl (by first | (rw [unmapV, if_neg hb1]; done) | (rw [um_short h0 hf hfl (by omega) hbit hg2.2]; done) | (rw [um_short h0 hf hfl (by omega) hbit hg2.2]; rfl) | (rw [um_short h0 hf hfl (by omega) hbit hg2.2, hg2.1]; done) | (rw [um_bad h0 hf hfl (by omega) hbd]; done) | (rw [um_bad h0 hf hfl (by omega) hbd]; rfl) | (rw [um_ok h0 hf hfl (by omega) hbd]; done) | (rw [um_ok h0 hf hfl (by omega) hbd]; rfl))) (RVal.is rfl rfl (by first | (rw [unmapV, if_neg hb1]; done) | (rw [um_short h0 hf hfl (by omega) hbit hg2.2]; done) | (rw [um_short h0 hf hfl (by omega) hbit hg2.2]; rfl) | (rw [um_short h0 hf hfl (by omega) hbit hg2.2, hg2.1]; done) | (rw [um_bad h0 hf hfl (by omega) hbd]; done) | (rw [um_bad h0 hf hfl (by omega) hbd]; rfl) | (rw [um_ok h0 hf hfl (by omega) hbd]; done) | (rw [um_ok h0 hf hfl (by omega) hbd]; rfl))) (RVal.is rfl rfl (by first | (rw [unmapV, if_neg hb1]; done) | (rw [um_short h0 hf hfl (by omega) hbit hg2.2]; done) | (rw [um_short h0 hf hfl (by omega) hbit hg2.2]; rfl) | (rw [um_short h0 hf hfl (by omega) hbit hg2.2, hg2.1]; done) | (rw [um_bad h0 hf hfl (by omega) hbd]; done) | (rw [um_bad h0 hf hfl (by omega) hbd]; rfl) | (rw [um_ok h0 hf hfl (by omega) hbd]; done) | (rw [um_ok h0 hf hfl (by omega) hbd]; rfl)))
      done)
  · try simp only [decide_eq_false_iff_not, ne_eq] at hb1
    all_goals (
      refine W_skip ?_
      refine thenQ_n ?_
      refine W_seq ?_
      obtain ⟨f, hf, hfl⟩ := getV_n s a
      have h0 : (getV s a 16).2 = 0 := by simpa using hb1
      have hin := getV_in h0
      rw [hf]
      refine W_regionE (c := 14) (c' := 17) (by kernel_rfl) rfl ?_
      refine Runs_p rfl (Valid.movek (A := Is _) rfl rfl) rfl rfl ?_ -- ref.go:67 move
      refine Runs_p rfl (Valid.add rfl rfl rfl (room64 (by first | omega | (simp only [Int.toNat_natCast, toNat_add, toNat_add1, List.length_append, List.length_cons, List.length_nil, List.length_replicate]; omega)) (by first | omega | (simp only [Int.toNat_natCast, toNat_add, toNat_add1, List.length_append, List.length_cons, List.length_nil, List.length_replicate]; omega)))) rfl rfl ?_ -- ref.go:67 binOp
      refine Runs_p rfl (Valid.assignk (A := Is _) rfl rfl) rfl rfl ?_ -- ref.go:67 assign
      refine Runs_nil ?_
      refine thenQ_n ?_
      refine W_seq ?_
      refine W_regionE (c := 17) (c' := 18) (by kernel_rfl) rfl ?_
      refine Runs_p rfl (Valid.assignk (A := Is (.slice none 0 0)) rfl rfl) rfl rfl ?_ -- ref.go:68 assign
      refine Runs_nil ?_
      refine thenQ_n ?_
      refine W_seq ?_
      refine W_regionE (c := 18) (c' := 21) (by kernel_rfl) rfl ?_
      refine Runs_p rfl (Valid.movek (A := Is _) rfl rfl) rfl rfl ?_ -- ref.go:69 move
      refine Runs_p rfl (Valid.eql rfl rfl rfl) rfl rfl ?_ -- ref.go:69 binOp
      refine Runs_p rfl (Valid.assignk (A := Is _) rfl rfl) rfl rfl ?_ -- ref.go:69 assign
      refine Runs_nil ?_
      refine thenQ_n ?_
      refine W_seq ?_
      refine W_seq ?_
      refine W_regionE (c := 21) (c' := 22) (by kernel_rfl) rfl ?_
      refine Runs_p rfl (Valid.assignk (A := Is _) rfl rfl) rfl rfl ?_ -- ref.go:70 assign
      refine Runs_nil ?_
      refine thenQ_n ?_
      refine W_block ?_
      refine W.ent ?_ (Ent.ownnil 10 5 1 rfl)
      refine W_loopx (G := Nat) (fun (k : Nat) => k ≤ 16 ∧ uN f (a + 16) k ≤ 8 * s.size) [(0, Is _), (7, Is _)] (fun (k : Nat) => [(12, Is (.int .i64 (k : Int))), (9, Is (.int .i64 (uN f (a + 16) k))), (11, Is (.bool (badB s f (a + 16) k))), (10, Own 176 1 (uL s f (a + 16) k).length ((uL s f (a + 16) k).map B))]) [] (fun (k : Nat) => [(176, .row 5 1 (uL s f (a + 16) k).length ((uL s f (a + 16) k).map B))]) 23 (fun (k : Nat) => 16 - k) (0) [] (⟨by omega, by rw [uN_0]; omega⟩) ⟨⟨(leq_is rfl rfl (by first | rfl | (rw [uN_0]) | (rw [uL_0]; rfl) | exact congrArg Value.bool (bad_0 _ _ _))), (leq_is rfl rfl (by first | rfl | (rw [uN_0]) | (rw [uL_0]; rfl) | exact congrArg Value.bool (bad_0 _ _ _))), (leq_is rfl rfl (by first | rfl | (rw [uN_0]) | (rw [uL_0]; rfl) | exact congrArg Value.bool (bad_0 _ _ _))), (leq_own rfl rfl rfl (by first | rfl | (rw [uN_0]) | (rw [uL_0]; rfl) | exact congrArg Value.bool (bad_0 _ _ _)) (by first | rfl | (rw [uN_0]) | (rw [uL_0]; rfl) | exact congrArg Value.bool (bad_0 _ _ _))), trivial⟩, ⟨(leq_is rfl rfl rfl), (leq_is rfl rfl rfl), trivial⟩, ⟨hp_row rfl (by first | rfl | (rw [uN_0]) | (rw [uL_0]; rfl) | exact congrArg Value.bool (bad_0 _ _ _)) (by first | rfl | (rw [uN_0]) | (rw [uL_0]; rfl) | exact congrArg Value.bool (bad_0 _ _ _)), trivial⟩, trivial, rfl, ⟨supg rfl, supg rfl, supg rfl, supg rfl, trivial⟩, ⟨supg rfl, supg rfl, trivial⟩, ⟨suph rfl rfl, trivial⟩, trivial, rfl, rfl⟩ ?_
      intro k hI1
      obtain ⟨hk1, hk2⟩ := hI1
      have hnl := uN_le f (a + 16) k
      have hul := uL_le s f (a + 16) k
      refine W_seq ?_
      refine W_seq ?_
      refine W_regionE (c := 23) (c' := 25) (by kernel_rfl) rfl ?_
      refine Runs_p rfl (Valid.movek (A := Is _) rfl rfl) rfl rfl ?_ -- ref.go:70 move
      refine Runs_p rfl (Valid.lss rfl rfl rfl) rfl rfl ?_ -- ref.go:70 binOp
      refine Runs_nil ?_
      refine thenQ_n ?_
      refine W_cond _ rfl (fun hb2 => ?_) (fun hb2 => ?_)
      · try simp only [decide_eq_true_eq] at hb2
        all_goals (
          refine W_skip ?_
          refine thenQ_n ?_
          refine W_seq ?_
          refine W_block ?_
          refine W_seq ?_
          refine W_seq ?_
          refine W_regionE (c := 25) (c' := 31) (by kernel_rfl) rfl ?_
          refine Runs_p rfl (Valid.movek (A := Is _) rfl rfl) rfl rfl ?_ -- ref.go:71 move
          refine Runs_p rfl (Valid.movek (A := Is _) rfl rfl) rfl rfl ?_ -- ref.go:71 move
          refine Runs_p rfl (Valid.sub rfl rfl rfl (room64 (by first | omega | (simp only [Int.toNat_natCast, toNat_add, toNat_add1, List.length_append, List.length_cons, List.length_nil, List.length_replicate]; omega)) (by first | omega | (simp only [Int.toNat_natCast, toNat_add, toNat_add1, List.length_append, List.length_cons, List.length_nil, List.length_replicate]; omega)))) rfl rfl ?_ -- ref.go:71 binOp
          refine Runs_p rfl (Valid.shrw rfl rfl rfl (by first | omega | (simp only [Int.toNat_natCast, toNat_add, toNat_add1, List.length_append, List.length_cons, List.length_nil, List.length_replicate]; omega))) rfl rfl ?_ -- ref.go:71 binOp
          refine Runs_p rfl (Valid.rem rfl rfl rfl (by first | omega | exact Int.fdiv_nonneg (by omega) (Int.le_of_lt (Int.pow_pos (by omega)))) (by first | omega | exact Int.fdiv_nonneg (by omega) (Int.le_of_lt (Int.pow_pos (by omega))))) rfl rfl ?_ -- ref.go:71 binOp
          refine Runs_p rfl (Valid.eql rfl rfl rfl) rfl rfl ?_ -- ref.go:71 binOp
          refine Runs_nil ?_
          refine thenQ_n ?_
          refine W_cond _ rfl (fun hb3 => ?_) (fun hb3 => ?_)
          · try simp only [decide_eq_true_eq] at hb3
            all_goals (
              have hbit : f.testBit (15 - (k : Int).toNat) = false := tb_n (by omega) (by omega)
              refine W_exit ?_
              refine thenQ_e ?_
              refine blockQ_x ?_
              refine thenQ_n ?_
              refine W_regionE (c := 31) (c' := 34) (by kernel_rfl) rfl ?_
              refine Runs_p rfl (Valid.movek (A := Is _) rfl rfl) rfl rfl ?_ -- ref.go:70 move
              refine Runs_p rfl (Valid.add rfl rfl rfl (room64 (by first | omega | (simp only [Int.toNat_natCast, toNat_add, toNat_add1, List.length_append, List.length_cons, List.length_nil, List.length_replicate]; omega)) (by first | omega | (simp only [Int.toNat_natCast, toNat_add, toNat_add1, List.length_append, List.length_cons, List.length_nil, List.length_replicate]; omega)))) rfl rfl ?_ -- ref.go:70 binOp
              refine Runs_p rfl (Valid.assignk (A := Is _) rfl rfl) rfl rfl ?_ -- ref.go:70 assign
              refine Runs_nil ?_
              refine LoopQ.next (k + 1) [] (⟨by omega, by first | (rw [← uN_n hbit]; omega) | (rw [← uN_y hbit]; omega)⟩) (by omega) ⟨⟨(leq_is rfl rfl (by first | rfl | exact congrArg (Value.int .i64) (by omega) | exact congrArg (Value.int .i64) (uN_y hbit) | exact congrArg (Value.int .i64) (uN_n hbit) | exact congrArg Value.bool (bad_y hbit hv) | exact congrArg Value.bool (bad_n hbit) | (rw [← uL_y hbit hv, show i = 16 by omega]) | (rw [← uL_n hbit]))), (leq_is rfl rfl (by first | rfl | exact congrArg (Value.int .i64) (by omega) | exact congrArg (Value.int .i64) (uN_y hbit) | exact congrArg (Value.int .i64) (uN_n hbit) | exact congrArg Value.bool (bad_y hbit hv) | exact congrArg Value.bool (bad_n hbit) | (rw [← uL_y hbit hv, show i = 16 by omega]) | (rw [← uL_n hbit]))), (leq_is rfl rfl (by first | rfl | exact congrArg (Value.int .i64) (by omega) | exact congrArg (Value.int .i64) (uN_y hbit) | exact congrArg (Value.int .i64) (uN_n hbit) | exact congrArg Value.bool (bad_y hbit hv) | exact congrArg Value.bool (bad_n hbit) | (rw [← uL_y hbit hv, show i = 16 by omega]) | (rw [← uL_n hbit]))), (leq_own rfl rfl rfl (by first | rfl | exact congrArg (Value.int .i64) (by omega) | exact congrArg (Value.int .i64) (uN_y hbit) | exact congrArg (Value.int .i64) (uN_n hbit) | exact congrArg Value.bool (bad_y hbit hv) | exact congrArg Value.bool (bad_n hbit) | (rw [← uL_y hbit hv, show i = 16 by omega]) | (rw [← uL_n hbit])) (by first | rfl | exact congrArg (Value.int .i64) (by omega) | exact congrArg (Value.int .i64) (uN_y hbit) | exact congrArg (Value.int .i64) (uN_n hbit) | exact congrArg Value.bool (bad_y hbit hv) | exact congrArg Value.bool (bad_n hbit) | (rw [← uL_y hbit hv, show i = 16 by omega]) | (rw [← uL_n hbit]))), trivial⟩, ⟨(leq_is rfl rfl rfl), (leq_is rfl rfl rfl), trivial⟩, ⟨hp_row rfl (by first | rfl | exact congrArg (Value.int .i64) (by omega) | exact congrArg (Value.int .i64) (uN_y hbit) | exact congrArg (Value.int .i64) (uN_n hbit) | exact congrArg Value.bool (bad_y hbit hv) | exact congrArg Value.bool (bad_n hbit) | (rw [← uL_y hbit hv, show i = 16 by omega]) | (rw [← uL_n hbit])) (by first | rfl | exact congrArg (Value.int .i64) (by omega) | exact congrArg (Value.int .i64) (uN_y hbit) | exact congrArg (Value.int .i64) (uN_n hbit) | exact congrArg Value.bool (bad_y hbit hv) | exact congrArg Value.bool (bad_n hbit) | (rw [← uL_y hbit hv, show i = 16 by omega]) | (rw [← uL_n hbit])), trivial⟩, trivial, rfl, ⟨supg rfl, supg rfl, supg rfl, supg rfl, trivial⟩, ⟨supg rfl, supg rfl, trivial⟩, ⟨suph rfl rfl, trivial⟩, trivial, rfl, rfl⟩
              done)
          · try simp only [decide_eq_false_iff_not] at hb3
            all_goals (
              have hbit : f.testBit (15 - (k : Int).toNat) = true := tb_y (by omega) hb3
              refine W_skip ?_
              refine thenQ_n ?_
              refine W_seq ?_
              refine W_regionE (c := 31) (c' := 39) (by kernel_rfl) rfl ?_
              refine Runs_p rfl (Valid.movek (A := Is _) rfl rfl) rfl rfl ?_ -- ref.go:74 move
              refine Runs_p rfl (Valid.movek (A := Is _) rfl rfl) rfl rfl ?_ -- ref.go:74 move
              refine Runs_p rfl (Valid.call rfl (rget_s _ _ _ (by omega) (by omega)) ⟨argle rfl, argle rfl, argle rfl, trivial⟩) rfl rfl ?_ -- ref.go:74 call
              refine Runs_p rfl (Valid.movek (A := Tup [Is _, Is _]) rfl rfl) rfl rfl ?_ -- ref.go:74 move
              refine Runs_p rfl (Valid.extract _ rfl rfl rfl) rfl rfl ?_ -- ref.go:74 extract
              refine Runs_p rfl (Valid.extract _ rfl rfl rfl) rfl rfl ?_ -- ref.go:74 extract
              refine Runs_p rfl (Valid.assignk (A := Is _) rfl rfl) rfl rfl ?_ -- ref.go:74 assign
              refine Runs_p rfl (Valid.assignk (A := Is _) rfl rfl) rfl rfl ?_ -- ref.go:74 assign
              refine Runs_nil ?_
              refine thenQ_n ?_
              refine W_seq ?_
              refine W_seq ?_
              obtain ⟨v, hv, hvl⟩ := getV_n s (uN f (a + 16) k)
              have hg2 := fun h => gv2 (s := s) (a := uN f (a + 16) k) (by omega) h
              rw [hv]
              refine W_regionE (c := 39) (c' := 41) (by kernel_rfl) rfl ?_
              refine Runs_p rfl (Valid.movek (A := Is _) rfl rfl) rfl rfl ?_ -- ref.go:75 move
              refine Runs_p rfl (Valid.neq rfl rfl rfl) rfl rfl ?_ -- ref.go:75 binOp
              refine Runs_nil ?_
              refine thenQ_n ?_
              refine W_cond _ rfl (fun hb4 => ?_) (fun hb4 => ?_)
              · try simp only [decide_eq_true_eq, ne_eq] at hb4
                all_goals (
                  replace hg2 := hg2 hb4
                  refine W_seq ?_
                  refine W_regionE (c := 41) (c' := 45) (by kernel_rfl) rfl ?_
                  refine Runs_p rfl (Valid.movek (A := Is _) rfl rfl) rfl rfl ?_ -- ref.go:76 move
                  refine Runs_p rfl (Valid.assignk (A := Is _) rfl rfl) rfl rfl ?_ -- ref.go:76 assign
                  refine Runs_p rfl (Valid.assignk (A := Is _) rfl rfl) rfl rfl ?_ -- ref.go:76 assign
                  refine Runs_p rfl (Valid.assignk (A := Is _) rfl rfl) rfl rfl ?_ -- ref.go:76 assign
                  refine Runs_nil ?_
                  refine thenQ_n ?_
                  refine W_ret ?_
                  refine thenQ_r ?_
                  refine blockQ_r ?_
                  refine thenQ_r ?_
                  refine loopQ_r ?_
                  refine blockQ_r ?_
                  refine thenQ_r ?_
                  refine finQ_r ?_
                  refine ResOk.three rfl (RVal.is rfl rfl (by first | (rw [unmapV, if_neg hb1]; done) | (rw [um_short h0 hf hfl (by omega) hbit hg2.2]; done) | (rw [um_short h0 hf hfl (by omega) hbit hg2.2]; rfl) | (rw [um_short h0 hf hfl (by omega) hbit hg2.2, hg2.1]; done) | (rw [um_bad h0 hf hfl (by omega) hbd]; done) | (rw [um_bad h0 hf hfl (by omega) hbd]; rfl) | (rw [um_ok h0 hf hfl (by omega) hbd]; done) | (rw [um_ok h0 hf hfl (by omega) hbd]; rfl))) (RVal.is rfl rfl (by first | (rw [unmapV, if_neg hb1]; done) | (rw [um_short h0 hf hfl (by omega) hbit hg2.2]; done) | (rw [um_short h0 hf hfl (by omega) hbit hg2.2]; rfl) | (rw [um_short h0 hf hfl (by omega) hbit hg2.2, hg2.1]; done) | (rw [um_bad h0 hf hfl (by omega) hbd]; done) | (rw [um_bad h0 hf hfl (by omega) hbd]; rfl) | (rw [um_ok h0 hf hfl (by omega) hbd]; done) | (rw [um_ok h0 hf hfl (by omega) hbd]; rfl))) (RVal.is rfl rfl (by first | (rw [unmapV, if_neg hb1]; done) | (rw [um_short h0 hf hfl (by omega) hbit hg2.2]; done) | (rw [um_short h0 hf hfl (by omega) hbit hg2.2]; rfl) | (rw [um_short h0 hf hfl (by omega) hbit hg2.2, hg2.1]; done) | (rw [um_bad h0 hf hfl (by omega) hbd]; done) | (rw [um_bad h0 hf hfl (by omega) hbd]; rfl) | (rw [um_ok h0 hf hfl (by omega) hbd]; done) | (rw [um_ok h0 hf hfl (by omega) hbd]; rfl)))
                  done)
              · try simp only [decide_eq_false_iff_not, ne_eq] at hb4
                all_goals (
                  refine W_skip ?_
                  refine thenQ_n ?_
                  refine W_seq ?_
                  have hg0 : (getV s (uN f (a + 16) k) 16).2 = 0 := by simpa using hb4
                  have hgi := getV_in hg0
                  refine W_regionE (c := 41) (c' := 44) (by kernel_rfl) rfl ?_
                  refine Runs_p rfl (Valid.movek (A := Is _) rfl rfl) rfl rfl ?_ -- ref.go:78 move
                  refine Runs_p rfl (Valid.add rfl rfl rfl (room64 (by first | omega | (simp only [Int.toNat_natCast, toNat_add, toNat_add1, List.length_append, List.length_cons, List.length_nil, List.length_replicate]; omega)) (by first | omega | (simp only [Int.toNat_natCast, toNat_add, toNat_add1, List.length_append, List.length_cons, List.length_nil, List.length_replicate]; omega)))) rfl rfl ?_ -- ref.go:78 binOp
                  refine Runs_p rfl (Valid.assignk (A := Is _) rfl rfl) rfl rfl ?_ -- ref.go:78 assign
                  refine Runs_nil ?_
                  refine thenQ_n ?_
                  refine W_seq ?_
                  refine W_regionE (c := 44) (c' := 50) (by kernel_rfl) rfl ?_
                  refine Runs_p rfl (Valid.movek (A := Is _) rfl rfl) rfl rfl ?_ -- ref.go:79 move
                  refine Runs_p rfl (Valid.movek (A := Is _) rfl rfl) rfl rfl ?_ -- ref.go:79 move
                  refine Runs_cnd rfl rfl (Grd.is rfl) [] (fun hg => trivial) (fun hg => Valid.movek (A := Is _) rfl rfl) (by rfl) rfl ?_
                  refine Runs_cnd rfl rfl (Grd.is rfl) [(52, _)] (fun hg => ⟨cnd_at rfl (by first | exact hg | exact hg.1 | exact hg.1.1 | exact hg.1.1.1), trivial⟩) (fun hg => Valid.eql rfl rfl rfl) (by rfl) rfl ?_
                  refine Runs_p rfl (Valid.pickor rfl rfl rfl rfl (fun h => by first | exact h | exact ⟨hg, h⟩)) rfl rfl ?_ -- ref.go:79 pick
                  refine Runs_p rfl (Valid.assignk (A := Is _) rfl rfl) rfl rfl ?_ -- ref.go:79 assign
                  refine Runs_nil ?_
                  refine thenQ_n ?_
                  refine W_seq ?_
                  refine W_regionE (c := 50) (c' := 51) (by kernel_rfl) rfl ?_
                  refine Runs_p rfl (Valid.assignk (A := Is _) rfl rfl) rfl rfl ?_ -- ref.go:80 assign
                  refine Runs_nil ?_
                  refine thenQ_n ?_
                  refine W_block ?_
                  refine W_loopx (G := Nat) (fun (i : Nat) => i ≤ 16) [(0, Is _), (7, Is _), (9, Is _), (11, Is _), (12, Is _), (13, Is _)] (fun (i : Nat) => [(15, Is (.int .i64 (i : Int))), (10, Own 176 1 (uL s f (a + 16) k ++ rL v k i).length ((uL s f (a + 16) k ++ rL v k i).map B))]) [] (fun (i : Nat) => [(176, .row 5 1 (uL s f (a + 16) k ++ rL v k i).length ((uL s f (a + 16) k ++ rL v k i).map B))]) 51 (fun (i : Nat) => 16 - i) (0) [] (by first | trivial | omega | (simp; omega)) ⟨⟨(leq_is rfl rfl (by first | rfl | (rw [← rL_z]))), (leq_own rfl rfl rfl (by first | rfl | (rw [← rL_z])) (by first | rfl | (rw [← rL_z]))), trivial⟩, ⟨(leq_is rfl rfl rfl), (leq_is rfl rfl rfl), (leq_is rfl rfl rfl), (leq_is rfl rfl rfl), (leq_is rfl rfl rfl), (leq_is rfl rfl rfl), trivial⟩, ⟨hp_row rfl (by first | rfl | (rw [← rL_z])) (by first | rfl | (rw [← rL_z])), trivial⟩, trivial, rfl, ⟨supg rfl, supg rfl, trivial⟩, ⟨supg rfl, supg rfl, supg rfl, supg rfl, supg rfl, supg rfl, trivial⟩, ⟨suph rfl rfl, trivial⟩, trivial, rfl, rfl⟩ ?_
                  intro i hI2
                  have hrl := rL_le v k i
                  have hll : (uL s f (a + 16) k ++ rL v k i).length = (uL s f (a + 16) k).length + (rL v k i).length := List.length_append
                  refine W_seq ?_
                  refine W_seq ?_
                  refine W_regionE (c := 51) (c' := 53) (by kernel_rfl) rfl ?_
                  refine Runs_p rfl (Valid.movek (A := Is _) rfl rfl) rfl rfl ?_ -- ref.go:80 move
                  refine Runs_p rfl (Valid.lss rfl rfl rfl) rfl rfl ?_ -- ref.go:80 binOp
                  refine Runs_nil ?_
                  refine thenQ_n ?_
                  refine W_cond _ rfl (fun hb5 => ?_) (fun hb5 => ?_)
                  · try simp only [decide_eq_true_eq] at hb5
                    all_goals (
                      refine W_skip ?_
                      refine thenQ_n ?_
                      refine W_seq ?_
                      refine W_block ?_
                      refine W_seq ?_
                      refine W_regionE (c := 53) (c' := 59) (by kernel_rfl) rfl ?_
                      refine Runs_p rfl (Valid.movek (A := Is _) rfl rfl) rfl rfl ?_ -- ref.go:81 move
                      refine Runs_p rfl (Valid.movek (A := Is _) rfl rfl) rfl rfl ?_ -- ref.go:81 move
                      refine Runs_p rfl (Valid.sub rfl rfl rfl (room64 (by first | omega | (simp only [Int.toNat_natCast, toNat_add, toNat_add1, List.length_append, List.length_cons, List.length_nil, List.length_replicate]; omega)) (by first | omega | (simp only [Int.toNat_natCast, toNat_add, toNat_add1, List.length_append, List.length_cons, List.length_nil, List.length_replicate]; omega)))) rfl rfl ?_ -- ref.go:81 binOp
                      refine Runs_p rfl (Valid.shrw rfl rfl rfl (by first | omega | (simp only [Int.toNat_natCast, toNat_add, toNat_add1, List.length_append, List.length_cons, List.length_nil, List.length_replicate]; omega))) rfl rfl ?_ -- ref.go:81 binOp
                      refine Runs_p rfl (Valid.rem rfl rfl rfl (by first | omega | exact Int.fdiv_nonneg (by omega) (Int.le_of_lt (Int.pow_pos (by omega)))) (by first | omega | exact Int.fdiv_nonneg (by omega) (Int.le_of_lt (Int.pow_pos (by omega))))) rfl rfl ?_ -- ref.go:81 binOp
                      refine Runs_p rfl (Valid.eql rfl rfl rfl) rfl rfl ?_ -- ref.go:81 binOp
                      refine Runs_nil ?_
                      refine thenQ_n ?_
                      refine W_cond _ rfl (fun hb6 => ?_) (fun hb6 => ?_)
                      · try simp only [decide_eq_true_eq] at hb6
                        all_goals (
                          have hbi : v.testBit (15 - (i : Int).toNat) = true := tb_y (by omega) (by omega)
                          refine W_regionE (c := 59) (c' := 68) (by kernel_rfl) rfl ?_
                          refine Runs_p rfl (Valid.movek (A := Own 176 1 _ _) rfl rfl) rfl rfl ?_ -- ref.go:82 move
                          refine Runs_p rfl (Valid.movek (A := Is _) rfl rfl) rfl rfl ?_ -- ref.go:82 move
                          refine Runs_p rfl (Valid.mul rfl rfl rfl (room64 (by first | omega | (simp only [Int.toNat_natCast, toNat_add, toNat_add1, List.length_append, List.length_cons, List.length_nil, List.length_replicate]; omega)) (by first | omega | (simp only [Int.toNat_natCast, toNat_add, toNat_add1, List.length_append, List.length_cons, List.length_nil, List.length_replicate]; omega)))) rfl rfl ?_ -- ref.go:82 binOp
                          refine Runs_p rfl (Valid.movek (A := Is _) rfl rfl) rfl rfl ?_ -- ref.go:82 move
                          refine Runs_p rfl (Valid.add rfl rfl rfl (room64 (by first | omega | (simp only [Int.toNat_natCast, toNat_add, toNat_add1, List.length_append, List.length_cons, List.length_nil, List.length_replicate]; omega)) (by first | omega | (simp only [Int.toNat_natCast, toNat_add, toNat_add1, List.length_append, List.length_cons, List.length_nil, List.length_replicate]; omega)))) rfl rfl ?_ -- ref.go:82 binOp
                          refine Runs_p rfl (Valid.convr rfl rfl Try.underlying3 Try.underlying5 (by unfold Room; rw [IntKind.wrap_u8]; omega)) rfl rfl ?_ -- ref.go:82 convert
                          refine Runs_p rfl (Valid.lit (el := 5) [_] rfl rfl (fun _ => by kernel_rfl) rfl (by decide)) rfl rfl ?_ -- ref.go:82 buildSlice
                          refine Runs_w rfl (Valid.app rfl Try.underlying27 ti5 (by decide) rfl rfl (Reads.sl rfl) (by first | exact one_map (fun _ => rfl) | exact one_cons rfl one_nil | exact one_app (one_map (fun _ => rfl)) (one_cons rfl one_nil) | exact one_app (one_map (fun _ => rfl)) (one_map (fun _ => rfl)) | exact one_rep rfl | exact one_app (one_rep rfl) (one_map (fun _ => rfl)) | (intro u hu; simp at hu; rcases hu with rfl | hu <;> first | rfl | (subst hu; rfl))) (by first | (simp only [maxLen]; omega) | (simp only [maxLen, Int.toNat_natCast, toNat_add, toNat_add1, List.length_append, List.length_cons, List.length_nil, List.length_replicate]; omega)) (by first | omega | (simp only [Int.toNat_natCast, toNat_add, toNat_add1, List.length_append, List.length_cons, List.length_nil, List.length_replicate]; omega))) rfl rfl ?_ -- ref.go:82 call
                          refine Runs_p rfl (Valid.assignk (A := Own 528 1 _ _) rfl rfl) rfl rfl ?_ -- ref.go:82 assign
                          refine Runs_nil ?_
                          refine blockQ_n ?_
                          refine thenQ_n ?_
                          refine W_regionE (c := 68) (c' := 71) (by kernel_rfl) rfl ?_
                          refine Runs_p rfl (Valid.movek (A := Is _) rfl rfl) rfl rfl ?_ -- ref.go:80 move
                          refine Runs_p rfl (Valid.add rfl rfl rfl (room64 (by first | omega | (simp only [Int.toNat_natCast, toNat_add, toNat_add1, List.length_append, List.length_cons, List.length_nil, List.length_replicate]; omega)) (by first | omega | (simp only [Int.toNat_natCast, toNat_add, toNat_add1, List.length_append, List.length_cons, List.length_nil, List.length_replicate]; omega)))) rfl rfl ?_ -- ref.go:80 binOp
                          refine Runs_p rfl (Valid.assignk (A := Is _) rfl rfl) rfl rfl ?_ -- ref.go:80 assign
                          refine Runs_nil ?_
                          refine LoopQ.next (i + 1) [(176, 528)] (by omega) (by omega) ⟨⟨(leq_is rfl rfl (by first | rfl | exact rL_y (by omega) (by omega) hbi | exact rL_yl hbi | (rw [← rL_n hbi]))), (leq_own rfl rfl rfl (by first | rfl | exact rL_y (by omega) (by omega) hbi | exact rL_yl hbi | (rw [← rL_n hbi])) (by first | rfl | exact rL_y (by omega) (by omega) hbi | exact rL_yl hbi | (rw [← rL_n hbi]))), trivial⟩, ⟨(leq_is rfl rfl rfl), (leq_is rfl rfl rfl), (leq_is rfl rfl rfl), (leq_is rfl rfl rfl), (leq_is rfl rfl rfl), (leq_is rfl rfl rfl), trivial⟩, ⟨hp_row rfl (by first | rfl | exact rL_y (by omega) (by omega) hbi | exact rL_yl hbi | (rw [← rL_n hbi])) (by first | rfl | exact rL_y (by omega) (by omega) hbi | exact rL_yl hbi | (rw [← rL_n hbi])), trivial⟩, trivial, rfl, ⟨supg rfl, supg rfl, trivial⟩, ⟨supg rfl, supg rfl, supg rfl, supg rfl, supg rfl, supg rfl, trivial⟩, ⟨suph rfl rfl, trivial⟩, trivial, rfl, rfl⟩
                          done)
                      · try simp only [decide_eq_false_iff_not] at hb6
                        all_goals (
                          have hbi : v.testBit (15 - (i : Int).toNat) = false := tb_n (by omega) hb6
                          refine W_skip ?_
                          refine blockQ_n ?_
                          refine thenQ_n ?_
                          refine W_regionE (c := 59) (c' := 62) (by kernel_rfl) rfl ?_
                          refine Runs_p rfl (Valid.movek (A := Is _) rfl rfl) rfl rfl ?_ -- ref.go:80 move
                          refine Runs_p rfl (Valid.add rfl rfl rfl (room64 (by first | omega | (simp only [Int.toNat_natCast, toNat_add, toNat_add1, List.length_append, List.length_cons, List.length_nil, List.length_replicate]; omega)) (by first | omega | (simp only [Int.toNat_natCast, toNat_add, toNat_add1, List.length_append, List.length_cons, List.length_nil, List.length_replicate]; omega)))) rfl rfl ?_ -- ref.go:80 binOp
                          refine Runs_p rfl (Valid.assignk (A := Is _) rfl rfl) rfl rfl ?_ -- ref.go:80 assign
                          refine Runs_nil ?_
                          refine LoopQ.next (i + 1) [] (by omega) (by omega) ⟨⟨(leq_is rfl rfl (by first | rfl | exact rL_y (by omega) (by omega) hbi | exact rL_yl hbi | (rw [← rL_n hbi]))), (leq_own rfl rfl rfl (by first | rfl | exact rL_y (by omega) (by omega) hbi | exact rL_yl hbi | (rw [← rL_n hbi])) (by first | rfl | exact rL_y (by omega) (by omega) hbi | exact rL_yl hbi | (rw [← rL_n hbi]))), trivial⟩, ⟨(leq_is rfl rfl rfl), (leq_is rfl rfl rfl), (leq_is rfl rfl rfl), (leq_is rfl rfl rfl), (leq_is rfl rfl rfl), (leq_is rfl rfl rfl), trivial⟩, ⟨hp_row rfl (by first | rfl | exact rL_y (by omega) (by omega) hbi | exact rL_yl hbi | (rw [← rL_n hbi])) (by first | rfl | exact rL_y (by omega) (by omega) hbi | exact rL_yl hbi | (rw [← rL_n hbi])), trivial⟩, trivial, rfl, ⟨supg rfl, supg rfl, trivial⟩, ⟨supg rfl, supg rfl, supg rfl, supg rfl, supg rfl, supg rfl, trivial⟩, ⟨suph rfl rfl, trivial⟩, trivial, rfl, rfl⟩
                          done)
                      done)
                  · try simp only [decide_eq_false_iff_not] at hb5
                    all_goals (
                      refine W_exit ?_
                      refine thenQ_e ?_
                      refine loopQ_e ?_
                      refine blockQ_x ?_
                      refine blockQ_n ?_
                      refine thenQ_n ?_
                      refine W_regionE (c := 53) (c' := 56) (by kernel_rfl) rfl ?_
                      refine Runs_p rfl (Valid.movek (A := Is _) rfl rfl) rfl rfl ?_ -- ref.go:70 move
                      refine Runs_p rfl (Valid.add rfl rfl rfl (room64 (by first | omega | (simp only [Int.toNat_natCast, toNat_add, toNat_add1, List.length_append, List.length_cons, List.length_nil, List.length_replicate]; omega)) (by first | omega | (simp only [Int.toNat_natCast, toNat_add, toNat_add1, List.length_append, List.length_cons, List.length_nil, List.length_replicate]; omega)))) rfl rfl ?_ -- ref.go:70 binOp
                      refine Runs_p rfl (Valid.assignk (A := Is _) rfl rfl) rfl rfl ?_ -- ref.go:70 assign
                      refine Runs_nil ?_
                      refine LoopQ.next (k + 1) [] (⟨by omega, by first | (rw [← uN_n hbit]; omega) | (rw [← uN_y hbit]; omega)⟩) (by omega) ⟨⟨(leq_is rfl rfl (by first | rfl | exact congrArg (Value.int .i64) (by omega) | exact congrArg (Value.int .i64) (uN_y hbit) | exact congrArg (Value.int .i64) (uN_n hbit) | exact congrArg Value.bool (bad_y hbit hv) | exact congrArg Value.bool (bad_n hbit) | (rw [← uL_y hbit hv, show i = 16 by omega]) | (rw [← uL_n hbit]))), (leq_is rfl rfl (by first | rfl | exact congrArg (Value.int .i64) (by omega) | exact congrArg (Value.int .i64) (uN_y hbit) | exact congrArg (Value.int .i64) (uN_n hbit) | exact congrArg Value.bool (bad_y hbit hv) | exact congrArg Value.bool (bad_n hbit) | (rw [← uL_y hbit hv, show i = 16 by omega]) | (rw [← uL_n hbit]))), (leq_is rfl rfl (by first | rfl | exact congrArg (Value.int .i64) (by omega) | exact congrArg (Value.int .i64) (uN_y hbit) | exact congrArg (Value.int .i64) (uN_n hbit) | exact congrArg Value.bool (bad_y hbit hv) | exact congrArg Value.bool (bad_n hbit) | (rw [← uL_y hbit hv, show i = 16 by omega]) | (rw [← uL_n hbit]))), (leq_own rfl rfl rfl (by first | rfl | exact congrArg (Value.int .i64) (by omega) | exact congrArg (Value.int .i64) (uN_y hbit) | exact congrArg (Value.int .i64) (uN_n hbit) | exact congrArg Value.bool (bad_y hbit hv) | exact congrArg Value.bool (bad_n hbit) | (rw [← uL_y hbit hv, show i = 16 by omega]) | (rw [← uL_n hbit])) (by first | rfl | exact congrArg (Value.int .i64) (by omega) | exact congrArg (Value.int .i64) (uN_y hbit) | exact congrArg (Value.int .i64) (uN_n hbit) | exact congrArg Value.bool (bad_y hbit hv) | exact congrArg Value.bool (bad_n hbit) | (rw [← uL_y hbit hv, show i = 16 by omega]) | (rw [← uL_n hbit]))), trivial⟩, ⟨(leq_is rfl rfl rfl), (leq_is rfl rfl rfl), trivial⟩, ⟨hp_row rfl (by first | rfl | exact congrArg (Value.int .i64) (by omega) | exact congrArg (Value.int .i64) (uN_y hbit) | exact congrArg (Value.int .i64) (uN_n hbit) | exact congrArg Value.bool (bad_y hbit hv) | exact congrArg Value.bool (bad_n hbit) | (rw [← uL_y hbit hv, show i = 16 by omega]) | (rw [← uL_n hbit])) (by first | rfl | exact congrArg (Value.int .i64) (by omega) | exact congrArg (Value.int .i64) (uN_y hbit) | exact congrArg (Value.int .i64) (uN_n hbit) | exact congrArg Value.bool (bad_y hbit hv) | exact congrArg Value.bool (bad_n hbit) | (rw [← uL_y hbit hv, show i = 16 by omega]) | (rw [← uL_n hbit])), trivial⟩, trivial, rfl, ⟨supg rfl, supg rfl, supg rfl, supg rfl, trivial⟩, ⟨supg rfl, supg rfl, trivial⟩, ⟨suph rfl rfl, trivial⟩, trivial, rfl, rfl⟩
                      done)
                  done)
              done)
          done)
      · try simp only [decide_eq_false_iff_not] at hb2
        all_goals (
          refine W_exit ?_
          refine thenQ_e ?_
          refine loopQ_e ?_
          refine blockQ_x ?_
          refine thenQ_n ?_
          refine W_seq ?_
          refine W_seq ?_
          refine W_regionE (c := 25) (c' := 26) (by kernel_rfl) rfl ?_
          refine Runs_p rfl (Valid.movek (A := Is _) rfl rfl) rfl rfl ?_ -- ref.go:86 move
          refine Runs_nil ?_
          refine thenQ_n ?_
          refine W_cond _ rfl (fun hb7 => ?_) (fun hb7 => ?_)
          · try simp only [Int.toNat_natCast, toNat_add, toNat_add1, decide_eq_true_eq, decide_eq_false_iff_not, Bool.and_eq_true, Bool.or_eq_true, Bool.and_eq_false_iff, Bool.or_eq_false_iff, Bool.not_eq_true', Bool.not_eq_false', Bool.true_eq_false, Bool.false_eq_true, not_true_eq_false, not_false_eq_true, ne_eq] at hb7
            all_goals (
              obtain rfl : k = 16 := by omega
              have hbd : (f : Int) = 0 ∨ ¬ uE s f (a + 16) 16 = 0 := by unfold badB at hb7; simpa using hb7
              refine W_seq ?_
              refine W_regionE (c := 26) (c' := 29) (by kernel_rfl) rfl ?_
              refine Runs_p rfl (Valid.assignk (A := Is _) rfl rfl) rfl rfl ?_ -- ref.go:87 assign
              refine Runs_p rfl (Valid.assignk (A := Is _) rfl rfl) rfl rfl ?_ -- ref.go:87 assign
              refine Runs_p rfl (Valid.assignk (A := Is _) rfl rfl) rfl rfl ?_ -- ref.go:87 assign
              refine Runs_nil ?_
              refine thenQ_n ?_
              refine W_ret ?_
              refine thenQ_r ?_
              refine finQ_r ?_
              refine ResOk.three rfl (RVal.is rfl rfl (by first | (rw [unmapV, if_neg hb1]; done) | (rw [um_short h0 hf hfl (by omega) hbit hg2.2]; done) | (rw [um_short h0 hf hfl (by omega) hbit hg2.2]; rfl) | (rw [um_short h0 hf hfl (by omega) hbit hg2.2, hg2.1]; done) | (rw [um_bad h0 hf hfl (by omega) hbd]; done) | (rw [um_bad h0 hf hfl (by omega) hbd]; rfl) | (rw [um_ok h0 hf hfl (by omega) hbd]; done) | (rw [um_ok h0 hf hfl (by omega) hbd]; rfl))) (RVal.is rfl rfl (by first | (rw [unmapV, if_neg hb1]; done) | (rw [um_short h0 hf hfl (by omega) hbit hg2.2]; done) | (rw [um_short h0 hf hfl (by omega) hbit hg2.2]; rfl) | (rw [um_short h0 hf hfl (by omega) hbit hg2.2, hg2.1]; done) | (rw [um_bad h0 hf hfl (by omega) hbd]; done) | (rw [um_bad h0 hf hfl (by omega) hbd]; rfl) | (rw [um_ok h0 hf hfl (by omega) hbd]; done) | (rw [um_ok h0 hf hfl (by omega) hbd]; rfl))) (RVal.is rfl rfl (by first | (rw [unmapV, if_neg hb1]; done) | (rw [um_short h0 hf hfl (by omega) hbit hg2.2]; done) | (rw [um_short h0 hf hfl (by omega) hbit hg2.2]; rfl) | (rw [um_short h0 hf hfl (by omega) hbit hg2.2, hg2.1]; done) | (rw [um_bad h0 hf hfl (by omega) hbd]; done) | (rw [um_bad h0 hf hfl (by omega) hbd]; rfl) | (rw [um_ok h0 hf hfl (by omega) hbd]; done) | (rw [um_ok h0 hf hfl (by omega) hbd]; rfl)))
              done)
          · try simp only [Int.toNat_natCast, toNat_add, toNat_add1, decide_eq_true_eq, decide_eq_false_iff_not, Bool.and_eq_true, Bool.or_eq_true, Bool.and_eq_false_iff, Bool.or_eq_false_iff, Bool.not_eq_true', Bool.not_eq_false', Bool.true_eq_false, Bool.false_eq_true, not_true_eq_false, not_false_eq_true, ne_eq] at hb7
            all_goals (
              obtain rfl : k = 16 := by omega
              have hbd : ¬ ((f : Int) = 0 ∨ ¬ uE s f (a + 16) 16 = 0) := by unfold badB at hb7; simpa using hb7
              refine W_skip ?_
              refine thenQ_n ?_
              refine W_seq ?_
              refine W_regionE (c := 26) (c' := 32) (by kernel_rfl) rfl ?_
              refine Runs_p rfl (Valid.movek (A := Own 176 1 _ _) rfl rfl) rfl rfl ?_ -- ref.go:89 move
              refine Runs_p rfl (Valid.tostring rfl Try.underlying27 Try.underlying5 Try.underlying9 (Reads.own rfl)) rfl rfl ?_ -- ref.go:89 convert
              refine Runs_p rfl (Valid.movek (A := Is _) rfl rfl) rfl rfl ?_ -- ref.go:89 move
              refine Runs_p rfl (Valid.assignk (A := Is _) rfl rfl) rfl rfl ?_ -- ref.go:89 assign
              refine Runs_p rfl (Valid.assignk (A := Is _) rfl rfl) rfl rfl ?_ -- ref.go:89 assign
              refine Runs_p rfl (Valid.assignk (A := Is _) rfl rfl) rfl rfl ?_ -- ref.go:89 assign
              refine Runs_nil ?_
              refine thenQ_n ?_
              refine W_ret ?_
              refine finQ_r ?_
              refine ResOk.three rfl (RVal.is rfl rfl (by first | (rw [unmapV, if_neg hb1]; done) | (rw [um_short h0 hf hfl (by omega) hbit hg2.2]; done) | (rw [um_short h0 hf hfl (by omega) hbit hg2.2]; rfl) | (rw [um_short h0 hf hfl (by omega) hbit hg2.2, hg2.1]; done) | (rw [um_bad h0 hf hfl (by omega) hbd]; done) | (rw [um_bad h0 hf hfl (by omega) hbd]; rfl) | (rw [um_ok h0 hf hfl (by omega) hbd]; done) | (rw [um_ok h0 hf hfl (by omega) hbd]; rfl))) (RVal.is rfl rfl (by first | (rw [unmapV, if_neg hb1]; done) | (rw [um_short h0 hf hfl (by omega) hbit hg2.2]; done) | (rw [um_short h0 hf hfl (by omega) hbit hg2.2]; rfl) | (rw [um_short h0 hf hfl (by omega) hbit hg2.2, hg2.1]; done) | (rw [um_bad h0 hf hfl (by omega) hbd]; done) | (rw [um_bad h0 hf hfl (by omega) hbd]; rfl) | (rw [um_ok h0 hf hfl (by omega) hbd]; done) | (rw [um_ok h0 hf hfl (by omega) hbd]; rfl))) (RVal.is rfl rfl (by first | (rw [unmapV, if_neg hb1]; done) | (rw [um_short h0 hf hfl (by omega) hbit hg2.2]; done) | (rw [um_short h0 hf hfl (by omega) hbit hg2.2]; rfl) | (rw [um_short h0 hf hfl (by omega) hbit hg2.2, hg2.1]; done) | (rw [um_bad h0 hf hfl (by omega) hbd]; done) | (rw [um_bad h0 hf hfl (by omega) hbd]; rfl) | (rw [um_ok h0 hf hfl (by omega) hbd]; done) | (rw [um_ok h0 hf hfl (by omega) hbd]; rfl)))
              done)
          done)
      done)
end Gh
end Go.Proofs.Ytlcephckjhiggaa
