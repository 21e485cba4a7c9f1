/-
  WALKS of stage 7: Unmap.
-/
import Derived.Test.YtlcephckjhiggaaRows
import Derived.Test.YtlcephckjhiggaaAbt
import Derived.Test.YtlcephckjhiggaaBb
import Derived.Test.YtlcephckjhiggaaGa
import Derived.Test.YtlcephckjhiggaaGb
import Derived.Test.YtlcephckjhiggaaGc
import Derived.Test.YtlcephckjhiggaaGd
namespace Go.Proofs.Ytlcephckjhiggaa
open Go.RowKit
namespace Ge
open Ab Bm Bt Bb Ga Gb Gc Gd
theorem ti5 : TI Try.prog 5 1 1 := .mk' (z := (Value.int .u8 0)) (by kernel_rfl) rfl
theorem getV_n (s : ByteArray) (a : Int) : ∃ v : Nat, (getV s a 16).1 = (v : Int) ∧ v < 65536 := by
  unfold getV
  split
  · exact ⟨0, rfl, by decide⟩
  · split
    · have := val_lt (bitsAt s.data.toList a.toNat (16 : Int).toNat)
      rw [bitsAt_len] at this
      exact ⟨_, rfl, this⟩
    · exact ⟨0, rfl, by decide⟩
theorem getV_in {s : ByteArray} {a : Int} (h : (getV s a 16).2 = 0) : 0 ≤ a ∧ a + 16 ≤ 8 * s.size := by
  unfold getV at h
  by_cases h1 : (decide ((0 : Int) ≤ 16) && decide ((16 : Int) ≤ 64) && decide (0 ≤ a)) = false
  · rw [if_pos h1] at h; exact absurd h (by decide)
  · rw [if_neg h1] at h
    simp at h1
    by_cases h2 : a + 16 ≤ 8 * s.size
    · exact ⟨h1, h2⟩
    · rw [if_neg h2] at h; exact absurd h (by decide)
/-- the place behind so many rows -/
def uN (f : Nat) (a : Int) : Nat → Int
  | 0 => a
  | k + 1 => if f.testBit (15 - k) = true then uN f a k + 16 else uN f a k
  termination_by k => k
def vA (s : ByteArray) (f : Nat) (a : Int) (k : Nat) : Int := (getV s (uN f a k) 16).1
def rL (v k : Nat) : Nat → List UInt8
  | 0 => []
  | i + 1 => if v.testBit (15 - i) = true then rL v k i ++ [UInt8.ofNat (16 * k + i)] else rL v k i
  termination_by i => i
def uL (s : ByteArray) (f : Nat) (a : Int) : Nat → List UInt8
  | 0 => []
  | k + 1 => if f.testBit (15 - k) = true then uL s f a k ++ rL (vA s f a k).toNat k 16 else uL s f a k
  termination_by k => k
def uE (s : ByteArray) (f : Nat) (a : Int) : Nat → Int
  | 0 => 0
  | k + 1 => if uE s f a k = 0 then (if f.testBit (15 - k) = true ∧ vA s f a k = 0 then 3 else 0) else uE s f a k
  termination_by k => k
theorem onesV_le (f : Nat) : onesV f ≤ 16 := by unfold onesV o8; omega
theorem uN_0 (f : Nat) (a : Int) : uN f a 0 = a := by rw [uN]
theorem uN_y {f k : Nat} {a : Int} (h : f.testBit (15 - (k : Int).toNat) = true) : uN f a k + 16 = uN f a (k + 1) := by
  have h : f.testBit (15 - k) = true := h
  rw [uN, if_pos h]
theorem uN_n {f k : Nat} {a : Int} (h : f.testBit (15 - (k : Int).toNat) = false) : uN f a k = uN f a (k + 1) := by
  have h : f.testBit (15 - k) = false := h
  rw [uN, if_neg (by rw [h]; decide)]
theorem uN_le (f : Nat) (a : Int) : ∀ k, a ≤ uN f a k ∧ uN f a k ≤ a + 16 * k
  | 0 => by rw [uN]; omega
  | k + 1 => by
    have := uN_le f a k
    rw [uN]; split <;> omega
theorem uL_0 (s : ByteArray) (f : Nat) (a : Int) : uL s f a 0 = [] := by rw [uL]
theorem uL_y {s : ByteArray} {f k v : Nat} {a : Int} (h : f.testBit (15 - (k : Int).toNat) = true) (hv : (getV s (uN f a k) 16).1 = (v : Int)) : uL s f a k ++ rL v k 16 = uL s f a (k + 1) := by
  have h : f.testBit (15 - k) = true := h
  rw [uL, if_pos h, vA, hv]; rfl
theorem uL_n {s : ByteArray} {f k : Nat} {a : Int} (h : f.testBit (15 - (k : Int).toNat) = false) : uL s f a k = uL s f a (k + 1) := by
  have h : f.testBit (15 - k) = false := h
  rw [uL, if_neg (by rw [h]; decide)]
theorem rL_0 (v k : Nat) : rL v k 0 = [] := by rw [rL]
theorem rL_le (v k : Nat) : ∀ i, (rL v k i).length ≤ i
  | 0 => by rw [rL]; exact Nat.le_refl _
  | i + 1 => by
    have := rL_le v k i
    rw [rL]; split
    · rw [List.length_append]; simp; omega
    · omega
theorem uL_le (s : ByteArray) (f : Nat) (a : Int) : ∀ k, (uL s f a k).length ≤ 16 * k
  | 0 => by rw [uL]; exact Nat.le_refl _
  | k + 1 => by
    have := uL_le s f a k
    have := rL_le (vA s f a k).toNat k 16
    rw [uL]; split
    · rw [List.length_append]; omega
    · omega
theorem rL_y {l : List UInt8} {v k i : Nat} (hk : k < 16) (hi : i < 16) (h : v.testBit (15 - (i : Int).toNat) = true) : (l ++ rL v k i).map B ++ [Value.int .u8 (16 * (k : Int) + (i : Int))] = (l ++ rL v k (i + 1)).map B := by
  have h : v.testBit (15 - i) = true := h
  rw [rL, if_pos h, ← List.append_assoc, List.map_append (l₁ := l ++ _)]
  congr 1
  show [_] = [Value.int .u8 (((UInt8.ofNat (16 * k + i)).toNat : Nat) : Int)]
  rw [UInt8.toNat_ofNat', Nat.mod_eq_of_lt (by omega)]; rfl
theorem rL_yl {l : List UInt8} {v k i : Nat} (h : v.testBit (15 - (i : Int).toNat) = true) : (l ++ rL v k i).length + 1 = (l ++ rL v k (i + 1)).length := by
  have h : v.testBit (15 - i) = true := h
  rw [rL, if_pos h, ← List.append_assoc]; simp; omega
theorem rL_n {l : List UInt8} {v k i : Nat} (h : v.testBit (15 - (i : Int).toNat) = false) : l ++ rL v k i = l ++ rL v k (i + 1) := by
  have h : v.testBit (15 - i) = false := h
  rw [rL, if_neg (by rw [h]; decide)]
theorem rL_z (l : List UInt8) (v k : Nat) : l = l ++ rL v k 0 := by rw [rL_0, List.append_nil]
theorem uE_0 (s : ByteArray) (f : Nat) (a : Int) : uE s f a 0 = 0 := by rw [uE]
theorem uE_n {s : ByteArray} {f k : Nat} {a : Int} (e : uE s f a k = 0) (h : f.testBit (15 - (k : Int).toNat) = false) : uE s f a (k + 1) = 0 := by
  have h : f.testBit (15 - k) = false := h
  rw [uE, if_pos e, if_neg (by rw [h]; simp)]
theorem uE_y {s : ByteArray} {f k v : Nat} {a : Int} (e : uE s f a k = 0) (hv : (getV s (uN f a k) 16).1 = (v : Int)) (h : ¬ (v : Int) = 0) : uE s f a (k + 1) = 0 := by
  rw [uE, if_pos e, if_neg (by rw [vA, hv]; exact fun h2 => h h2.2)]
theorem uE_3 {s : ByteArray} {f k v : Nat} {a : Int} (e : uE s f a k = 0) (hv : (getV s (uN f a k) 16).1 = (v : Int)) (h : f.testBit (15 - (k : Int).toNat) = true) (h0 : (v : Int) = 0) : uE s f a (k + 1) = 3 := by
  have h : f.testBit (15 - k) = true := h
  rw [uE, if_pos e, if_pos ⟨h, by rw [vA, hv]; exact h0⟩]
theorem uE_stop (s : ByteArray) (f : Nat) (a : Int) (k : Nat) (h : uE s f a k = 3) : ∀ d, uE s f a (k + d) = 3
  | 0 => h
  | d + 1 => by rw [← Nat.add_assoc, uE, uE_stop s f a k h d, if_neg (by decide)]
def unmapV (s : ByteArray) (a : Int) : ByteArray × Int × Int :=
  if (getV s a 16).2 = 0 then
    (if 8 * (s.size : Int) < a + 16 + 16 * ((onesV (getV s a 16).1.toNat : Nat) : Int) then (⟨#[]⟩, 0, 2) else if (getV s a 16).1 = 0 then (⟨#[]⟩, 0, 3)
      else if uE s (getV s a 16).1.toNat (a + 16) 16 = 0 then (⟨(uL s (getV s a 16).1.toNat (a + 16) 16).toArray⟩, uN (getV s a 16).1.toNat (a + 16) 16, 0) else (⟨#[]⟩, 0, 3))
  else (⟨#[]⟩, 0, (getV s a 16).2)

set_option maxRecDepth 100000 in
set_option maxHeartbeats 1000000 in
theorem unmap_s (s : ByteArray) (a : Int) (hs : s.size ≤ 1000000000000) (ha : a ≤ 9223372036854775807) :
    FPure Try.prog 14 [Is (.string s), Is (.int .i64 a)] (Tup [Is (.string (unmapV s a).1), Is (.int .i64 (unmapV s a).2.1), Is (.int .i64 (unmapV s a).2.2)]) := by
  refine FPure.of Try.func14 Try.ntmps14 rfl (by kernel_rfl) rfl rfl rfl ?_
  refine W_seq ?_
  refine W_regionE (c := 1) (c' := 4) (by kernel_rfl) rfl ?_
  refine Runs_p rfl (Valid.assignk (A := Is _) rfl rfl) rfl rfl ?_ -- used.go:61 assign
  refine Runs_p rfl (Valid.assignk (A := Is _) rfl rfl) rfl rfl ?_ -- used.go:61 assign
  refine Runs_p rfl (Valid.assignk (A := Is _) rfl rfl) rfl rfl ?_ -- used.go:61 assign
  refine Runs_nil ?_
  refine thenQ_n ?_
  refine W_seq ?_
  refine W_regionE (c := 4) (c' := 12) (by kernel_rfl) rfl ?_
  refine Runs_p rfl (Valid.movek (A := Is _) rfl rfl) rfl rfl ?_ -- used.go:62 move
  refine Runs_p rfl (Valid.movek (A := Is _) rfl rfl) rfl rfl ?_ -- used.go:62 move
  refine Runs_p rfl (Valid.call rfl (get_f _ _ _ (by omega) (by omega)) ⟨argle rfl, argle rfl, argle rfl, trivial⟩) rfl rfl ?_ -- used.go:62 call
  refine Runs_p rfl (Valid.movek (A := Tup [Is _, Is _]) rfl rfl) rfl rfl ?_ -- used.go:62 move
  refine Runs_p rfl (Valid.extract _ rfl rfl rfl) rfl rfl ?_ -- used.go:62 extract
  refine Runs_p rfl (Valid.extract _ rfl rfl rfl) rfl rfl ?_ -- used.go:62 extract
  refine Runs_p rfl (Valid.assignk (A := Is _) rfl rfl) rfl rfl ?_ -- used.go:62 assign
  refine Runs_p rfl (Valid.assignk (A := Is _) rfl rfl) rfl rfl ?_ -- used.go:62 assign
  refine Runs_nil ?_
  refine thenQ_n ?_
  refine W_seq ?_
  refine W_seq ?_
  refine W_regionE (c := 12) (c' := 14) (by kernel_rfl) rfl ?_
  refine Runs_p rfl (Valid.movek (A := Is _) rfl rfl) rfl rfl ?_ -- used.go:63 move
  refine Runs_p rfl (Valid.neq rfl rfl rfl) rfl rfl ?_ -- used.go:63 binOp
  refine Runs_nil ?_
  refine thenQ_n ?_
  refine W_cond _ rfl (fun hb1 => ?_) (fun hb1 => ?_)
  · try simp only [decide_eq_true_eq, ne_eq] at hb1
    all_goals (
      refine W_seq ?_
      refine W_regionE (c := 14) (c' := 18) (by kernel_rfl) rfl ?_
      refine Runs_p rfl (Valid.movek (A := Is _) rfl rfl) rfl rfl ?_ -- used.go:64 move
      refine Runs_p rfl (Valid.assignk (A := Is _) rfl rfl) rfl rfl ?_ -- used.go:64 assign
      refine Runs_p rfl (Valid.assignk (A := Is _) rfl rfl) rfl rfl ?_ -- used.go:64 assign
      refine Runs_p rfl (Valid.assignk (A := Is _) rfl rfl) rfl rfl ?_ -- used.go:64 assign
      refine Runs_nil ?_
      refine thenQ_n ?_
      refine W_ret ?_
      refine thenQ_r ?_
      refine finQ_r ?_
      refine ResOk.three rfl (RVal.is rfl rfl (by first | (rw [unmapV, if_neg hb1]; done) | (rw [unmapV, if_pos h0, hf, Int.toNat_natCast, if_pos (by omega)]; done) | (rw [unmapV, if_pos h0, hf, Int.toNat_natCast, if_neg (by omega), if_pos (by omega)]; done) | (rw [unmapV, if_pos h0, hf, Int.toNat_natCast, if_neg (by omega), if_neg (by omega), if_neg (by have h3 := uE_stop _ _ _ _ (uE_3 hk2 hv (by assumption) (by assumption)) (15 - k); rw [show k + 1 + (15 - k) = 16 by omega] at h3; rw [h3]; decide)]; done) | (rw [unmapV, if_pos h0, hf, Int.toNat_natCast, if_neg (by omega), if_neg (by omega), if_pos (by rw [← hk2, show (16 : Nat) = k by omega]), show (16 : Nat) = k by omega]; done) | (rw [unmapV, if_neg hb1]; rfl) | (rw [unmapV, if_pos h0, hf, Int.toNat_natCast, if_pos (by omega)]; rfl) | (rw [unmapV, if_pos h0, hf, Int.toNat_natCast, if_neg (by omega), if_pos (by omega)]; rfl) | (rw [unmapV, if_pos h0, hf, Int.toNat_natCast, if_neg (by omega), if_neg (by omega), if_neg (by have h3 := uE_stop _ _ _ _ (uE_3 hk2 hv (by assumption) (by assumption)) (15 - k); rw [show k + 1 + (15 - k) = 16 by omega] at h3; rw [h3]; decide)]; rfl) | (rw [unmapV, if_pos h0, hf, Int.toNat_natCast, if_neg (by omega), if_neg (by omega), if_pos (by rw [← hk2, show (16 : Nat) = k by omega]), show (16 : Nat) = k by omega]; rfl))) (RVal.is rfl rfl (by first | (rw [unmapV, if_neg hb1]; done) | (rw [unmapV, if_pos h0, hf, Int.toNat_natCast, if_pos (by omega)]; done) | (rw [unmapV, if_pos h0, hf, Int.toNat_natCast, if_neg (by omega), if_pos (by omega)]; done) | (rw [unmapV, if_pos h0, hf, Int.toNat_natCast, if_neg (by omega), if_neg (by omega), if_neg (by have h3 := uE_stop _ _ _ _ (uE_3 hk2 hv (by assumption) (by assumption)) (15 - k); rw [show k + 1 + (15 - k) = 16 by omega] at h3; rw [h3]; decide)]; done) | (rw [unmapV, if_pos h0, hf, Int.toNat_natCast, if_neg (by omega), if_neg (by omega), if_pos (by rw [← hk2, show (16 : Nat) = k by omega]), show (16 : Nat) = k by omega]; done) | (rw [unmapV, if_neg hb1]; rfl) | (rw [unmapV, if_pos h0, hf, Int.toNat_natCast, if_pos (by omega)]; rfl) | (rw [unmapV, if_pos h0, hf, Int.toNat_natCast, if_neg (by omega), if_pos (by omega)]; rfl) | (rw [unmapV, if_pos h0, hf, Int.toNat_natCast, if_neg (by omega), if_neg (by omega), if_neg (by have h3 := uE_stop _ _ _ _ (uE_3 hk2 hv (by assumption) (by assumption)) (15 - k); rw [show k + 1 + (15 - k) = 16 by omega] at h3; rw [h3]; decide)]; rfl) | (rw [unmapV, if_pos h0, hf, Int.toNat_natCast, if_neg (by omega), if_neg (by omega), if_pos (by rw [← hk2, show (16 : Nat) = k by omega]), show (16 : Nat) = k by omega]; rfl))) (RVal.is rfl rfl (by first | (rw [unmapV, if_neg hb1]; done) | (rw [unmapV, if_pos h0, hf, Int.toNat_natCast, if_pos (by omega)]; done) | (rw [unmapV, if_pos h0, hf, Int.toNat_natCast, if_neg (by omega), if_pos (by omega)]; done) | (rw [unmapV, if_pos h0, hf, Int.toNat_natCast, if_neg (by omega), if_neg (by omega), if_neg (by have h3 := uE_stop _ _ _ _ (uE_3 hk2 hv (by assumption) (by assumption)) (15 - k); rw [show k + 1 + (15 - k) = 16 by omega] at h3; rw [h3]; decide)]; done) | (rw [unmapV, if_pos h0, hf, Int.toNat_natCast, if_neg (by omega), if_neg (by omega), if_pos (by rw [← hk2, show (16 : Nat) = k by omega]), show (16 : Nat) = k by omega]; done) | (rw [unmapV, if_neg hb1]; rfl) | (rw [unmapV, if_pos h0, hf, Int.toNat_natCast, if_pos (by omega)]; rfl) | (rw [unmapV, if_pos h0, hf, Int.toNat_natCast, if_neg (by omega), if_pos (by omega)]; rfl) | (rw [unmapV, if_pos h0, hf, Int.toNat_natCast, if_neg (by omega), if_neg (by omega), if_neg (by have h3 := uE_stop _ _ _ _ (uE_3 hk2 hv (by assumption) (by assumption)) (15 - k); rw [show k + 1 + (15 - k) = 16 by omega] at h3; rw [h3]; decide)]; rfl) | (rw [unmapV, if_pos h0, hf, Int.toNat_natCast, if_neg (by omega), if_neg (by omega), if_pos (by rw [← hk2, show (16 : Nat) = k by omega]), show (16 : Nat) = k by omega]; rfl)))
      done)
  · try simp only [decide_eq_false_iff_not, ne_eq] at hb1
    all_goals (
      refine W_skip ?_
      refine thenQ_n ?_
      refine W_seq ?_
      obtain ⟨f, hf, hfl⟩ := getV_n s a
      have h0 : (getV s a 16).2 = 0 := by simpa using hb1
      have hin := getV_in h0
      rw [hf]
      have hon := onesV_le f
      refine W_regionE (c := 14) (c' := 17) (by kernel_rfl) rfl ?_
      refine Runs_p rfl (Valid.movek (A := Is _) rfl rfl) rfl rfl ?_ -- used.go:66 move
      refine Runs_p rfl (Valid.add rfl rfl rfl (room64 (by first | omega | (simp only [Int.toNat_natCast, toNat_add, toNat_add1, List.length_append, List.length_cons, List.length_nil, List.length_replicate]; omega)) (by first | omega | (simp only [Int.toNat_natCast, toNat_add, toNat_add1, List.length_append, List.length_cons, List.length_nil, List.length_replicate]; omega)))) rfl rfl ?_ -- used.go:66 binOp
      refine Runs_p rfl (Valid.assignk (A := Is _) rfl rfl) rfl rfl ?_ -- used.go:66 assign
      refine Runs_nil ?_
      refine thenQ_n ?_
      refine W_seq ?_
      refine W_regionE (c := 17) (c' := 23) (by kernel_rfl) rfl ?_
      refine Runs_p rfl (Valid.movek (A := Is _) rfl rfl) rfl rfl ?_ -- used.go:67 move
      refine Runs_p rfl (Valid.movek (A := Is _) rfl rfl) rfl rfl ?_ -- used.go:67 move
      refine Runs_p rfl (Valid.call rfl (ones_s f (by omega)) ⟨argle rfl, trivial⟩) rfl rfl ?_ -- used.go:67 call
      refine Runs_p rfl (Valid.mul rfl rfl rfl (room64 (by first | omega | (simp only [Int.toNat_natCast, toNat_add, toNat_add1, List.length_append, List.length_cons, List.length_nil, List.length_replicate]; omega)) (by first | omega | (simp only [Int.toNat_natCast, toNat_add, toNat_add1, List.length_append, List.length_cons, List.length_nil, List.length_replicate]; omega)))) rfl rfl ?_ -- used.go:67 binOp
      refine Runs_p rfl (Valid.add rfl rfl rfl (room64 (by first | omega | (simp only [Int.toNat_natCast, toNat_add, toNat_add1, List.length_append, List.length_cons, List.length_nil, List.length_replicate]; omega)) (by first | omega | (simp only [Int.toNat_natCast, toNat_add, toNat_add1, List.length_append, List.length_cons, List.length_nil, List.length_replicate]; omega)))) rfl rfl ?_ -- used.go:67 binOp
      refine Runs_p rfl (Valid.assignk (A := Is _) rfl rfl) rfl rfl ?_ -- used.go:67 assign
      refine Runs_nil ?_
      refine thenQ_n ?_
      refine W_seq ?_
      refine W_seq ?_
      refine W_regionE (c := 23) (c' := 28) (by kernel_rfl) rfl ?_
      refine Runs_p rfl (Valid.movek (A := Is _) rfl rfl) rfl rfl ?_ -- used.go:68 move
      refine Runs_p rfl (Valid.movek (A := Is _) rfl rfl) rfl rfl ?_ -- used.go:68 move
      refine Runs_p rfl (Valid.slen rfl Try.underlying9 rfl) rfl rfl ?_ -- used.go:68 call
      refine Runs_p rfl (Valid.mul rfl rfl rfl (room64 (by first | omega | (simp only [Int.toNat_natCast, toNat_add, toNat_add1, List.length_append, List.length_cons, List.length_nil, List.length_replicate]; omega)) (by first | omega | (simp only [Int.toNat_natCast, toNat_add, toNat_add1, List.length_append, List.length_cons, List.length_nil, List.length_replicate]; omega)))) rfl rfl ?_ -- used.go:68 binOp
      refine Runs_p rfl (Valid.gtr rfl rfl rfl) rfl rfl ?_ -- used.go:68 binOp
      refine Runs_nil ?_
      refine thenQ_n ?_
      refine W_cond _ rfl (fun hb2 => ?_) (fun hb2 => ?_)
      · try simp only [decide_eq_true_eq] at hb2
        all_goals (
          refine W_seq ?_
          refine W_regionE (c := 28) (c' := 31) (by kernel_rfl) rfl ?_
          refine Runs_p rfl (Valid.assignk (A := Is _) rfl rfl) rfl rfl ?_ -- used.go:69 assign
          refine Runs_p rfl (Valid.assignk (A := Is _) rfl rfl) rfl rfl ?_ -- used.go:69 assign
          refine Runs_p rfl (Valid.assignk (A := Is _) rfl rfl) rfl rfl ?_ -- used.go:69 assign
          refine Runs_nil ?_
          refine thenQ_n ?_
          refine W_ret ?_
          refine thenQ_r ?_
          refine finQ_r ?_
          refine ResOk.three rfl (RVal.is rfl rfl (by first | (rw [unmapV, if_neg hb1]; done) | (rw [unmapV, if_pos h0, hf, Int.toNat_natCast, if_pos (by omega)]; done) | (rw [unmapV, if_pos h0, hf, Int.toNat_natCast, if_neg (by omega), if_pos (by omega)]; done) | (rw [unmapV, if_pos h0, hf, Int.toNat_natCast, if_neg (by omega), if_neg (by omega), if_neg (by have h3 := uE_stop _ _ _ _ (uE_3 hk2 hv (by assumption) (by assumption)) (15 - k); rw [show k + 1 + (15 - k) = 16 by omega] at h3; rw [h3]; decide)]; done) | (rw [unmapV, if_pos h0, hf, Int.toNat_natCast, if_neg (by omega), if_neg (by omega), if_pos (by rw [← hk2, show (16 : Nat) = k by omega]), show (16 : Nat) = k by omega]; done) | (rw [unmapV, if_neg hb1]; rfl) | (rw [unmapV, if_pos h0, hf, Int.toNat_natCast, if_pos (by omega)]; rfl) | (rw [unmapV, if_pos h0, hf, Int.toNat_natCast, if_neg (by omega), if_pos (by omega)]; rfl) | (rw [unmapV, if_pos h0, hf, Int.toNat_natCast, if_neg (by omega), if_neg (by omega), if_neg (by have h3 := uE_stop _ _ _ _ (uE_3 hk2 hv (by assumption) (by assumption)) (15 - k); rw [show k + 1 + (15 - k) = 16 by omega] at h3; rw [h3]; decide)]; rfl) | (rw [unmapV, if_pos h0, hf, Int.toNat_natCast, if_neg (by omega), if_neg (by omega), if_pos (by rw [← hk2, show (16 : Nat) = k by omega]), show (16 : Nat) = k by omega]; rfl))) (RVal.is rfl rfl (by first | (rw [unmapV, if_neg hb1]; done) | (rw [unmapV, if_pos h0, hf, Int.toNat_natCast, if_pos (by omega)]; done) | (rw [unmapV, if_pos h0, hf, Int.toNat_natCast, if_neg (by omega), if_pos (by omega)]; done) | (rw [unmapV, if_pos h0, hf, Int.toNat_natCast, if_neg (by omega), if_neg (by omega), if_neg (by have h3 := uE_stop _ _ _ _ (uE_3 hk2 hv (by assumption) (by assumption)) (15 - k); rw [show k + 1 + (15 - k) = 16 by omega] at h3; rw [h3]; decide)]; done) | (rw [unmapV, if_pos h0, hf, Int.toNat_natCast, if_neg (by omega), if_neg (by omega), if_pos (by rw [← hk2, show (16 : Nat) = k by omega]), show (16 : Nat) = k by omega]; done) | (rw [unmapV, if_neg hb1]; rfl) | (rw [unmapV, if_pos h0, hf, Int.toNat_natCast, if_pos (by omega)]; rfl) | (rw [unmapV, if_pos h0, hf, Int.toNat_natCast, if_neg (by omega), if_pos (by omega)]; rfl) | (rw [unmapV, if_pos h0, hf, Int.toNat_natCast, if_neg (by omega), if_neg (by omega), if_neg (by have h3 := uE_stop _ _ _ _ (uE_3 hk2 hv (by assumption) (by assumption)) (15 - k); rw [show k + 1 + (15 - k) = 16 by omega] at h3; rw [h3]; decide)]; rfl) | (rw [unmapV, if_pos h0, hf, Int.toNat_natCast, if_neg (by omega), if_neg (by omega), if_pos (by rw [← hk2, show (16 : Nat) = k by omega]), show (16 : Nat) = k by omega]; rfl))) (RVal.is rfl rfl (by first | (rw [unmapV, if_neg hb1]; done) | (rw [unmapV, if_pos h0, hf, Int.toNat_natCast, if_pos (by omega)]; done) | (rw [unmapV, if_pos h0, hf, Int.toNat_natCast, if_neg (by omega), if_pos (by omega)]; done) | (rw [unmapV, if_pos h0, hf, Int.toNat_natCast, if_neg (by omega), if_neg (by omega), if_neg (by have h3 := uE_stop _ _ _ _ (uE_3 hk2 hv (by assumption) (by assumption)) (15 - k); rw [show k + 1 + (15 - k) = 16 by omega] at h3; rw [h3]; decide)]; done) | (rw [unmapV, if_pos h0, hf, Int.toNat_natCast, if_neg (by omega), if_neg (by omega), if_pos (by rw [← hk2, show (16 : Nat) = k by omega]), show (16 : Nat) = k by omega]; done) | (rw [unmapV, if_neg hb1]; rfl) | (rw [unmapV, if_pos h0, hf, Int.toNat_natCast, if_pos (by omega)]; rfl) | (rw [unmapV, if_pos h0, hf, Int.toNat_natCast, if_neg (by omega), if_pos (by omega)]; rfl) | (rw [unmapV, if_pos h0, hf, Int.toNat_natCast, if_neg (by omega), if_neg (by omega), if_neg (by have h3 := uE_stop _ _ _ _ (uE_3 hk2 hv (by assumption) (by assumption)) (15 - k); rw [show k + 1 + (15 - k) = 16 by omega] at h3; rw [h3]; decide)]; rfl) | (rw [unmapV, if_pos h0, hf, Int.toNat_natCast, if_neg (by omega), if_neg (by omega), if_pos (by rw [← hk2, show (16 : Nat) = k by omega]), show (16 : Nat) = k by omega]; rfl)))
          done)
      · try simp only [decide_eq_false_iff_not] at hb2
        all_goals (
          refine W_skip ?_
          refine thenQ_n ?_
          refine W_seq ?_
          refine W_seq ?_
          refine W_regionE (c := 28) (c' := 30) (by kernel_rfl) rfl ?_
          refine Runs_p rfl (Valid.movek (A := Is _) rfl rfl) rfl rfl ?_ -- used.go:71 move
          refine Runs_p rfl (Valid.eql rfl rfl rfl) rfl rfl ?_ -- used.go:71 binOp
          refine Runs_nil ?_
          refine thenQ_n ?_
          refine W_cond _ rfl (fun hb3 => ?_) (fun hb3 => ?_)
          · try simp only [decide_eq_true_eq] at hb3
            all_goals (
              refine W_seq ?_
              refine W_regionE (c := 30) (c' := 33) (by kernel_rfl) rfl ?_
              refine Runs_p rfl (Valid.assignk (A := Is _) rfl rfl) rfl rfl ?_ -- used.go:72 assign
              refine Runs_p rfl (Valid.assignk (A := Is _) rfl rfl) rfl rfl ?_ -- used.go:72 assign
              refine Runs_p rfl (Valid.assignk (A := Is _) rfl rfl) rfl rfl ?_ -- used.go:72 assign
              refine Runs_nil ?_
              refine thenQ_n ?_
              refine W_ret ?_
              refine thenQ_r ?_
              refine finQ_r ?_
              refine ResOk.three rfl (RVal.is rfl rfl (by first | (rw [unmapV, if_neg hb1]; done) | (rw [unmapV, if_pos h0, hf, Int.toNat_natCast, if_pos (by omega)]; done) | (rw [unmapV, if_pos h0, hf, Int.toNat_natCast, if_neg (by omega), if_pos (by omega)]; done) | (rw [unmapV, if_pos h0, hf, Int.toNat_natCast, if_neg (by omega), if_neg (by omega), if_neg (by have h3 := uE_stop _ _ _ _ (uE_3 hk2 hv (by assumption) (by assumption)) (15 - k); rw [show k + 1 + (15 - k) = 16 by omega] at h3; rw [h3]; decide)]; done) | (rw [unmapV, if_pos h0, hf, Int.toNat_natCast, if_neg (by omega), if_neg (by omega), if_pos (by rw [← hk2, show (16 : Nat) = k by omega]), show (16 : Nat) = k by omega]; done) | (rw [unmapV, if_neg hb1]; rfl) | (rw [unmapV, if_pos h0, hf, Int.toNat_natCast, if_pos (by omega)]; rfl) | (rw [unmapV, if_pos h0, hf, Int.toNat_natCast, if_neg (by omega), if_pos (by omega)]; rfl) | (rw [unmapV, if_pos h0, hf, Int.toNat_natCast, if_neg (by omega), if_neg (by omega), if_neg (by have h3 := uE_stop _ _ _ _ (uE_3 hk2 hv (by assumption) (by assumption)) (15 - k); rw [show k + 1 + (15 - k) = 16 by omega] at h3; rw [h3]; decide)]; rfl) | (rw [unmapV, if_pos h0, hf, Int.toNat_natCast, if_neg (by omega), if_neg (by omega), if_pos (by rw [← hk2, show (16 : Nat) = k by omega]), show (16 : Nat) = k by omega]; rfl))) (RVal.is rfl rfl (by first | (rw [unmapV, if_neg hb1]; done) | (rw [unmapV, if_pos h0, hf, Int.toNat_natCast, if_pos (by omega)]; done) | (rw [unmapV, if_pos h0, hf, Int.toNat_natCast, if_neg (by omega), if_pos (by omega)]; done) | (rw [unmapV, if_pos h0, hf, Int.toNat_natCast, if_neg (by omega), if_neg (by omega), if_neg (by have h3 := uE_stop _ _ _ _ (uE_3 hk2 hv (by assumption) (by assumption)) (15 - k); rw [show k + 1 + (15 - k) = 16 by omega] at h3; rw [h3]; decide)]; done) | (rw [unmapV, if_pos h0, hf, Int.toNat_natCast, if_neg (by omega), if_neg (by omega), if_pos (by rw [← hk2, show (16 : Nat) = k by omega]), show (16 : Nat) = k by omega]; done) | (rw [unmapV, if_neg hb1]; rfl) | (rw [unmapV, if_pos h0, hf, Int.toNat_natCast, if_pos (by omega)]; rfl) | (rw [unmapV, if_pos h0, hf, Int.toNat_natCast, if_neg (by omega), if_pos (by omega)]; rfl) | (rw [unmapV, if_pos h0, hf, Int.toNat_natCast, if_neg (by omega), if_neg (by omega), if_neg (by have h3 := uE_stop _ _ _ _ (uE_3 hk2 hv (by assumption) (by assumption)) (15 - k); rw [show k + 1 + (15 - k) = 16 by omega] at h3; rw [h3]; decide)]; rfl) | (rw [unmapV, if_pos h0, hf, Int.toNat_natCast, if_neg (by omega), if_neg (by omega), if_pos (by rw [← hk2, show (16 : Nat) = k by omega]), show (16 : Nat) = k by omega]; rfl))) (RVal.is rfl rfl (by first | (rw [unmapV, if_neg hb1]; done) | (rw [unmapV, if_pos h0, hf, Int.toNat_natCast, if_pos (by omega)]; done) | (rw [unmapV, if_pos h0, hf, Int.toNat_natCast, if_neg (by omega), if_pos (by omega)]; done) | (rw [unmapV, if_pos h0, hf, Int.toNat_natCast, if_neg (by omega), if_neg (by omega), if_neg (by have h3 := uE_stop _ _ _ _ (uE_3 hk2 hv (by assumption) (by assumption)) (15 - k); rw [show k + 1 + (15 - k) = 16 by omega] at h3; rw [h3]; decide)]; done) | (rw [unmapV, if_pos h0, hf, Int.toNat_natCast, if_neg (by omega), if_neg (by omega), if_pos (by rw [← hk2, show (16 : Nat) = k by omega]), show (16 : Nat) = k by omega]; done) | (rw [unmapV, if_neg hb1]; rfl) | (rw [unmapV, if_pos h0, hf, Int.toNat_natCast, if_pos (by omega)]; rfl) | (rw [unmapV, if_pos h0, hf, Int.toNat_natCast, if_neg (by omega), if_pos (by omega)]; rfl) | (rw [unmapV, if_pos h0, hf, Int.toNat_natCast, if_neg (by omega), if_neg (by omega), if_neg (by have h3 := uE_stop _ _ _ _ (uE_3 hk2 hv (by assumption) (by assumption)) (15 - k); rw [show k + 1 + (15 - k) = 16 by omega] at h3; rw [h3]; decide)]; rfl) | (rw [unmapV, if_pos h0, hf, Int.toNat_natCast, if_neg (by omega), if_neg (by omega), if_pos (by rw [← hk2, show (16 : Nat) = k by omega]), show (16 : Nat) = k by omega]; rfl)))
              done)
          · try simp only [decide_eq_false_iff_not] at hb3
            all_goals (
              refine W_skip ?_
              refine thenQ_n ?_
              refine W_seq ?_
              refine W_regionE (c := 30) (c' := 31) (by kernel_rfl) rfl ?_
              refine Runs_p rfl (Valid.assignk (A := Is (.slice none 0 0)) rfl rfl) rfl rfl ?_ -- used.go:74 assign
              refine Runs_nil ?_
              refine thenQ_n ?_
              refine W_seq ?_
              refine W_seq ?_
              refine W_regionE (c := 31) (c' := 32) (by kernel_rfl) rfl ?_
              refine Runs_p rfl (Valid.movek (A := Is _) rfl rfl) rfl rfl ?_ -- used.go:75 move
              refine Runs_nil ?_
              refine thenQ_n ?_
              refine W_block ?_
              refine W.ent ?_ (Ent.ownnil 9 5 1 rfl)
              refine W_loopx (G := Nat) (fun (k : Nat) => k ≤ 16 ∧ uE s f (a + 16) k = 0) [(0, Is _), (7, Is _)] (fun (k : Nat) => [(37, Is (.int .i64 (k : Int))), (5, Is (.int .i64 (uN f (a + 16) k))), (9, Own 256 1 (uL s f (a + 16) k).length ((uL s f (a + 16) k).map B))]) [] (fun (k : Nat) => [(256, .row 5 1 (uL s f (a + 16) k).length ((uL s f (a + 16) k).map B))]) 33 (fun (k : Nat) => 16 - k) (0) [] (⟨by omega, uE_0 _ _ _⟩) ⟨⟨(leq_is rfl rfl (by first | rfl | (rw [uN_0]) | (rw [uL_0]; rfl))), (leq_is rfl rfl (by first | rfl | (rw [uN_0]) | (rw [uL_0]; rfl))), (leq_own rfl rfl rfl (by first | rfl | (rw [uN_0]) | (rw [uL_0]; rfl)) (by first | rfl | (rw [uN_0]) | (rw [uL_0]; rfl))), trivial⟩, ⟨(leq_is rfl rfl rfl), (leq_is rfl rfl rfl), trivial⟩, ⟨hp_row rfl (by first | rfl | (rw [uN_0]) | (rw [uL_0]; rfl)) (by first | rfl | (rw [uN_0]) | (rw [uL_0]; rfl)), trivial⟩, trivial, rfl, ⟨supg rfl, supg rfl, supg rfl, trivial⟩, ⟨supg rfl, supg rfl, trivial⟩, ⟨suph rfl rfl, trivial⟩, trivial, rfl, rfl⟩ ?_
              intro k hI1
              obtain ⟨hk1, hk2⟩ := hI1
              have hnl := uN_le f (a + 16) k
              have hul := uL_le s f (a + 16) k
              refine W_seq ?_
              refine W_regionE (c := 33) (c' := 34) (by kernel_rfl) rfl ?_
              refine Runs_p rfl (Valid.lss rfl rfl rfl) rfl rfl ?_ -- used.go:75 binOp
              refine Runs_nil ?_
              refine thenQ_n ?_
              refine W_seq ?_
              refine W_cond _ rfl (fun hb4 => ?_) (fun hb4 => ?_)
              · try simp only [decide_eq_true_eq] at hb4
                all_goals (
                  refine W_skip ?_
                  refine thenQ_n ?_
                  refine W_seq ?_
                  refine W_block ?_
                  refine W_seq ?_
                  refine W_regionE (c := 34) (c' := 36) (by kernel_rfl) rfl ?_
                  refine Runs_p rfl (Valid.movek (A := Is _) rfl rfl) rfl rfl ?_ -- used.go:75 move
                  refine Runs_p rfl (Valid.assignk (A := Is _) rfl rfl) rfl rfl ?_ -- used.go:75 assign
                  refine Runs_nil ?_
                  refine thenQ_n ?_
                  refine W_seq ?_
                  refine W_seq ?_
                  refine W_regionE (c := 36) (c' := 40) (by kernel_rfl) rfl ?_
                  refine Runs_p rfl (Valid.movek (A := Is _) rfl rfl) rfl rfl ?_ -- used.go:76 move
                  refine Runs_p rfl (Valid.movek (A := Is _) rfl rfl) rfl rfl ?_ -- used.go:76 move
                  refine Runs_p rfl (Valid.call rfl (stands_s f _ (by omega) (by omega) (by omega)) ⟨argle rfl, argle rfl, trivial⟩) rfl rfl ?_ -- used.go:76 call
                  refine Runs_p rfl (Valid.not rfl rfl) rfl rfl ?_ -- used.go:76 unOp
                  refine Runs_nil ?_
                  refine thenQ_n ?_
                  refine W_cond _ rfl (fun hb5 => ?_) (fun hb5 => ?_)
                  · try simp only [Int.toNat_natCast, Bool.not_eq_true'] at hb5
                    all_goals (
                      refine W_exit ?_
                      refine thenQ_e ?_
                      refine blockQ_x ?_
                      refine thenQ_n ?_
                      refine W_regionE (c := 40) (c' := 42) (by kernel_rfl) rfl ?_
                      refine Runs_p rfl (Valid.add rfl rfl rfl (room64 (by first | omega | (simp only [Int.toNat_natCast, toNat_add, toNat_add1, List.length_append, List.length_cons, List.length_nil, List.length_replicate]; omega)) (by first | omega | (simp only [Int.toNat_natCast, toNat_add, toNat_add1, List.length_append, List.length_cons, List.length_nil, List.length_replicate]; omega)))) rfl rfl ?_ -- used.go:75 binOp
                      refine Runs_p rfl (Valid.movek (A := Is _) rfl rfl) rfl rfl ?_ -- used.go:75 move
                      refine Runs_nil ?_
                      refine LoopQ.next (k + 1) [] (⟨by omega, by first | exact uE_n hk2 (by assumption) | exact uE_y hk2 hv (by assumption)⟩) (by omega) ⟨⟨(leq_is rfl rfl (by first | rfl | exact congrArg (Value.int .i64) (by omega) | exact congrArg (Value.int .i64) (uN_y (by assumption)) | exact congrArg (Value.int .i64) (uN_n (by assumption)) | (rw [← uL_y (by assumption) hv, show i = 16 by omega]) | (rw [← uL_n (by assumption)]))), (leq_is rfl rfl (by first | rfl | exact congrArg (Value.int .i64) (by omega) | exact congrArg (Value.int .i64) (uN_y (by assumption)) | exact congrArg (Value.int .i64) (uN_n (by assumption)) | (rw [← uL_y (by assumption) hv, show i = 16 by omega]) | (rw [← uL_n (by assumption)]))), (leq_own rfl rfl rfl (by first | rfl | exact congrArg (Value.int .i64) (by omega) | exact congrArg (Value.int .i64) (uN_y (by assumption)) | exact congrArg (Value.int .i64) (uN_n (by assumption)) | (rw [← uL_y (by assumption) hv, show i = 16 by omega]) | (rw [← uL_n (by assumption)])) (by first | rfl | exact congrArg (Value.int .i64) (by omega) | exact congrArg (Value.int .i64) (uN_y (by assumption)) | exact congrArg (Value.int .i64) (uN_n (by assumption)) | (rw [← uL_y (by assumption) hv, show i = 16 by omega]) | (rw [← uL_n (by assumption)]))), trivial⟩, ⟨(leq_is rfl rfl rfl), (leq_is rfl rfl rfl), trivial⟩, ⟨hp_row rfl (by first | rfl | exact congrArg (Value.int .i64) (by omega) | exact congrArg (Value.int .i64) (uN_y (by assumption)) | exact congrArg (Value.int .i64) (uN_n (by assumption)) | (rw [← uL_y (by assumption) hv, show i = 16 by omega]) | (rw [← uL_n (by assumption)])) (by first | rfl | exact congrArg (Value.int .i64) (by omega) | exact congrArg (Value.int .i64) (uN_y (by assumption)) | exact congrArg (Value.int .i64) (uN_n (by assumption)) | (rw [← uL_y (by assumption) hv, show i = 16 by omega]) | (rw [← uL_n (by assumption)])), trivial⟩, trivial, rfl, ⟨supg rfl, supg rfl, supg rfl, trivial⟩, ⟨supg rfl, supg rfl, trivial⟩, ⟨suph rfl rfl, trivial⟩, trivial, rfl, rfl⟩
                      done)
                  · try simp only [Int.toNat_natCast, Bool.not_eq_false'] at hb5
                    all_goals (
                      refine W_skip ?_
                      refine thenQ_n ?_
                      refine W_seq ?_
                      refine W_regionE (c := 40) (c' := 48) (by kernel_rfl) rfl ?_
                      refine Runs_p rfl (Valid.movek (A := Is _) rfl rfl) rfl rfl ?_ -- used.go:79 move
                      refine Runs_p rfl (Valid.movek (A := Is _) rfl rfl) rfl rfl ?_ -- used.go:79 move
                      refine Runs_p rfl (Valid.call rfl (get_f _ _ _ (by omega) (by omega)) ⟨argle rfl, argle rfl, argle rfl, trivial⟩) rfl rfl ?_ -- used.go:79 call
                      refine Runs_p rfl (Valid.movek (A := Tup [Is _, Is _]) rfl rfl) rfl rfl ?_ -- used.go:79 move
                      refine Runs_p rfl (Valid.extract _ rfl rfl rfl) rfl rfl ?_ -- used.go:79 extract
                      refine Runs_p rfl (Valid.extract _ rfl rfl rfl) rfl rfl ?_ -- used.go:79 extract
                      refine Runs_p rfl (Valid.assignk (A := Is _) rfl rfl) rfl rfl ?_ -- used.go:79 assign
                      refine Runs_p rfl (Valid.assignk (A := Is _) rfl rfl) rfl rfl ?_ -- used.go:79 assign
                      refine Runs_nil ?_
                      refine thenQ_n ?_
                      refine W_seq ?_
                      refine W_seq ?_
                      obtain ⟨v, hv, hvl⟩ := getV_n s (uN f (a + 16) k)
                      rw [hv]
                      refine W_regionE (c := 48) (c' := 50) (by kernel_rfl) rfl ?_
                      refine Runs_p rfl (Valid.movek (A := Is _) rfl rfl) rfl rfl ?_ -- used.go:80 move
                      refine Runs_p rfl (Valid.eql rfl rfl rfl) rfl rfl ?_ -- used.go:80 binOp
                      refine Runs_nil ?_
                      refine thenQ_n ?_
                      refine W_cond _ rfl (fun hb6 => ?_) (fun hb6 => ?_)
                      · try simp only [decide_eq_true_eq] at hb6
                        all_goals (
                          refine W_seq ?_
                          refine W_regionE (c := 50) (c' := 53) (by kernel_rfl) rfl ?_
                          refine Runs_p rfl (Valid.assignk (A := Is _) rfl rfl) rfl rfl ?_ -- used.go:81 assign
                          refine Runs_p rfl (Valid.assignk (A := Is _) rfl rfl) rfl rfl ?_ -- used.go:81 assign
                          refine Runs_p rfl (Valid.assignk (A := Is _) rfl rfl) rfl rfl ?_ -- used.go:81 assign
                          refine Runs_nil ?_
                          refine thenQ_n ?_
                          refine W_ret ?_
                          refine thenQ_r ?_
                          refine blockQ_r ?_
                          refine thenQ_r ?_
                          refine loopQ_r ?_
                          refine blockQ_r ?_
                          refine thenQ_r ?_
                          refine finQ_r ?_
                          refine ResOk.three rfl (RVal.is rfl rfl (by first | (rw [unmapV, if_neg hb1]; done) | (rw [unmapV, if_pos h0, hf, Int.toNat_natCast, if_pos (by omega)]; done) | (rw [unmapV, if_pos h0, hf, Int.toNat_natCast, if_neg (by omega), if_pos (by omega)]; done) | (rw [unmapV, if_pos h0, hf, Int.toNat_natCast, if_neg (by omega), if_neg (by omega), if_neg (by have h3 := uE_stop _ _ _ _ (uE_3 hk2 hv (by assumption) (by assumption)) (15 - k); rw [show k + 1 + (15 - k) = 16 by omega] at h3; rw [h3]; decide)]; done) | (rw [unmapV, if_pos h0, hf, Int.toNat_natCast, if_neg (by omega), if_neg (by omega), if_pos (by rw [← hk2, show (16 : Nat) = k by omega]), show (16 : Nat) = k by omega]; done) | (rw [unmapV, if_neg hb1]; rfl) | (rw [unmapV, if_pos h0, hf, Int.toNat_natCast, if_pos (by omega)]; rfl) | (rw [unmapV, if_pos h0, hf, Int.toNat_natCast, if_neg (by omega), if_pos (by omega)]; rfl) | (rw [unmapV, if_pos h0, hf, Int.toNat_natCast, if_neg (by omega), if_neg (by omega), if_neg (by have h3 := uE_stop _ _ _ _ (uE_3 hk2 hv (by assumption) (by assumption)) (15 - k); rw [show k + 1 + (15 - k) = 16 by omega] at h3; rw [h3]; decide)]; rfl) | (rw [unmapV, if_pos h0, hf, Int.toNat_natCast, if_neg (by omega), if_neg (by omega), if_pos (by rw [← hk2, show (16 : Nat) = k by omega]), show (16 : Nat) = k by omega]; rfl))) (RVal.is rfl rfl (by first | (rw [unmapV, if_neg hb1]; done) | (rw [unmapV, if_pos h0, hf, Int.toNat_natCast, if_pos (by omega)]; done) | (rw [unmapV, if_pos h0, hf, Int.toNat_natCast, if_neg (by omega), if_pos (by omega)]; done) | (rw [unmapV, if_pos h0, hf, Int.toNat_natCast, if_neg (by omega), if_neg (by omega), if_neg (by have h3 := uE_stop _ _ _ _ (uE_3 hk2 hv (by assumption) (by assumption)) (15 - k); rw [show k + 1 + (15 - k) = 16 by omega] at h3; rw [h3]; decide)]; done) | (rw [unmapV, if_pos h0, hf, Int.toNat_natCast, if_neg (by omega), if_neg (by omega), if_pos (by rw [← hk2, show (16 : Nat) = k by omega]), show (16 : Nat) = k by omega]; done) | (rw [unmapV, if_neg hb1]; rfl) | (rw [unmapV, if_pos h0, hf, Int.toNat_natCast, if_pos (by omega)]; rfl) | (rw [unmapV, if_pos h0, hf, Int.toNat_natCast, if_neg (by omega), if_pos (by omega)]; rfl) | (rw [unmapV, if_pos h0, hf, Int.toNat_natCast, if_neg (by omega), if_neg (by omega), if_neg (by have h3 := uE_stop _ _ _ _ (uE_3 hk2 hv (by assumption) (by assumption)) (15 - k); rw [show k + 1 + (15 - k) = 16 by omega] at h3; rw [h3]; decide)]; rfl) | (rw [unmapV, if_pos h0, hf, Int.toNat_natCast, if_neg (by omega), if_neg (by omega), if_pos (by rw [← hk2, show (16 : Nat) = k by omega]), show (16 : Nat) = k by omega]; rfl))) (RVal.is rfl rfl (by first | (rw [unmapV, if_neg hb1]; done) | (rw [unmapV, if_pos h0, hf, Int.toNat_natCast, if_pos (by omega)]; done) | (rw [unmapV, if_pos h0, hf, Int.toNat_natCast, if_neg (by omega), if_pos (by omega)]; done) | (rw [unmapV, if_pos h0, hf, Int.toNat_natCast, if_neg (by omega), if_neg (by omega), if_neg (by have h3 := uE_stop _ _ _ _ (uE_3 hk2 hv (by assumption) (by assumption)) (15 - k); rw [show k + 1 + (15 - k) = 16 by omega] at h3; rw [h3]; decide)]; done) | (rw [unmapV, if_pos h0, hf, Int.toNat_natCast, if_neg (by omega), if_neg (by omega), if_pos (by rw [← hk2, show (16 : Nat) = k by omega]), show (16 : Nat) = k by omega]; done) | (rw [unmapV, if_neg hb1]; rfl) | (rw [unmapV, if_pos h0, hf, Int.toNat_natCast, if_pos (by omega)]; rfl) | (rw [unmapV, if_pos h0, hf, Int.toNat_natCast, if_neg (by omega), if_pos (by omega)]; rfl) | (rw [unmapV, if_pos h0, hf, Int.toNat_natCast, if_neg (by omega), if_neg (by omega), if_neg (by have h3 := uE_stop _ _ _ _ (uE_3 hk2 hv (by assumption) (by assumption)) (15 - k); rw [show k + 1 + (15 - k) = 16 by omega] at h3; rw [h3]; decide)]; rfl) | (rw [unmapV, if_pos h0, hf, Int.toNat_natCast, if_neg (by omega), if_neg (by omega), if_pos (by rw [← hk2, show (16 : Nat) = k by omega]), show (16 : Nat) = k by omega]; rfl)))
                          done)
                      · try simp only [decide_eq_false_iff_not] at hb6
                        all_goals (
                          refine W_skip ?_
                          refine thenQ_n ?_
                          refine W_seq ?_
                          refine W_regionE (c := 50) (c' := 53) (by kernel_rfl) rfl ?_
                          refine Runs_p rfl (Valid.movek (A := Is _) rfl rfl) rfl rfl ?_ -- used.go:83 move
                          refine Runs_p rfl (Valid.add rfl rfl rfl (room64 (by first | omega | (simp only [Int.toNat_natCast, toNat_add, toNat_add1, List.length_append, List.length_cons, List.length_nil, List.length_replicate]; omega)) (by first | omega | (simp only [Int.toNat_natCast, toNat_add, toNat_add1, List.length_append, List.length_cons, List.length_nil, List.length_replicate]; omega)))) rfl rfl ?_ -- used.go:83 binOp
                          refine Runs_p rfl (Valid.assignk (A := Is _) rfl rfl) rfl rfl ?_ -- used.go:83 assign
                          refine Runs_nil ?_
                          refine thenQ_n ?_
                          refine W_seq ?_
                          refine W_regionE (c := 53) (c' := 54) (by kernel_rfl) rfl ?_
                          refine Runs_p rfl (Valid.movek (A := Is _) rfl rfl) rfl rfl ?_ -- used.go:84 move
                          refine Runs_nil ?_
                          refine thenQ_n ?_
                          refine W_block ?_
                          refine W_loopx (G := Nat) (fun (i : Nat) => i ≤ 16) [(0, Is _), (5, Is _), (7, Is _), (10, Is _), (11, Is _), (37, Is _)] (fun (i : Nat) => [(54, Is (.int .i64 (i : Int))), (9, Own 256 1 (uL s f (a + 16) k ++ rL v k i).length ((uL s f (a + 16) k ++ rL v k i).map B))]) [] (fun (i : Nat) => [(256, .row 5 1 (uL s f (a + 16) k ++ rL v k i).length ((uL s f (a + 16) k ++ rL v k i).map B))]) 54 (fun (i : Nat) => 16 - i) (0) [] (by first | trivial | omega | (simp; omega)) ⟨⟨(leq_is rfl rfl (by first | rfl | (rw [← rL_z]))), (leq_own rfl rfl rfl (by first | rfl | (rw [← rL_z])) (by first | rfl | (rw [← rL_z]))), trivial⟩, ⟨(leq_is rfl rfl rfl), (leq_is rfl rfl rfl), (leq_is rfl rfl rfl), (leq_is rfl rfl rfl), (leq_is rfl rfl rfl), (leq_is rfl rfl rfl), trivial⟩, ⟨hp_row rfl (by first | rfl | (rw [← rL_z])) (by first | rfl | (rw [← rL_z])), trivial⟩, trivial, rfl, ⟨supg rfl, supg rfl, trivial⟩, ⟨supg rfl, supg rfl, supg rfl, supg rfl, supg rfl, supg rfl, trivial⟩, ⟨suph rfl rfl, trivial⟩, trivial, rfl, rfl⟩ ?_
                          intro i hI2
                          have hrl := rL_le v k i
                          have hll : (uL s f (a + 16) k ++ rL v k i).length = (uL s f (a + 16) k).length + (rL v k i).length := List.length_append
                          refine W_seq ?_
                          refine W_regionE (c := 54) (c' := 55) (by kernel_rfl) rfl ?_
                          refine Runs_p rfl (Valid.lss rfl rfl rfl) rfl rfl ?_ -- used.go:84 binOp
                          refine Runs_nil ?_
                          refine thenQ_n ?_
                          refine W_seq ?_
                          refine W_cond _ rfl (fun hb7 => ?_) (fun hb7 => ?_)
                          · try simp only [decide_eq_true_eq] at hb7
                            all_goals (
                              refine W_skip ?_
                              refine thenQ_n ?_
                              refine W_seq ?_
                              refine W_block ?_
                              refine W_seq ?_
                              refine W_regionE (c := 55) (c' := 57) (by kernel_rfl) rfl ?_
                              refine Runs_p rfl (Valid.movek (A := Is _) rfl rfl) rfl rfl ?_ -- used.go:84 move
                              refine Runs_p rfl (Valid.assignk (A := Is _) rfl rfl) rfl rfl ?_ -- used.go:84 assign
                              refine Runs_nil ?_
                              refine thenQ_n ?_
                              refine W_seq ?_
                              refine W_regionE (c := 57) (c' := 60) (by kernel_rfl) rfl ?_
                              refine Runs_p rfl (Valid.movek (A := Is _) rfl rfl) rfl rfl ?_ -- used.go:85 move
                              refine Runs_p rfl (Valid.movek (A := Is _) rfl rfl) rfl rfl ?_ -- used.go:85 move
                              refine Runs_p rfl (Valid.call rfl (stands_s v _ (by omega) (by omega) (by omega)) ⟨argle rfl, argle rfl, trivial⟩) rfl rfl ?_ -- used.go:85 call
                              refine Runs_nil ?_
                              refine thenQ_n ?_
                              refine W_cond _ rfl (fun hb8 => ?_) (fun hb8 => ?_)
                              · try simp only [Int.toNat_natCast] at hb8
                                all_goals (
                                  refine W_regionE (c := 60) (c' := 69) (by kernel_rfl) rfl ?_
                                  refine Runs_p rfl (Valid.movek (A := Own 256 1 _ _) rfl rfl) rfl rfl ?_ -- used.go:86 move
                                  refine Runs_p rfl (Valid.movek (A := Is _) rfl rfl) rfl rfl ?_ -- used.go:86 move
                                  refine Runs_p rfl (Valid.mul rfl rfl rfl (room64 (by first | omega | (simp only [Int.toNat_natCast, toNat_add, toNat_add1, List.length_append, List.length_cons, List.length_nil, List.length_replicate]; omega)) (by first | omega | (simp only [Int.toNat_natCast, toNat_add, toNat_add1, List.length_append, List.length_cons, List.length_nil, List.length_replicate]; omega)))) rfl rfl ?_ -- used.go:86 binOp
                                  refine Runs_p rfl (Valid.movek (A := Is _) rfl rfl) rfl rfl ?_ -- used.go:86 move
                                  refine Runs_p rfl (Valid.add rfl rfl rfl (room64 (by first | omega | (simp only [Int.toNat_natCast, toNat_add, toNat_add1, List.length_append, List.length_cons, List.length_nil, List.length_replicate]; omega)) (by first | omega | (simp only [Int.toNat_natCast, toNat_add, toNat_add1, List.length_append, List.length_cons, List.length_nil, List.length_replicate]; omega)))) rfl rfl ?_ -- used.go:86 binOp
                                  refine Runs_p rfl (Valid.convr rfl rfl Try.underlying3 Try.underlying5 (by unfold Room; rw [IntKind.wrap_u8]; omega)) rfl rfl ?_ -- used.go:86 convert
                                  refine Runs_p rfl (Valid.lit (el := 5) [_] rfl rfl (fun _ => by kernel_rfl) rfl (by decide)) rfl rfl ?_ -- used.go:86 buildSlice
                                  refine Runs_w rfl (Valid.app rfl Try.underlying27 ti5 (by decide) rfl rfl (Reads.sl rfl) (by first | exact one_map (fun _ => rfl) | exact one_cons rfl one_nil | exact one_app (one_map (fun _ => rfl)) (one_cons rfl one_nil) | exact one_app (one_map (fun _ => rfl)) (one_map (fun _ => rfl)) | exact one_rep rfl | exact one_app (one_rep rfl) (one_map (fun _ => rfl)) | (intro u hu; simp at hu; rcases hu with rfl | hu <;> first | rfl | (subst hu; rfl))) (by first | (simp only [maxLen]; omega) | (simp only [maxLen, Int.toNat_natCast, toNat_add, toNat_add1, List.length_append, List.length_cons, List.length_nil, List.length_replicate]; omega)) (by first | omega | (simp only [Int.toNat_natCast, toNat_add, toNat_add1, List.length_append, List.length_cons, List.length_nil, List.length_replicate]; omega))) rfl rfl ?_ -- used.go:86 call
                                  refine Runs_p rfl (Valid.assignk (A := Own 536 1 _ _) rfl rfl) rfl rfl ?_ -- used.go:86 assign
                                  refine Runs_nil ?_
                                  refine blockQ_n ?_
                                  refine thenQ_n ?_
                                  refine W_regionE (c := 69) (c' := 71) (by kernel_rfl) rfl ?_
                                  refine Runs_p rfl (Valid.add rfl rfl rfl (room64 (by first | omega | (simp only [Int.toNat_natCast, toNat_add, toNat_add1, List.length_append, List.length_cons, List.length_nil, List.length_replicate]; omega)) (by first | omega | (simp only [Int.toNat_natCast, toNat_add, toNat_add1, List.length_append, List.length_cons, List.length_nil, List.length_replicate]; omega)))) rfl rfl ?_ -- used.go:84 binOp
                                  refine Runs_p rfl (Valid.movek (A := Is _) rfl rfl) rfl rfl ?_ -- used.go:84 move
                                  refine Runs_nil ?_
                                  refine LoopQ.next (i + 1) [(256, 536)] (by omega) (by omega) ⟨⟨(leq_is rfl rfl (by first | rfl | exact rL_y (by omega) (by omega) (by assumption) | exact rL_yl (by assumption) | (rw [← rL_n (by assumption)]))), (leq_own rfl rfl rfl (by first | rfl | exact rL_y (by omega) (by omega) (by assumption) | exact rL_yl (by assumption) | (rw [← rL_n (by assumption)])) (by first | rfl | exact rL_y (by omega) (by omega) (by assumption) | exact rL_yl (by assumption) | (rw [← rL_n (by assumption)]))), trivial⟩, ⟨(leq_is rfl rfl rfl), (leq_is rfl rfl rfl), (leq_is rfl rfl rfl), (leq_is rfl rfl rfl), (leq_is rfl rfl rfl), (leq_is rfl rfl rfl), trivial⟩, ⟨hp_row rfl (by first | rfl | exact rL_y (by omega) (by omega) (by assumption) | exact rL_yl (by assumption) | (rw [← rL_n (by assumption)])) (by first | rfl | exact rL_y (by omega) (by omega) (by assumption) | exact rL_yl (by assumption) | (rw [← rL_n (by assumption)])), trivial⟩, trivial, rfl, ⟨supg rfl, supg rfl, trivial⟩, ⟨supg rfl, supg rfl, supg rfl, supg rfl, supg rfl, supg rfl, trivial⟩, ⟨suph rfl rfl, trivial⟩, trivial, rfl, rfl⟩
                                  done)
                              · try simp only [Int.toNat_natCast] at hb8
                                all_goals (
                                  refine W_skip ?_
                                  refine blockQ_n ?_
                                  refine thenQ_n ?_
                                  refine W_regionE (c := 60) (c' := 62) (by kernel_rfl) rfl ?_
                                  refine Runs_p rfl (Valid.add rfl rfl rfl (room64 (by first | omega | (simp only [Int.toNat_natCast, toNat_add, toNat_add1, List.length_append, List.length_cons, List.length_nil, List.length_replicate]; omega)) (by first | omega | (simp only [Int.toNat_natCast, toNat_add, toNat_add1, List.length_append, List.length_cons, List.length_nil, List.length_replicate]; omega)))) rfl rfl ?_ -- used.go:84 binOp
                                  refine Runs_p rfl (Valid.movek (A := Is _) rfl rfl) rfl rfl ?_ -- used.go:84 move
                                  refine Runs_nil ?_
                                  refine LoopQ.next (i + 1) [] (by omega) (by omega) ⟨⟨(leq_is rfl rfl (by first | rfl | exact rL_y (by omega) (by omega) (by assumption) | exact rL_yl (by assumption) | (rw [← rL_n (by assumption)]))), (leq_own rfl rfl rfl (by first | rfl | exact rL_y (by omega) (by omega) (by assumption) | exact rL_yl (by assumption) | (rw [← rL_n (by assumption)])) (by first | rfl | exact rL_y (by omega) (by omega) (by assumption) | exact rL_yl (by assumption) | (rw [← rL_n (by assumption)]))), trivial⟩, ⟨(leq_is rfl rfl rfl), (leq_is rfl rfl rfl), (leq_is rfl rfl rfl), (leq_is rfl rfl rfl), (leq_is rfl rfl rfl), (leq_is rfl rfl rfl), trivial⟩, ⟨hp_row rfl (by first | rfl | exact rL_y (by omega) (by omega) (by assumption) | exact rL_yl (by assumption) | (rw [← rL_n (by assumption)])) (by first | rfl | exact rL_y (by omega) (by omega) (by assumption) | exact rL_yl (by assumption) | (rw [← rL_n (by assumption)])), trivial⟩, trivial, rfl, ⟨supg rfl, supg rfl, trivial⟩, ⟨supg rfl, supg rfl, supg rfl, supg rfl, supg rfl, supg rfl, trivial⟩, ⟨suph rfl rfl, trivial⟩, trivial, rfl, rfl⟩
                                  done)
                              done)
                          · try simp only [decide_eq_false_iff_not] at hb7
                            all_goals (
                              refine W_exit ?_
                              refine thenQ_e ?_
                              refine loopQ_e ?_
                              refine blockQ_x ?_
                              refine blockQ_n ?_
                              refine thenQ_n ?_
                              refine W_regionE (c := 55) (c' := 57) (by kernel_rfl) rfl ?_
                              refine Runs_p rfl (Valid.add rfl rfl rfl (room64 (by first | omega | (simp only [Int.toNat_natCast, toNat_add, toNat_add1, List.length_append, List.length_cons, List.length_nil, List.length_replicate]; omega)) (by first | omega | (simp only [Int.toNat_natCast, toNat_add, toNat_add1, List.length_append, List.length_cons, List.length_nil, List.length_replicate]; omega)))) rfl rfl ?_ -- used.go:75 binOp
                              refine Runs_p rfl (Valid.movek (A := Is _) rfl rfl) rfl rfl ?_ -- used.go:75 move
                              refine Runs_nil ?_
                              refine LoopQ.next (k + 1) [] (⟨by omega, by first | exact uE_n hk2 (by assumption) | exact uE_y hk2 hv (by assumption)⟩) (by omega) ⟨⟨(leq_is rfl rfl (by first | rfl | exact congrArg (Value.int .i64) (by omega) | exact congrArg (Value.int .i64) (uN_y (by assumption)) | exact congrArg (Value.int .i64) (uN_n (by assumption)) | (rw [← uL_y (by assumption) hv, show i = 16 by omega]) | (rw [← uL_n (by assumption)]))), (leq_is rfl rfl (by first | rfl | exact congrArg (Value.int .i64) (by omega) | exact congrArg (Value.int .i64) (uN_y (by assumption)) | exact congrArg (Value.int .i64) (uN_n (by assumption)) | (rw [← uL_y (by assumption) hv, show i = 16 by omega]) | (rw [← uL_n (by assumption)]))), (leq_own rfl rfl rfl (by first | rfl | exact congrArg (Value.int .i64) (by omega) | exact congrArg (Value.int .i64) (uN_y (by assumption)) | exact congrArg (Value.int .i64) (uN_n (by assumption)) | (rw [← uL_y (by assumption) hv, show i = 16 by omega]) | (rw [← uL_n (by assumption)])) (by first | rfl | exact congrArg (Value.int .i64) (by omega) | exact congrArg (Value.int .i64) (uN_y (by assumption)) | exact congrArg (Value.int .i64) (uN_n (by assumption)) | (rw [← uL_y (by assumption) hv, show i = 16 by omega]) | (rw [← uL_n (by assumption)]))), trivial⟩, ⟨(leq_is rfl rfl rfl), (leq_is rfl rfl rfl), trivial⟩, ⟨hp_row rfl (by first | rfl | exact congrArg (Value.int .i64) (by omega) | exact congrArg (Value.int .i64) (uN_y (by assumption)) | exact congrArg (Value.int .i64) (uN_n (by assumption)) | (rw [← uL_y (by assumption) hv, show i = 16 by omega]) | (rw [← uL_n (by assumption)])) (by first | rfl | exact congrArg (Value.int .i64) (by omega) | exact congrArg (Value.int .i64) (uN_y (by assumption)) | exact congrArg (Value.int .i64) (uN_n (by assumption)) | (rw [← uL_y (by assumption) hv, show i = 16 by omega]) | (rw [← uL_n (by assumption)])), trivial⟩, trivial, rfl, ⟨supg rfl, supg rfl, supg rfl, trivial⟩, ⟨supg rfl, supg rfl, trivial⟩, ⟨suph rfl rfl, trivial⟩, trivial, rfl, rfl⟩
                              done)
                          done)
                      done)
                  done)
              · try simp only [decide_eq_false_iff_not] at hb4
                all_goals (
                  refine W_exit ?_
                  refine thenQ_e ?_
                  refine loopQ_e ?_
                  refine blockQ_x ?_
                  refine thenQ_n ?_
                  refine W_seq ?_
                  refine W_regionE (c := 34) (c' := 40) (by kernel_rfl) rfl ?_
                  refine Runs_p rfl (Valid.movek (A := Own 256 1 _ _) rfl rfl) rfl rfl ?_ -- used.go:90 move
                  refine Runs_p rfl (Valid.tostring rfl Try.underlying27 Try.underlying5 Try.underlying9 (Reads.own rfl)) rfl rfl ?_ -- used.go:90 convert
                  refine Runs_p rfl (Valid.movek (A := Is _) rfl rfl) rfl rfl ?_ -- used.go:90 move
                  refine Runs_p rfl (Valid.assignk (A := Is _) rfl rfl) rfl rfl ?_ -- used.go:90 assign
                  refine Runs_p rfl (Valid.assignk (A := Is _) rfl rfl) rfl rfl ?_ -- used.go:90 assign
                  refine Runs_p rfl (Valid.assignk (A := Is _) rfl rfl) rfl rfl ?_ -- used.go:90 assign
                  refine Runs_nil ?_
                  refine thenQ_n ?_
                  refine W_ret ?_
                  refine finQ_r ?_
                  refine ResOk.three rfl (RVal.is rfl rfl (by first | (rw [unmapV, if_neg hb1]; done) | (rw [unmapV, if_pos h0, hf, Int.toNat_natCast, if_pos (by omega)]; done) | (rw [unmapV, if_pos h0, hf, Int.toNat_natCast, if_neg (by omega), if_pos (by omega)]; done) | (rw [unmapV, if_pos h0, hf, Int.toNat_natCast, if_neg (by omega), if_neg (by omega), if_neg (by have h3 := uE_stop _ _ _ _ (uE_3 hk2 hv (by assumption) (by assumption)) (15 - k); rw [show k + 1 + (15 - k) = 16 by omega] at h3; rw [h3]; decide)]; done) | (rw [unmapV, if_pos h0, hf, Int.toNat_natCast, if_neg (by omega), if_neg (by omega), if_pos (by rw [← hk2, show (16 : Nat) = k by omega]), show (16 : Nat) = k by omega]; done) | (rw [unmapV, if_neg hb1]; rfl) | (rw [unmapV, if_pos h0, hf, Int.toNat_natCast, if_pos (by omega)]; rfl) | (rw [unmapV, if_pos h0, hf, Int.toNat_natCast, if_neg (by omega), if_pos (by omega)]; rfl) | (rw [unmapV, if_pos h0, hf, Int.toNat_natCast, if_neg (by omega), if_neg (by omega), if_neg (by have h3 := uE_stop _ _ _ _ (uE_3 hk2 hv (by assumption) (by assumption)) (15 - k); rw [show k + 1 + (15 - k) = 16 by omega] at h3; rw [h3]; decide)]; rfl) | (rw [unmapV, if_pos h0, hf, Int.toNat_natCast, if_neg (by omega), if_neg (by omega), if_pos (by rw [← hk2, show (16 : Nat) = k by omega]), show (16 : Nat) = k by omega]; rfl))) (RVal.is rfl rfl (by first | (rw [unmapV, if_neg hb1]; done) | (rw [unmapV, if_pos h0, hf, Int.toNat_natCast, if_pos (by omega)]; done) | (rw [unmapV, if_pos h0, hf, Int.toNat_natCast, if_neg (by omega), if_pos (by omega)]; done) | (rw [unmapV, if_pos h0, hf, Int.toNat_natCast, if_neg (by omega), if_neg (by omega), if_neg (by have h3 := uE_stop _ _ _ _ (uE_3 hk2 hv (by assumption) (by assumption)) (15 - k); rw [show k + 1 + (15 - k) = 16 by omega] at h3; rw [h3]; decide)]; done) | (rw [unmapV, if_pos h0, hf, Int.toNat_natCast, if_neg (by omega), if_neg (by omega), if_pos (by rw [← hk2, show (16 : Nat) = k by omega]), show (16 : Nat) = k by omega]; done) | (rw [unmapV, if_neg hb1]; rfl) | (rw [unmapV, if_pos h0, hf, Int.toNat_natCast, if_pos (by omega)]; rfl) | (rw [unmapV, if_pos h0, hf, Int.toNat_natCast, if_neg (by omega), if_pos (by omega)]; rfl) | (rw [unmapV, if_pos h0, hf, Int.toNat_natCast, if_neg (by omega), if_neg (by omega), if_neg (by have h3 := uE_stop _ _ _ _ (uE_3 hk2 hv (by assumption) (by assumption)) (15 - k); rw [show k + 1 + (15 - k) = 16 by omega] at h3; rw [h3]; decide)]; rfl) | (rw [unmapV, if_pos h0, hf, Int.toNat_natCast, if_neg (by omega), if_neg (by omega), if_pos (by rw [← hk2, show (16 : Nat) = k by omega]), show (16 : Nat) = k by omega]; rfl))) (RVal.is rfl rfl (by first | (rw [unmapV, if_neg hb1]; done) | (rw [unmapV, if_pos h0, hf, Int.toNat_natCast, if_pos (by omega)]; done) | (rw [unmapV, if_pos h0, hf, Int.toNat_natCast, if_neg (by omega), if_pos (by omega)]; done) | (rw [unmapV, if_pos h0, hf, Int.toNat_natCast, if_neg (by omega), if_neg (by omega), if_neg (by have h3 := uE_stop _ _ _ _ (uE_3 hk2 hv (by assumption) (by assumption)) (15 - k); rw [show k + 1 + (15 - k) = 16 by omega] at h3; rw [h3]; decide)]; done) | (rw [unmapV, if_pos h0, hf, Int.toNat_natCast, if_neg (by omega), if_neg (by omega), if_pos (by rw [← hk2, show (16 : Nat) = k by omega]), show (16 : Nat) = k by omega]; done) | (rw [unmapV, if_neg hb1]; rfl) | (rw [unmapV, if_pos h0, hf, Int.toNat_natCast, if_pos (by omega)]; rfl) | (rw [unmapV, if_pos h0, hf, Int.toNat_natCast, if_neg (by omega), if_pos (by omega)]; rfl) | (rw [unmapV, if_pos h0, hf, Int.toNat_natCast, if_neg (by omega), if_neg (by omega), if_neg (by have h3 := uE_stop _ _ _ _ (uE_3 hk2 hv (by assumption) (by assumption)) (15 - k); rw [show k + 1 + (15 - k) = 16 by omega] at h3; rw [h3]; decide)]; rfl) | (rw [unmapV, if_pos h0, hf, Int.toNat_natCast, if_neg (by omega), if_neg (by omega), if_pos (by rw [← hk2, show (16 : Nat) = k by omega]), show (16 : Nat) = k by omega]; rfl)))
                  done)
              done)
          done)
      done)
end Ge
end Go.Proofs.Ytlcephckjhiggaa
