/-
  CONTRACTS of package crc: Fold, Unfold, All; and of the law's awake and pick.
-/
import Derived.Test.YtlfbkkfcbpallaaMore
import Derived.Test.YtlfbkkfcbpallaaKit
namespace Go.Proofs.Ytlfbkkfcbpallaa
open Go.RowKit
namespace Crc

def rl (a : BitVec 32) : BitVec 32 := a.rotateLeft 1
def rr (a : BitVec 32) : BitVec 32 := a.rotateLeft 31
def fold (a b : BitVec 32) : BitVec 32 := rl a ^^^ b
def unfold' (a b : BitVec 32) : BitVec 32 := rr (a ^^^ b)
def all (l : List (BitVec 32)) : BitVec 32 := l.foldl fold 0#32
def U (c : BitVec 32) : Value := .int .u32 (c.toNat : Int)

theorem or_u (a b : BitVec 32) : bits BinOp.or IntKind.u32 (a.toNat : Int) (b.toNat : Int) = ((a ||| b).toNat : Int) := by
  rw [u32_or_nat _ _ a.isLt b.isLt, BitVec.toNat_or]
theorem shr_u (c : BitVec 32) (k : Nat) (m : Int) (hm : m = 2 ^ k) : (c.toNat : Int) / m = ((c >>> k).toNat : Int) := by
  subst hm
  rw [BitVec.toNat_ushiftRight, Nat.shiftRight_eq_div_pow]; simp
theorem shl_u (c : BitVec 32) (k : Nat) (m : Int) (hm : m = 2 ^ k) : (c.toNat : Int) * m % 4294967296 = ((c <<< k).toNat : Int) := by
  subst hm
  rw [BitVec.toNat_shiftLeft, Nat.shiftLeft_eq]; simp

set_option maxHeartbeats 400000 in
theorem rotl (x : Int) (c : BitVec 32) (w : World) (hx : x = (c.toNat : Int)) :
    Calls Try.prog 24 #[.int .u32 x, .int .i64 1] w fun e w' => e = .returned (.int .u32 ((rl c).toNat : Int)) ∧ w = w' := by
  have x0 : 0 ≤ x := by omega
  have x1 : x ≤ 4294967295 := by have := c.isLt; omega
  have HX := Lib.hid hx
  clear hx
  have e1 : bits BinOp.and IntKind.u64 1 31 = 1 := by decide
  go_enter Try.func24, Try.ntmps24
  go_wp2
  go_ret
  refine ⟨?_, rfl⟩
  have e2 := shl_u c 1 2 (by decide)
  have e3 := shr_u c 31 2147483648 (by decide)
  refine Kit.ret_int ?_
  rw [HX.out, e2, e3, or_u]
  rfl
set_option maxHeartbeats 400000 in
theorem rotr (x : Int) (c : BitVec 32) (w : World) (hx : x = (c.toNat : Int)) :
    Calls Try.prog 24 #[.int .u32 x, .int .i64 (-1)] w fun e w' => e = .returned (.int .u32 ((rr c).toNat : Int)) ∧ w = w' := by
  have x0 : 0 ≤ x := by omega
  have x1 : x ≤ 4294967295 := by have := c.isLt; omega
  have HX := Lib.hid hx
  clear hx
  have e1 : bits BinOp.and IntKind.u64 (IntKind.u64.wrap (-1)) 31 = 31 := by decide
  go_enter Try.func24, Try.ntmps24
  go_wp2
  go_ret
  refine ⟨?_, rfl⟩
  have e2 := shl_u c 31 2147483648 (by decide)
  have e3 := shr_u c 1 2 (by decide)
  refine Kit.ret_int ?_
  rw [HX.out, e2, e3, or_u]
  rfl

theorem fold_at (x y : Int) (a b : BitVec 32) (w : World) (hx : x = (a.toNat : Int)) (hy : y = (b.toNat : Int)) :
    Calls Try.prog 14 #[.int .u32 x, .int .u32 y] w fun e w' => e = .returned (.int .u32 ((fold a b).toNat : Int)) ∧ w = w' := by
  have HX := Lib.hid hx
  have HY := Lib.hid hy
  clear hx hy
  go_enter Try.func14, Try.ntmps14
  go_wp2_with (go_at_call 24; refine (rotl _ a _ HX.out).mono ?_; rintro e w1 ⟨rfl, rfl⟩)
  go_ret
  refine ⟨Kit.ret_int ?_, rfl⟩
  rw [HY.out, xor_u]; rfl

theorem fold_closed (x y : Int) (a b : BitVec 32) (v : Int) (w : World) (hx : x = (a.toNat : Int)) (hy : y = (b.toNat : Int)) (hv : ((fold a b).toNat : Int) = v) :
    Calls Try.prog 14 #[.int .u32 x, .int .u32 y] w fun e w' => e = .returned (.int .u32 v) ∧ w = w' := by
  subst hv; exact fold_at x y a b w hx hy
theorem unfold_at (x y : Int) (a b : BitVec 32) (w : World) (hx : x = (a.toNat : Int)) (hy : y = (b.toNat : Int)) :
    Calls Try.prog 16 #[.int .u32 x, .int .u32 y] w fun e w' => e = .returned (.int .u32 ((unfold' a b).toNat : Int)) ∧ w = w' := by
  have hz : bits BinOp.xor IntKind.u32 x y = ((a ^^^ b).toNat : Int) := by rw [hx, hy, xor_u]
  have HZ := Lib.hid hz
  clear hx hy hz
  go_enter Try.func16, Try.ntmps16
  go_wp2_with (go_at_call 24; refine (rotr _ (a ^^^ b) _ HZ.out).mono ?_; rintro e w1 ⟨rfl, rfl⟩)
  go_ret
  exact ⟨rfl, rfl⟩

theorem unfold_closed (x y : Int) (a b : BitVec 32) (v : Int) (w : World) (hx : x = (a.toNat : Int)) (hy : y = (b.toNat : Int)) (hv : ((unfold' a b).toNat : Int) = v) :
    Calls Try.prog 16 #[.int .u32 x, .int .u32 y] w fun e w' => e = .returned (.int .u32 v) ∧ w = w' := by
  subst hv; exact unfold_at x y a b w hx hy
theorem all_snoc (l : List (BitVec 32)) (b : BitVec 32) : all (l ++ [b]) = fold (all l) b := by simp [all, List.foldl_append]

set_option maxHeartbeats 400000 in
theorem all_at (v : Value) (n : Nat) (xs : List (BitVec 32)) (w : World) (h : Kit.Sl w 1 v n (xs.map U)) :
    Calls Try.prog 18 #[v] w fun e w' => e = .returned (.int .u32 ((all xs).toNat : Int)) ∧ w = w' := by
  obtain ⟨hl, ⟨rfl, rfl⟩ | ⟨a, c, rfl, h1, h2, hc⟩⟩ := h
  · have hn : xs = [] := List.eq_nil_of_length_eq_zero (by simpa using hl)
    subst hn
    go_enter Try.func18, Try.ntmps18
    go_wp2
    refine wp_loop_rounds 1 ?_
    rw [rounds_succ]
    go_wp2
    go_ret
    exact ⟨rfl, rfl⟩
  · obtain ⟨b, off, sp⟩ := a
    have hl' : xs.length = n := by simpa using hl
    unfold maxLen at h2
    have Hl := Lib.hid hl'
    have Hc := Lib.hid hc
    clear hl hl' hc
    go_enter Try.func18, Try.ntmps18
    go_wp2
    go_loop [3, 5, 8] (fun r _ i => ∃ k : Nat, k ≤ n ∧ i = .int .i64 k ∧ r = .int .u32 ((all (xs.take k)).toNat : Int)) (fun _ _ i => n - (intOf i).toNat)
    case atStart => exact ⟨0, by omega, rfl, rfl⟩
    case round =>
      obtain ⟨k, hk, rfl, rfl⟩ := hrel
      by_cases hlt : k < n
      · have hkl : k < xs.length := by have := Hl.out; omega
        have hs : xs.take (k + 1) = xs.take k ++ [xs[k]] := by rw [List.take_succ_eq_append_getElem hkl]
        have hg : (xs.map U)[k]? = some (.int .u32 (xs[k].toNat : Int)) := by simp [hkl, U]
        obtain ⟨hsp, hcell⟩ := Hc.out k _ hg
        subst hsp
        have Hs := Lib.hid hs
        clear hs hg
        go_wp2_with (go_at_call 14; refine (fold_at _ _ (all (xs.take k)) xs[k] _ rfl rfl).mono ?_; rintro e w1 ⟨rfl, rfl⟩)
        go_round
        case rel => exact ⟨k + 1, by omega, by go_num, by rw [Hs.out, all_snoc]⟩
        case measure => simp [intOf]; omega
      · obtain rfl : k = n := by omega
        have ht : xs.take k = xs := List.take_of_length_le (by have := Hl.out; omega)
        go_wp2
        go_ret
        exact ⟨rfl, rfl⟩

theorem all_closed (v : Value) (n : Nat) (xs : List (BitVec 32)) (r : Int) (w : World) (h : Kit.Sl w 1 v n (xs.map U)) (hr : ((all xs).toNat : Int) = r) :
    Calls Try.prog 18 #[v] w fun e w' => e = .returned (.int .u32 r) ∧ w = w' := by
  subst hr; exact all_at v n xs w h
theorem more_closed (x : Int) (c : BitVec 32) (s : ByteArray) (v : Int) (w : World) (hx : x = (c.toNat : Int)) (hv : ((more c s.data.toList).toNat : Int) = v) (hs : s.size ≤ maxLen) :
    Calls Try.prog 12 #[.int .u32 x, .string s] w fun e w' => e = .returned (.int .u32 v) ∧ Below w.heap.size w w' := by
  subst hv; exact more_at x c s w hx hs
theorem sum_closed (s : ByteArray) (v : Int) (w : World) (hv : ((more 0#32 s.data.toList).toNat : Int) = v) (hs : s.size ≤ maxLen) :
    Calls Try.prog 10 #[.string s] w fun e w' => e = .returned (.int .u32 v) ∧ Below w.heap.size w w' := by
  subst hv; exact sum_at s w hs

set_option maxHeartbeats 400000 in
theorem pick_at (c n : Int) (w : World) (h1 : -9223372036854775808 ≤ c) (h2 : c ≤ 9223372036854775807) (hn : 1 ≤ n) (hn2 : n ≤ 9223372036854775807) :
    Calls Try.prog 20 #[.int .i64 c, .int .i64 n] w fun e w' => (∃ k : Nat, (k : Int) < n ∧ e = .returned (.int .i64 k)) ∧ w = w' := by
  by_cases hc : c < 0
  · go_enter Try.func20, Try.ntmps20
    go_wp2
    go_ret
    refine ⟨⟨((-(c + 1)).tmod n).toNat, ?_, ?_⟩, rfl⟩
    · rw [Int.tmod_eq_emod_of_nonneg (by omega), Int.toNat_of_nonneg (Int.emod_nonneg _ (by omega))]
      exact Int.emod_lt_of_pos _ (by omega)
    · refine Kit.ret_int ?_
      rw [Int.toNat_of_nonneg (by rw [Int.tmod_eq_emod_of_nonneg (by omega)]; exact Int.emod_nonneg _ (by omega)), Int.neg_tmod]
  · go_enter Try.func20, Try.ntmps20
    go_wp2
    go_ret
    refine ⟨⟨(c % n).toNat, ?_, Kit.ret_int ?_⟩, rfl⟩
    · rw [Int.toNat_of_nonneg (Int.emod_nonneg _ (by omega))]
      exact Int.emod_lt_of_pos _ (by omega)
    · rw [Int.toNat_of_nonneg (Int.emod_nonneg _ (by omega))]

set_option maxHeartbeats 400000 in
theorem awake_at (w : World) : Calls Try.prog 9 #[] w fun e w' => e = .returned (.bool true) ∧ Below w.heap.size w w' := by
  go_enter Try.func9, Try.ntmps9
  go_wp2_with fail
  refine (sum_closed _ 0 _ (by decide +kernel) (by decide)).mono ?_
  rintro e w1 ⟨rfl, hb1⟩
  go_wp2_with fail
  refine (sum_closed _ 4236843288 _ (by decide +kernel) (by decide)).mono ?_
  rintro e w2 ⟨rfl, hb2⟩
  go_wp2_with fail
  refine (fold_closed _ _ 2147483648#32 0#32 1 _ rfl rfl (by decide)).mono ?_
  rintro e w2 ⟨rfl, rfl⟩
  go_wp2_with fail
  refine (unfold_closed _ _ 1#32 0#32 2147483648 _ rfl rfl (by decide)).mono ?_
  rintro e w2 ⟨rfl, rfl⟩
  go_wp2_with fail
  refine (all_closed _ 2 [1#32, 2#32] 0 _ (Kit.Sl.lit w2 #[.int .u32 1, .int .u32 2] 22 1 2 rfl (by unfold maxLen; omega)) (by decide)).mono ?_
  rintro e w3 ⟨rfl, rfl⟩
  go_wp2_with fail
  refine (all_closed _ 0 [] 0 _ (Kit.Sl.nil _ 1) (by decide)).mono ?_
  rintro e w3 ⟨rfl, rfl⟩
  go_wp2_with fail
  refine (sum_at _ _ (by decide)).mono ?_
  rintro e w3 ⟨rfl, hb3⟩
  go_wp2_with fail
  refine (more_closed _ _ _ 4236843288 _ rfl (by decide +kernel) (by decide)).mono ?_
  rintro e w4 ⟨rfl, hb4⟩
  go_wp2_with fail
  go_ret
  refine ⟨rfl, ?_⟩
  have hb3' := hb3.mono (B' := w2.heap.size) (by simp)
  exact (hb1.trans (hb2.mono hb1.size)).trans ((((Below.refl _ _).alloc (Nat.le_refl _) _).trans (hb3'.trans (hb4.mono (by have := hb3.size; simp at this; omega)))).mono (Nat.le_trans hb1.size hb2.size))
end Crc
end Go.Proofs.Ytlfbkkfcbpallaa
