/-
  CONTRACTS of law01: awake, pick; ref01: Of; law01: Bits.
-/
import Derived.Test.YtnpmkbjellgecaaBc
namespace Go.Proofs.Ytnpmkbjellgecaa
open Go.RowKit
namespace Bt
open Bm
theorem put_closed (b : List Bool) (t : ByteArray) (m x y : Int) (v n : Nat) (u : Value) (w : World) (hb : Value.agg #[.string t, .int .i64 m] = bv b) (hx : x = (v : Int)) (hy : y = (n : Int)) (hv : v < 2 ^ 64) (hn : n ≤ 64) (hl : b.length ≤ 100000000000000) (hu : bv (b ++ num v n) = u) :
    Calls Try.prog 11 #[.agg #[.string t, .int .i64 m], .int .u64 x, .int .i64 y] w fun e w' => e = .returned (.tuple #[u, .int .i64 0]) ∧ Below w.heap.size w w' := by
  rw [hb, ← hu]
  exact put_ok b _ x y v n w rfl hx hy hv hn hl
theorem get_closed (s : ByteArray) (x y : Int) (a n v : Nat) (w : World) (hx : x = (a : Int)) (hy : y = (n : Int)) (hn : n ≤ 64) (hs : s.size * 8 ≤ 9223372036854775807) (han : a + n ≤ 8 * s.size) (hv : val (bitsAt s.data.toList a n) = v) :
    Calls Try.prog 12 #[.string s, .int .i64 x, .int .i64 y] w fun e w' => e = .returned (.tuple #[.int .u64 (v : Int), .int .i64 0]) ∧ Below w.heap.size w w' := by
  rw [← hv]
  exact get_ok s x y a n w hx hy hn hs han
theorem right_closed (s : ByteArray) (n : Int) (r : Bool) (w : World) (hs : s.size * 8 ≤ 9223372036854775807) (hn1 : -9223372036854775808 ≤ n) (hn2 : n ≤ 9223372036854775807) (hr : right s.data.toList n = r) :
    Calls Try.prog 13 #[.agg #[.string s, .int .i64 n]] w fun e w' => e = .returned (.bool r) ∧ Below w.heap.size w w' := by
  rw [← hr]; exact right_at s n w hs hn1 hn2
theorem same_closed (t s : ByteArray) (a m : Int) (b : List Bool) (r : Bool) (w : World) (hb : Value.agg #[.string s, .int .i64 m] = bv b) (hs : t.size * 8 ≤ 9223372036854775807) (hl : b.length ≤ 100000000000000) (ha : a ≤ 9000000000000000000) (hr : same t.data.toList a b = r) :
    Calls Try.prog 14 #[.string t, .int .i64 a, .agg #[.string s, .int .i64 m]] w fun e w' => e = .returned (.bool r) ∧ Below w.heap.size w w' := by
  rw [hb, ← hr]
  exact same_ok t a _ b w rfl hs hl ha
def b3 : List Bool := [true, false, true]
def b5 : List Bool := [true, false, true, false, true]
def b8 : List Bool := [true, false, true, true, false, true, false, true]
theorem v0 : Value.agg #[.string ⟨#[]⟩, .int .i64 0] = bv [] := by kernel_rfl
theorem v3 : bv b3 = Value.agg #[.string ⟨#[160]⟩, .int .i64 3] := by kernel_rfl
theorem v5 : bv b5 = Value.agg #[.string ⟨#[168]⟩, .int .i64 5] := by kernel_rfl
theorem v8 : bv b8 = Value.agg #[.string ⟨#[181]⟩, .int .i64 8] := by kernel_rfl
theorem keep {w w' : World} {b o : Nat} {sp : Option Nat} {u : Value} (h : w.cell? ⟨b, o, sp⟩ = some u) (hb : Below w.heap.size w w') : w'.cell? ⟨b, o, sp⟩ = some u := by
  rw [hb.cell (Kit.lt_of_cell h)]; exact h
theorem kept_new {w w' : World} {cs : Array Value} {t : TypeId} (hb : Below (w.alloc (.cells cs t)).heap.size (w.alloc (.cells cs t)) w') : Below w.heap.size w w' ∧ ∀ j u, cs[j]? = some u → w'.cell? ⟨w.heap.size, j, none⟩ = some u :=
  ⟨((Below.refl w.heap.size w).alloc (Nat.le_refl _) _).trans (hb.mono (by simp)), fun j u h => by rw [hb.cell (by simp), new_cell rfl]; exact h⟩
theorem Bl.lit (w : World) (a b : ByteArray × Int) (t : TypeId) : Bl (w.alloc (.cells #[.string a.1, .int .i64 a.2, .string b.1, .int .i64 b.2] t)) (w.heap.size + 1) (.slice (some ⟨w.heap.size, 0, none⟩) 2 2) [a, b] := by
  refine .inr ⟨w.heap.size, 0, 2, rfl, by omega, by simp, by unfold maxLen; omega, fun i hi => ?_⟩
  have hi2 : i < 2 := by simpa using hi
  rw [new_cell rfl, new_cell rfl]
  rcases i with _ | _ | i
  · exact ⟨rfl, rfl⟩
  · exact ⟨rfl, rfl⟩
  · omega
theorem cat_closed (a b : List Bool) (s t : ByteArray) (m n : Int) (u : Value) (ty : TypeId) (w : World) (ha : (s, m) = both a) (hb : (t, n) = both b) (hl : a.length + b.length ≤ 100000000000000) (hu : bv (a ++ b) = u) :
    Calls Try.prog 15 #[.slice (some ⟨w.heap.size, 0, none⟩) 2 2] (w.alloc (.cells #[.string s, .int .i64 m, .string t, .int .i64 n] ty)) fun e w' => e = .returned (.tuple #[u, .int .i64 0]) ∧ Below (w.heap.size + 1) (w.alloc (.cells #[.string s, .int .i64 m, .string t, .int .i64 n] ty)) w' := by
  have h := Bl.lit w (s, m) (t, n) ty
  rw [ha, hb] at h
  have h2 := cat_ok (.slice (some ⟨w.heap.size, 0, none⟩) 2 2) [a, b] (w.alloc (.cells #[.string (both a).1, .int .i64 (both a).2, .string (both b).1, .int .i64 (both b).2] ty)) (h.below (by simp) (Below.refl _ _)) (by simpa using hl)
  have e1 : s = (both a).1 := congrArg Prod.fst ha
  have e2 : m = (both a).2 := congrArg Prod.snd ha
  have e3 : t = (both b).1 := congrArg Prod.fst hb
  have e4 : n = (both b).2 := congrArg Prod.snd hb
  subst e1 e2 e3 e4
  refine h2.mono fun e w' ⟨he, hb⟩ => ⟨?_, hb.mono (by simp)⟩
  rw [he, ← hu]
  simp
set_option maxRecDepth 100000 in
set_option maxHeartbeats 4000000 in
theorem awake_at (w : World) : Calls Try.prog 8 #[] w fun e w' => e = .returned (.bool true) ∧ Below w.heap.size w w' := by
  go_enter Try.func8, Try.ntmps8
  go_wp2_with fail
  refine (put_closed [] _ _ _ _ 5 3 _ _ v0 rfl rfl (by omega) (by omega) (by simp) (by kernel_rfl : bv ([] ++ num 5 3) = .agg #[.string ⟨#[160]⟩, .int .i64 3])).mono ?_
  rintro e w1 ⟨rfl, hb1⟩
  have Hb1 := Lib.hid hb1
  clear hb1
  go_wp2_with fail
  refine (put_closed b3 _ _ _ _ 1 2 _ _ v3.symm rfl rfl (by omega) (by omega) (by decide) (by kernel_rfl : bv (b3 ++ num 1 2) = .agg #[.string ⟨#[168]⟩, .int .i64 5])).mono ?_
  rintro e w2 ⟨rfl, hb2⟩
  obtain ⟨hc2, hn2⟩ := kept_new hb2
  clear hb2
  have hb2 := hc2
  clear hc2
  have a20 := hn2 0 (.string ⟨#[160]⟩) rfl
  have a21 := hn2 1 (.int .i64 3) rfl
  have Hb2 := Lib.hid (Hb1.out.trans (hb2.mono Hb1.out.size))
  clear hb2 hn2 Hb1
  go_wp2_with fail
  refine (get_closed _ _ _ 2 3 5 _ rfl rfl (by omega) (by decide) (by decide) (by decide +kernel)).mono ?_
  rintro e w3 ⟨rfl, hb3⟩
  obtain ⟨hc3, hn3⟩ := kept_new hb3
  clear hb3
  have hb3 := hc3
  clear hc3
  have a30 := hn3 0 (.string ⟨#[168]⟩) rfl
  have a31 := hn3 1 (.int .i64 5) rfl
  have b30 := keep a20 hb3
  have b31 := keep a21 hb3
  have Hb3 := Lib.hid (Hb2.out.trans (hb3.mono Hb2.out.size))
  clear hb3 hn3 Hb2 a20 a21
  go_wp2_with fail
  refine (get_short _ _ _ 6 3 _ rfl rfl (by omega) (by decide) (by decide) (by decide)).mono ?_
  rintro e w4 ⟨rfl, hb4⟩
  have a40 := keep a30 hb4
  have a41 := keep a31 hb4
  have b40 := keep b30 hb4
  have b41 := keep b31 hb4
  have Hb4 := Lib.hid (Hb3.out.trans (hb4.mono Hb3.out.size))
  clear hb4 Hb3 a30 a31 b30 b31
  go_wp2_with fail
  refine (get_arg _ _ _ _ (by decide)).mono ?_
  rintro e w5 ⟨rfl, hb5⟩
  have a50 := keep a40 hb5
  have a51 := keep a41 hb5
  have b50 := keep b40 hb5
  have b51 := keep b41 hb5
  have Hb5 := Lib.hid (Hb4.out.trans (hb5.mono Hb4.out.size))
  clear hb5 Hb4 a40 a41 b40 b41
  go_wp2_with fail
  refine (cat_closed b3 b5 _ _ _ _ _ _ _ (by kernel_rfl) (by kernel_rfl) (by decide) (by kernel_rfl : bv (b3 ++ b5) = .agg #[.string ⟨#[181]⟩, .int .i64 8])).mono ?_
  rintro e w6 ⟨rfl, hb6⟩
  have hb6' : Below w5.heap.size w5 w6 := ((Below.refl w5.heap.size w5).alloc (Nat.le_refl _) _).trans (hb6.mono (by simp))
  have a60 := keep a50 hb6'
  have a61 := keep a51 hb6'
  have b60 := keep b50 hb6'
  have b61 := keep b51 hb6'
  have Hb6 := Lib.hid (Hb5.out.trans (hb6'.mono Hb5.out.size))
  clear hb6 hb6' Hb5 a50 a51 b50 b51
  go_wp2_with fail
  refine (put_bad _ _ _ _ _ (.inl (by decide +kernel)) (by decide) (by decide) (by decide)).mono ?_
  rintro e w7 ⟨rfl, hb7⟩
  obtain ⟨hc7, hn7⟩ := kept_new hb7
  clear hb7
  have hb7 := hc7
  clear hc7
  have c70 := hn7 0 (.string ⟨#[181]⟩) rfl
  have c71 := hn7 1 (.int .i64 8) rfl
  have a70 := keep a60 hb7
  have a71 := keep a61 hb7
  have b70 := keep b60 hb7
  have b71 := keep b61 hb7
  have Hb7 := Lib.hid (Hb6.out.trans (hb7.mono Hb6.out.size))
  clear hb7 hn7 Hb6 a60 a61 b60 b61
  have l1 := Kit.lt_of_cell b70
  have l2 := Kit.lt_of_cell a70
  have l3 := Kit.lt_of_cell c70
  unfold noBits
  go_wp2_with fail
  refine (right_closed _ _ true _ (by decide) (by decide) (by decide) (by decide +kernel)).mono ?_
  rintro e w8 ⟨rfl, hb8⟩
  have a80 := keep ((old_cell (o := .cells #[.string ⟨#[]⟩, .int .i64 0] 26) l2).trans a70) hb8
  have a81 := keep ((old_cell (o := .cells #[.string ⟨#[]⟩, .int .i64 0] 26) l2).trans a71) hb8
  have Hb8 := Lib.hid (Hb7.out.trans (((Below.refl w7.heap.size w7).alloc (Nat.le_refl _) (.cells #[.string ⟨#[]⟩, .int .i64 0] 26)).trans (hb8.mono (by simp)) |>.mono Hb7.out.size))
  clear hb8 Hb7 a70 a71 b70 b71 c70 c71 l1 l2 l3
  go_wp2_with fail
  refine (right_closed _ _ false _ (by decide) (by decide) (by decide) (by decide +kernel)).mono ?_
  rintro e w9 ⟨rfl, hb9⟩
  have a90 := keep a80 hb9
  have a91 := keep a81 hb9
  have Hb9 := Lib.hid (Hb8.out.trans (hb9.mono Hb8.out.size))
  clear hb9 Hb8 a80 a81
  go_wp2_with fail
  refine (same_closed _ _ _ _ b5 true _ v5.symm (by decide) (by decide) (by decide) (by decide +kernel)).mono ?_
  rintro e w10 ⟨rfl, hb10⟩
  have Hb10 := Lib.hid (Hb9.out.trans (hb10.mono Hb9.out.size))
  clear hb10 Hb9 a90 a91
  go_wp2
  go_ret
  exact ⟨rfl, Hb10.out⟩
end Bt
end Go.Proofs.Ytnpmkbjellgecaa
