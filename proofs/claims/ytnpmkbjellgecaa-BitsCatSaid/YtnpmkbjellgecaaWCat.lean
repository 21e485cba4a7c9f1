/-
  THE WALK of BitsCat.
-/
import Derived.Test.YtnpmkbjellgecaaWBack
import Derived.Test.YtnpmkbjellgecaaCarry
namespace Go.Proofs.Ytnpmkbjellgecaa
open Go.RowKit
namespace BitsCat
open Bm Bt
theorem Bl3 (w : World) (a b c : ByteArray × Int) (t : TypeId) : Bl (w.alloc (.cells #[.string a.1, .int .i64 a.2, .string b.1, .int .i64 b.2, .string c.1, .int .i64 c.2] t)) (w.heap.size + 1) (.slice (some ⟨w.heap.size, 0, none⟩) 3 3) [a, b, c] := by
  refine .inr ⟨w.heap.size, 0, 3, rfl, by omega, by simp, by unfold maxLen; omega, fun i hi => ?_⟩
  have hi2 : i < 3 := by simpa using hi
  rw [new_cell rfl, new_cell rfl]
  rcases i with _ | _ | _ | i
  · exact ⟨rfl, rfl⟩
  · exact ⟨rfl, rfl⟩
  · exact ⟨rfl, rfl⟩
  · omega
theorem cat3 (a b c u : List Bool) (B : Nat) (ty : TypeId) (w : World) (hB : B = w.heap.size) (hl : a.length + b.length + c.length ≤ 100000000000000) (hu : a ++ (b ++ c) = u) :
    Calls Try.prog 15 #[.slice (some ⟨B, 0, none⟩) 3 3] (w.alloc (.cells #[.string (pack a), .int .i64 (a.length : Int), .string (pack b), .int .i64 (b.length : Int), .string (pack c), .int .i64 (c.length : Int)] ty)) fun e w' => e = .returned (.tuple #[.agg #[.string (pack u), .int .i64 (u.length : Int)], .int .i64 0]) ∧ Below w.heap.size w w' := by
  subst hB
  have h := Bl3 w (both a) (both b) (both c) ty
  have h2 := cat_ok (.slice (some ⟨w.heap.size, 0, none⟩) 3 3) [a, b, c] _ (h.below (by simp) (Below.refl _ _)) (by simpa [Nat.add_assoc] using hl)
  refine h2.mono fun e w' ⟨he, hb⟩ => ⟨?_, Kit.off_alloc hb⟩
  rw [he, ← hu]
  simp [bv]
theorem cat2 (a b u : List Bool) (B : Nat) (ty : TypeId) (w : World) (hB : B = w.heap.size) (hl : a.length + b.length ≤ 100000000000000) (hu : a ++ b = u) :
    Calls Try.prog 15 #[.slice (some ⟨B, 0, none⟩) 2 2] (w.alloc (.cells #[.string (pack a), .int .i64 (a.length : Int), .string (pack b), .int .i64 (b.length : Int)] ty)) fun e w' => e = .returned (.tuple #[.agg #[.string (pack u), .int .i64 (u.length : Int)], .int .i64 0]) ∧ Below w.heap.size w w' := by
  subst hB
  have h := Bl.lit w (both a) (both b) ty
  have h2 := cat_ok (.slice (some ⟨w.heap.size, 0, none⟩) 2 2) [a, b] _ (h.below (by simp) (Below.refl _ _)) (by simpa using hl)
  refine h2.mono fun e w' ⟨he, hb⟩ => ⟨?_, Kit.off_alloc hb⟩
  rw [he, ← hu]
  simp [bv]
set_option maxRecDepth 100000 in
set_option maxHeartbeats 8000000 in
theorem walk {w : World} (v1 : Value) (n1 : Nat) (z1 : List Int) (s1 : Kit.Sl w 1 v1 n1 (z1.map (Value.int .i64))) (hz1 : ∀ x ∈ z1, -9223372036854775808 ≤ x ∧ x ≤ 9223372036854775807)
    (v2 : Value) (n2 : Nat) (z2 : List Int) (s2 : Kit.Sl w 1 v2 n2 (z2.map (Value.int .i64))) (hz2 : ∀ x ∈ z2, -9223372036854775808 ≤ x ∧ x ≤ 9223372036854775807)
    (v3 : Value) (n3 : Nat) (z3 : List Int) (s3 : Kit.Sl w 1 v3 n3 (z3.map (Value.int .i64))) (hz3 : ∀ x ∈ z3, -9223372036854775808 ≤ x ∧ x ≤ 9223372036854775807)
    (x : Nat) (hx : x < 2 ^ 64) (m : Int) (c1 : -9223372036854775808 ≤ m) (c2 : m ≤ 9223372036854775807) :
    Calls Try.prog 4 #[v1, v2, v3, .int .u64 (x : Int), .int .i64 m] w fun e w' => e = .returned (.bool true) ∧ Below w.heap.size w w' := by
  have Hx := Lib.hid hx
  clear hx
  go_enter Try.func4, Try.ntmps4
  go_wp2_with fail
  refine (awake_at w).mono ?_
  rintro e w1 ⟨rfl, hb⟩
  have Hb := Lib.hid hb
  clear hb
  go_wp2_with fail
  refine (lawbits_at v1 n1 z1 80 w1 (s1.below Hb.out) hz1 (by omega)).mono ?_
  rintro e w2 ⟨⟨a, hal, rfl⟩, hb⟩
  have Hal := Lib.hid hal
  clear hal
  replace Hb := Lib.hid (Below.trans (Hid.out Hb) (Below.mono hb (Below.size (Hid.out Hb))))
  clear hb
  unfold bv
  go_wp2_with fail
  refine (lawbits_at v2 n2 z2 80 _ ((s2.below Hb.out).below ((Below.refl _ _).alloc (Nat.le_refl _) _)) hz2 (by omega)).mono ?_
  rintro e w3 ⟨⟨b, hbl, rfl⟩, hb⟩
  have Hbl := Lib.hid hbl
  clear hbl
  have a0 := Kit.cell_at hb 0 (.string (pack a)) rfl
  have a1 := Kit.cell_at hb 1 (.int .i64 (a.length : Int)) rfl
  have la := Kit.size_at hb
  replace hb := Kit.off_alloc hb
  try replace a0 := Kit.keep_cell a0 hb
  try replace a1 := Kit.keep_cell a1 hb
  try replace la := Kit.keep_lt la hb
  replace Hb := Lib.hid (Below.trans (Hid.out Hb) (Below.mono hb (Below.size (Hid.out Hb))))
  clear hb
  unfold bv
  go_wp2_with fail
  refine (lawbits_at v3 n3 z3 80 _ ((s3.below Hb.out).below ((Below.refl _ _).alloc (Nat.le_refl _) _)) hz3 (by omega)).mono ?_
  rintro e w4 ⟨⟨c, hcl, rfl⟩, hb⟩
  have Hcl := Lib.hid hcl
  clear hcl
  have b0 := Kit.cell_at hb 0 (.string (pack b)) rfl
  have b1 := Kit.cell_at hb 1 (.int .i64 (b.length : Int)) rfl
  have lb := Kit.size_at hb
  replace hb := Kit.off_alloc hb
  try replace a0 := Kit.keep_cell a0 hb
  try replace a1 := Kit.keep_cell a1 hb
  try replace la := Kit.keep_lt la hb
  try replace b0 := Kit.keep_cell b0 hb
  try replace b1 := Kit.keep_cell b1 hb
  try replace lb := Kit.keep_lt lb hb
  replace Hb := Lib.hid (Below.trans (Hid.out Hb) (Below.mono hb (Below.size (Hid.out Hb))))
  clear hb
  unfold bv
  go_wp2_with fail
  refine (pick_at m 65 _ c1 c2 (by omega) (by omega)).mono ?_
  rintro e w5 ⟨⟨k, hk, rfl⟩, rfl⟩
  have Hk : Hid (k ≤ 64) := (by omega : k ≤ 64)
  clear hk
  obtain ⟨T, hT⟩ : ∃ T, a ++ (b ++ c) = T := ⟨_, rfl⟩
  obtain ⟨U, hU⟩ : ∃ U, a ++ b = U := ⟨_, rfl⟩
  obtain ⟨V, hV⟩ : ∃ V, b ++ c = V := ⟨_, rfl⟩
  obtain ⟨Z, hZ⟩ : ∃ Z, a ++ num x k = Z := ⟨_, rfl⟩
  obtain ⟨N, hN⟩ : ∃ N, num x k = N := ⟨_, rfl⟩
  have hUl : U.length ≤ 160 := by rw [← hU, List.length_append]; have := Hal.out; have := Hbl.out; omega
  have hVl : V.length ≤ 160 := by rw [← hV, List.length_append]; have := Hcl.out; have := Hbl.out; omega
  have hTl : T.length = a.length + b.length + c.length := by rw [← hT, List.length_append, List.length_append]; omega
  have hNl : N.length = k := by rw [← hN, num_len]
  have HT := Lib.hid hT
  have HU := Lib.hid hU
  have HV := Lib.hid hV
  have HZ := Lib.hid hZ
  have HN := Lib.hid hN
  have HUl := Lib.hid hUl
  have HVl := Lib.hid hVl
  have HTl := Lib.hid hTl
  have HNl := Lib.hid hNl
  clear hT hU hV hZ hN hUl hVl hTl hNl
  go_wp2_with fail
  refine (cat3 a b c T _ _ _ (by simp) (by have := Hal.out; have := Hbl.out; have := Hcl.out; omega) HT.out).mono ?_
  rintro e w5 ⟨rfl, hb⟩
  have c0 := Kit.cell_at hb 0 (.string (pack c)) rfl
  have c1 := Kit.cell_at hb 1 (.int .i64 (c.length : Int)) rfl
  have lc := Kit.size_at hb
  replace hb := Kit.off_alloc hb
  try replace a0 := Kit.keep_cell a0 hb
  try replace a1 := Kit.keep_cell a1 hb
  try replace la := Kit.keep_lt la hb
  try replace b0 := Kit.keep_cell b0 hb
  try replace b1 := Kit.keep_cell b1 hb
  try replace lb := Kit.keep_lt lb hb
  try replace c0 := Kit.keep_cell c0 hb
  try replace c1 := Kit.keep_cell c1 hb
  try replace lc := Kit.keep_lt lc hb
  replace Hb := Lib.hid (Below.trans (Hid.out Hb) (Below.mono hb (Below.size (Hid.out Hb))))
  clear hb
  go_wp2_with fail
  refine (cat2 a b U _ _ _ (by simp) (by have := Hal.out; have := Hbl.out; omega) HU.out).mono ?_
  rintro e w6 ⟨rfl, hb⟩
  have t0 := Kit.cell_at hb 0 (.string (pack T)) rfl
  have t1 := Kit.cell_at hb 1 (.int .i64 (T.length : Int)) rfl
  have lt := Kit.size_at hb
  replace hb := Kit.off_alloc hb
  try replace a0 := Kit.keep_cell a0 hb
  try replace a1 := Kit.keep_cell a1 hb
  try replace la := Kit.keep_lt la hb
  try replace b0 := Kit.keep_cell b0 hb
  try replace b1 := Kit.keep_cell b1 hb
  try replace lb := Kit.keep_lt lb hb
  try replace c0 := Kit.keep_cell c0 hb
  try replace c1 := Kit.keep_cell c1 hb
  try replace lc := Kit.keep_lt lc hb
  try replace t0 := Kit.keep_cell t0 hb
  try replace t1 := Kit.keep_cell t1 hb
  try replace lt := Kit.keep_lt lt hb
  replace Hb := Lib.hid (Below.trans (Hid.out Hb) (Below.mono hb (Below.size (Hid.out Hb))))
  clear hb
  go_wp2_with fail
  refine (cat2 b c V _ _ _ (by simp) (by have := Hcl.out; have := Hbl.out; omega) HV.out).mono ?_
  rintro e w7 ⟨rfl, hb⟩
  have u0 := Kit.cell_at hb 0 (.string (pack U)) rfl
  have u1 := Kit.cell_at hb 1 (.int .i64 (U.length : Int)) rfl
  have lu := Kit.size_at hb
  replace hb := Kit.off_alloc hb
  try replace a0 := Kit.keep_cell a0 hb
  try replace a1 := Kit.keep_cell a1 hb
  try replace la := Kit.keep_lt la hb
  try replace b0 := Kit.keep_cell b0 hb
  try replace b1 := Kit.keep_cell b1 hb
  try replace lb := Kit.keep_lt lb hb
  try replace c0 := Kit.keep_cell c0 hb
  try replace c1 := Kit.keep_cell c1 hb
  try replace lc := Kit.keep_lt lc hb
  try replace t0 := Kit.keep_cell t0 hb
  try replace t1 := Kit.keep_cell t1 hb
  try replace lt := Kit.keep_lt lt hb
  try replace u0 := Kit.keep_cell u0 hb
  try replace u1 := Kit.keep_cell u1 hb
  try replace lu := Kit.keep_lt lu hb
  replace Hb := Lib.hid (Below.trans (Hid.out Hb) (Below.mono hb (Below.size (Hid.out Hb))))
  clear hb
  go_wp2_with fail
  refine (cat2 U c T _ _ _ (by simp) (by have := Hcl.out; have := HUl.out; omega) (by rw [← HU.out, ← HT.out, List.append_assoc])).mono ?_
  rintro e w8 ⟨rfl, hb⟩
  have q0 := Kit.cell_at hb 0 (.string (pack V)) rfl
  have q1 := Kit.cell_at hb 1 (.int .i64 (V.length : Int)) rfl
  have lq := Kit.size_at hb
  replace hb := Kit.off_alloc hb
  try replace a0 := Kit.keep_cell a0 hb
  try replace a1 := Kit.keep_cell a1 hb
  try replace la := Kit.keep_lt la hb
  try replace b0 := Kit.keep_cell b0 hb
  try replace b1 := Kit.keep_cell b1 hb
  try replace lb := Kit.keep_lt lb hb
  try replace c0 := Kit.keep_cell c0 hb
  try replace c1 := Kit.keep_cell c1 hb
  try replace lc := Kit.keep_lt lc hb
  try replace t0 := Kit.keep_cell t0 hb
  try replace t1 := Kit.keep_cell t1 hb
  try replace lt := Kit.keep_lt lt hb
  try replace u0 := Kit.keep_cell u0 hb
  try replace u1 := Kit.keep_cell u1 hb
  try replace lu := Kit.keep_lt lu hb
  try replace q0 := Kit.keep_cell q0 hb
  try replace q1 := Kit.keep_cell q1 hb
  try replace lq := Kit.keep_lt lq hb
  replace Hb := Lib.hid (Below.trans (Hid.out Hb) (Below.mono hb (Below.size (Hid.out Hb))))
  clear hb
  go_wp2_with fail
  refine (cat2 a V T _ _ _ (by simp) (by have := Hal.out; have := HVl.out; omega) (by rw [← HV.out, ← HT.out])).mono ?_
  rintro e w9 ⟨rfl, hb⟩
  have x0 := Kit.cell_at hb 0 (.string (pack T)) rfl
  have x1 := Kit.cell_at hb 1 (.int .i64 (T.length : Int)) rfl
  have lx := Kit.size_at hb
  replace hb := Kit.off_alloc hb
  try replace a0 := Kit.keep_cell a0 hb
  try replace a1 := Kit.keep_cell a1 hb
  try replace la := Kit.keep_lt la hb
  try replace b0 := Kit.keep_cell b0 hb
  try replace b1 := Kit.keep_cell b1 hb
  try replace lb := Kit.keep_lt lb hb
  try replace c0 := Kit.keep_cell c0 hb
  try replace c1 := Kit.keep_cell c1 hb
  try replace lc := Kit.keep_lt lc hb
  try replace t0 := Kit.keep_cell t0 hb
  try replace t1 := Kit.keep_cell t1 hb
  try replace lt := Kit.keep_lt lt hb
  try replace u0 := Kit.keep_cell u0 hb
  try replace u1 := Kit.keep_cell u1 hb
  try replace lu := Kit.keep_lt lu hb
  try replace q0 := Kit.keep_cell q0 hb
  try replace q1 := Kit.keep_cell q1 hb
  try replace lq := Kit.keep_lt lq hb
  try replace x0 := Kit.keep_cell x0 hb
  try replace x1 := Kit.keep_cell x1 hb
  try replace lx := Kit.keep_lt lx hb
  replace Hb := Lib.hid (Below.trans (Hid.out Hb) (Below.mono hb (Below.size (Hid.out Hb))))
  clear hb
  go_wp2_with fail
  refine (put_closed [] _ _ _ _ x k _ _ v0 rfl rfl Hx.out Hk.out (by simp) (by rw [List.nil_append, HN.out, bv])).mono ?_
  rintro e w10 ⟨rfl, hb⟩
  have y0 := Kit.cell_at hb 0 (.string (pack T)) rfl
  have y1 := Kit.cell_at hb 1 (.int .i64 (T.length : Int)) rfl
  have ly := Kit.size_at hb
  replace hb := Kit.off_alloc hb
  try replace a0 := Kit.keep_cell a0 hb
  try replace a1 := Kit.keep_cell a1 hb
  try replace la := Kit.keep_lt la hb
  try replace b0 := Kit.keep_cell b0 hb
  try replace b1 := Kit.keep_cell b1 hb
  try replace lb := Kit.keep_lt lb hb
  try replace c0 := Kit.keep_cell c0 hb
  try replace c1 := Kit.keep_cell c1 hb
  try replace lc := Kit.keep_lt lc hb
  try replace t0 := Kit.keep_cell t0 hb
  try replace t1 := Kit.keep_cell t1 hb
  try replace lt := Kit.keep_lt lt hb
  try replace u0 := Kit.keep_cell u0 hb
  try replace u1 := Kit.keep_cell u1 hb
  try replace lu := Kit.keep_lt lu hb
  try replace q0 := Kit.keep_cell q0 hb
  try replace q1 := Kit.keep_cell q1 hb
  try replace lq := Kit.keep_lt lq hb
  try replace x0 := Kit.keep_cell x0 hb
  try replace x1 := Kit.keep_cell x1 hb
  try replace lx := Kit.keep_lt lx hb
  try replace y0 := Kit.keep_cell y0 hb
  try replace y1 := Kit.keep_cell y1 hb
  try replace ly := Kit.keep_lt ly hb
  replace Hb := Lib.hid (Below.trans (Hid.out Hb) (Below.mono hb (Below.size (Hid.out Hb))))
  clear hb
  go_wp2_with fail
  refine (put_closed a _ _ _ _ x k _ _ rfl rfl rfl Hx.out Hk.out (by have := Hal.out; omega) (by rw [HZ.out, bv])).mono ?_
  rintro e w11 ⟨rfl, hb⟩
  have p0 := Kit.cell_at hb 0 (.string (pack N)) rfl
  have p1 := Kit.cell_at hb 1 (.int .i64 (N.length : Int)) rfl
  have lp := Kit.size_at hb
  replace hb := Kit.off_alloc hb
  try replace a0 := Kit.keep_cell a0 hb
  try replace a1 := Kit.keep_cell a1 hb
  try replace la := Kit.keep_lt la hb
  try replace b0 := Kit.keep_cell b0 hb
  try replace b1 := Kit.keep_cell b1 hb
  try replace lb := Kit.keep_lt lb hb
  try replace c0 := Kit.keep_cell c0 hb
  try replace c1 := Kit.keep_cell c1 hb
  try replace lc := Kit.keep_lt lc hb
  try replace t0 := Kit.keep_cell t0 hb
  try replace t1 := Kit.keep_cell t1 hb
  try replace lt := Kit.keep_lt lt hb
  try replace u0 := Kit.keep_cell u0 hb
  try replace u1 := Kit.keep_cell u1 hb
  try replace lu := Kit.keep_lt lu hb
  try replace q0 := Kit.keep_cell q0 hb
  try replace q1 := Kit.keep_cell q1 hb
  try replace lq := Kit.keep_lt lq hb
  try replace x0 := Kit.keep_cell x0 hb
  try replace x1 := Kit.keep_cell x1 hb
  try replace lx := Kit.keep_lt lx hb
  try replace y0 := Kit.keep_cell y0 hb
  try replace y1 := Kit.keep_cell y1 hb
  try replace ly := Kit.keep_lt ly hb
  try replace p0 := Kit.keep_cell p0 hb
  try replace p1 := Kit.keep_cell p1 hb
  try replace lp := Kit.keep_lt lp hb
  replace Hb := Lib.hid (Below.trans (Hid.out Hb) (Below.mono hb (Below.size (Hid.out Hb))))
  clear hb
  go_wp2_with fail
  refine (cat2 a N Z _ _ _ (by simp) (by have := Hal.out; have := HNl.out; have := Hk.out; omega) (by rw [← HN.out, HZ.out])).mono ?_
  rintro e w12 ⟨rfl, hb⟩
  have z0 := Kit.cell_at hb 0 (.string (pack Z)) rfl
  have z1 := Kit.cell_at hb 1 (.int .i64 (Z.length : Int)) rfl
  have lz := Kit.size_at hb
  replace hb := Kit.off_alloc hb
  try replace a0 := Kit.keep_cell a0 hb
  try replace a1 := Kit.keep_cell a1 hb
  try replace la := Kit.keep_lt la hb
  try replace b0 := Kit.keep_cell b0 hb
  try replace b1 := Kit.keep_cell b1 hb
  try replace lb := Kit.keep_lt lb hb
  try replace c0 := Kit.keep_cell c0 hb
  try replace c1 := Kit.keep_cell c1 hb
  try replace lc := Kit.keep_lt lc hb
  try replace t0 := Kit.keep_cell t0 hb
  try replace t1 := Kit.keep_cell t1 hb
  try replace lt := Kit.keep_lt lt hb
  try replace u0 := Kit.keep_cell u0 hb
  try replace u1 := Kit.keep_cell u1 hb
  try replace lu := Kit.keep_lt lu hb
  try replace q0 := Kit.keep_cell q0 hb
  try replace q1 := Kit.keep_cell q1 hb
  try replace lq := Kit.keep_lt lq hb
  try replace x0 := Kit.keep_cell x0 hb
  try replace x1 := Kit.keep_cell x1 hb
  try replace lx := Kit.keep_lt lx hb
  try replace y0 := Kit.keep_cell y0 hb
  try replace y1 := Kit.keep_cell y1 hb
  try replace ly := Kit.keep_lt ly hb
  try replace p0 := Kit.keep_cell p0 hb
  try replace p1 := Kit.keep_cell p1 hb
  try replace lp := Kit.keep_lt lp hb
  try replace z0 := Kit.keep_cell z0 hb
  try replace z1 := Kit.keep_cell z1 hb
  try replace lz := Kit.keep_lt lz hb
  replace Hb := Lib.hid (Below.trans (Hid.out Hb) (Below.mono hb (Below.size (Hid.out Hb))))
  clear hb
  have hNN : ((T.length : Int) == (a.length : Int) + (b.length : Int) + (c.length : Int)) = true := by rw [beq_iff_eq, HTl.out]; omega
  have ha80 : (a.length : Int) ≤ 80 := by have := Hal.out; omega
  have hb80 : (b.length : Int) ≤ 80 := by have := Hbl.out; omega
  have hc80 : (c.length : Int) ≤ 80 := by have := Hcl.out; omega
  go_wp2_with fail
  have hszT : (pack T).size * 8 ≤ 9223372036854775807 := by rw [pack_size]; have := HTl.out; have := Hal.out; have := Hbl.out; have := Hcl.out; omega
  have HszT := Lib.hid hszT
  clear hszT
  have hsm1 : same (pack T).data.toList (a.length : Int) b = true := by
    have h := bitsAt_enc a b c
    rw [← HT.out, ← List.append_assoc]
    unfold same
    rw [pack_list, Int.toNat_natCast, h, enc_len, List.length_append, List.length_append]
    simp; omega
  have hsm2 : same (pack T).data.toList ((a.length : Int) + (b.length : Int)) c = true := by
    have h := bitsAt_enc (a ++ b) c []
    rw [List.append_nil, List.length_append] at h
    rw [← HT.out, ← List.append_assoc]
    unfold same
    rw [pack_list, show ((a.length : Int) + (b.length : Int)).toNat = a.length + b.length by omega, h, enc_len, List.length_append, List.length_append]
    simp; omega
  have Hs1 := Lib.hid hsm1
  have Hs2 := Lib.hid hsm2
  clear hsm1 hsm2
  refine (same_closed (pack T) (pack b) _ _ b true _ rfl HszT.out (by omega) (by omega) Hs1.out).mono ?_
  rintro e w13 ⟨rfl, hb⟩
  replace hb := Kit.off_alloc hb
  try replace a0 := Kit.keep_cell a0 hb
  try replace a1 := Kit.keep_cell a1 hb
  try replace la := Kit.keep_lt la hb
  try replace b0 := Kit.keep_cell b0 hb
  try replace b1 := Kit.keep_cell b1 hb
  try replace lb := Kit.keep_lt lb hb
  try replace c0 := Kit.keep_cell c0 hb
  try replace c1 := Kit.keep_cell c1 hb
  try replace lc := Kit.keep_lt lc hb
  try replace t0 := Kit.keep_cell t0 hb
  try replace t1 := Kit.keep_cell t1 hb
  try replace lt := Kit.keep_lt lt hb
  try replace u0 := Kit.keep_cell u0 hb
  try replace u1 := Kit.keep_cell u1 hb
  try replace lu := Kit.keep_lt lu hb
  try replace q0 := Kit.keep_cell q0 hb
  try replace q1 := Kit.keep_cell q1 hb
  try replace lq := Kit.keep_lt lq hb
  try replace x0 := Kit.keep_cell x0 hb
  try replace x1 := Kit.keep_cell x1 hb
  try replace lx := Kit.keep_lt lx hb
  try replace y0 := Kit.keep_cell y0 hb
  try replace y1 := Kit.keep_cell y1 hb
  try replace ly := Kit.keep_lt ly hb
  try replace p0 := Kit.keep_cell p0 hb
  try replace p1 := Kit.keep_cell p1 hb
  try replace lp := Kit.keep_lt lp hb
  try replace z0 := Kit.keep_cell z0 hb
  try replace z1 := Kit.keep_cell z1 hb
  try replace lz := Kit.keep_lt lz hb
  replace Hb := Lib.hid (Below.trans (Hid.out Hb) (Below.mono hb (Below.size (Hid.out Hb))))
  clear hb
  go_wp2_with fail
  refine (same_closed (pack T) (pack c) _ _ c true _ rfl HszT.out (by omega) (by omega) Hs2.out).mono ?_
  rintro e w14 ⟨rfl, hb⟩
  try replace a0 := Kit.keep_cell a0 hb
  try replace a1 := Kit.keep_cell a1 hb
  try replace la := Kit.keep_lt la hb
  try replace b0 := Kit.keep_cell b0 hb
  try replace b1 := Kit.keep_cell b1 hb
  try replace lb := Kit.keep_lt lb hb
  try replace c0 := Kit.keep_cell c0 hb
  try replace c1 := Kit.keep_cell c1 hb
  try replace lc := Kit.keep_lt lc hb
  try replace t0 := Kit.keep_cell t0 hb
  try replace t1 := Kit.keep_cell t1 hb
  try replace lt := Kit.keep_lt lt hb
  try replace u0 := Kit.keep_cell u0 hb
  try replace u1 := Kit.keep_cell u1 hb
  try replace lu := Kit.keep_lt lu hb
  try replace q0 := Kit.keep_cell q0 hb
  try replace q1 := Kit.keep_cell q1 hb
  try replace lq := Kit.keep_lt lq hb
  try replace x0 := Kit.keep_cell x0 hb
  try replace x1 := Kit.keep_cell x1 hb
  try replace lx := Kit.keep_lt lx hb
  try replace y0 := Kit.keep_cell y0 hb
  try replace y1 := Kit.keep_cell y1 hb
  try replace ly := Kit.keep_lt ly hb
  try replace p0 := Kit.keep_cell p0 hb
  try replace p1 := Kit.keep_cell p1 hb
  try replace lp := Kit.keep_lt lp hb
  try replace z0 := Kit.keep_cell z0 hb
  try replace z1 := Kit.keep_cell z1 hb
  try replace lz := Kit.keep_lt lz hb
  replace Hb := Lib.hid (Below.trans (Hid.out Hb) (Below.mono hb (Below.size (Hid.out Hb))))
  clear hb
  go_wp2
  go_ret
  exact ⟨rfl, Hb.out⟩
theorem whole {W : World} (v1 : Value) (n1 : Nat) (z1 : List Int) (s1 : Kit.Sl W 1 v1 n1 (z1.map (Value.int .i64))) (_l1 : z1.length = n1) (hz1 : ∀ x ∈ z1, (Lit.int .i64 x).wf = true)
    (v2 : Value) (n2 : Nat) (z2 : List Int) (s2 : Kit.Sl W 1 v2 n2 (z2.map (Value.int .i64))) (_l2 : z2.length = n2) (hz2 : ∀ x ∈ z2, (Lit.int .i64 x).wf = true)
    (v3 : Value) (n3 : Nat) (z3 : List Int) (s3 : Kit.Sl W 1 v3 n3 (z3.map (Value.int .i64))) (_l3 : z3.length = n3) (hz3 : ∀ x ∈ z3, (Lit.int .i64 x).wf = true)
    (x : Int) (wx : (Lit.int .u64 x).wf = true) (c : Int) (wc : (Lit.int .i64 c).wf = true) :
    Calls Try.prog 4 #[v1, v2, v3, .int .u64 x, .int .i64 c] W fun e w' => e = .returned (.bool true) ∧ Below W.heap.size W w' := by
  obtain ⟨X, rfl, hX⟩ := BitsBack.vn x wx
  exact walk v1 n1 z1 s1 (fun y hy => BitsBack.in64 y (hz1 y hy)) v2 n2 z2 s2 (fun y hy => BitsBack.in64 y (hz2 y hy)) v3 n3 z3 s3 (fun y hy => BitsBack.in64 y (hz3 y hy)) X hX c (BitsBack.in64 c wc).1 (BitsBack.in64 c wc).2
end BitsCat
end Go.Proofs.Ytnpmkbjellgecaa
