/-
  WALKS of stage 7: a bit of a number; how many ones.
-/
import Derived.Test.YtlcephckjhiggaaRows
import Derived.Test.YtlcephckjhiggaaAbt
import Derived.Test.YtlcephckjhiggaaBb
import Derived.Test.YtlcephckjhiggaaGa
import Derived.Test.YtlcephckjhiggaaGb
import Derived.Test.YtlcephckjhiggaaGc
namespace Go.Proofs.Ytlcephckjhiggaa
open Go.RowKit
namespace Gd
open Ab Bm Bt Bb Ga Gb Gc

theorem bv_n (x : Nat) (hx : x < 18446744073709551616) : (BitVec.ofInt 64 (x : Int)).toNat = x := by
  rw [BitVec.ofInt_natCast, BitVec.toNat_ofNat, Nat.mod_eq_of_lt (by omega)]
theorem wrap_n (x : Nat) (hx : x < 18446744073709551616) : IntKind.u64.wrap (x : Int) = (x : Int) := by rw [IntKind.wrap_u64]; omega
theorem and_n {P : Program} {t : TypeId} (x y : Nat) (hx : x < 18446744073709551616) (hy : y < 18446744073709551616) (w : World) : (binOp .and t (.int .u64 (x : Int)) (.int .u64 (y : Int))).run P w = .ok (.int .u64 ((x &&& y : Nat) : Int)) w := by
  have hlt : x &&& y ≤ x := Nat.and_le_left
  show (pure (Value.int .u64 (IntKind.u64.wrap (((BitVec.ofInt 64 (x : Int) &&& BitVec.ofInt 64 (y : Int)).toNat : Nat) : Int))) : Sem Value).run P w = _
  rw [BitVec.toNat_and, bv_n x hx, bv_n y hy, wrap_n _ (by omega)]; rfl
theorem fdiv_n (x m : Nat) : (x : Int).fdiv (2 ^ m) = ((x / 2 ^ m : Nat) : Int) := by
  have h1 : ((2 : Int) ^ m) = ((2 ^ m : Nat) : Int) := by simp
  rw [h1, Int.fdiv_eq_ediv_of_nonneg _ (Int.natCast_nonneg _), ← Int.natCast_ediv]
theorem bit_of (x : Nat) (a : Int) (hx : x < 65536) (h0 : 0 ≤ a) (h : a ≤ 15) : decide (IntKind.u64.wrap (((BitVec.ofInt IntKind.u64.bits ((x : Int).fdiv (2 ^ min (15 - a).toNat IntKind.u64.bits)) &&& BitVec.ofInt IntKind.u64.bits 1).toNat : Nat) : Int) = 1) = x.testBit (15 - a.toNat) := by
  have hd : x / 2 ^ (15 - a.toNat) ≤ x := Nat.div_le_self _ _
  rw [show IntKind.u64.bits = 64 from rfl, show min (15 - a).toNat 64 = 15 - a.toNat by omega, fdiv_n, BitVec.toNat_and, bv_n _ (by omega), show (BitVec.ofInt 64 1).toNat = 1 from rfl, Nat.and_one_is_mod, wrap_n _ (by omega), Nat.testBit_eq_decide_div_mod_eq]
  generalize x / 2 ^ (15 - a.toNat) = q at *
  by_cases e : q % 2 = 1
  · rw [decide_eq_true e, decide_eq_true (by omega)]
  · rw [decide_eq_false e, decide_eq_false (by omega)]
/-- two numbers' bits, cut at a place -/
theorem land_split (i X Y a b : Nat) (ha : a < 2 ^ i) (hb : b < 2 ^ i) : (2 ^ i * X + a) &&& (2 ^ i * Y + b) = 2 ^ i * (X &&& Y) + (a &&& b) := by
  have hab : a &&& b < 2 ^ i := Nat.lt_of_le_of_lt Nat.and_le_left ha
  apply Nat.eq_of_testBit_eq
  intro j
  rw [Nat.testBit_and, Nat.testBit_two_pow_mul_add _ ha, Nat.testBit_two_pow_mul_add _ hb, Nat.testBit_two_pow_mul_add _ hab]
  split <;> rw [Nat.testBit_and]
def a8 (x : Nat) : Nat := (x / 2 &&& 85) + (x &&& 85)
def b8 (x : Nat) : Nat := (a8 x / 4 &&& 51) + (a8 x &&& 51)
def p8 (x : Nat) : Nat := (b8 x / 16 + b8 x) &&& 15
def o8 (x : Nat) : Nat := x % 2 + x / 2 % 2 + x / 4 % 2 + x / 8 % 2 + x / 16 % 2 + x / 32 % 2 + x / 64 % 2 + x / 128 % 2
theorem p8_o : (List.range 256).all (fun x => Nat.beq (p8 x) (o8 x) && Nat.ble (a8 x) 170 && Nat.ble (b8 x) 68 && Nat.ble (b8 x % 16) 4 && Nat.ble (o8 x) 8) = true := by kernel_rfl
theorem p8_at (x : Nat) (h : x < 256) : p8 x = o8 x ∧ a8 x ≤ 170 ∧ b8 x ≤ 68 ∧ b8 x % 16 ≤ 4 ∧ o8 x ≤ 8 := by
  have := List.all_eq_true.1 p8_o x (List.mem_range.2 h)
  simp only [Bool.and_eq_true] at this
  exact ⟨Nat.eq_of_beq_eq_true this.1.1.1.1, Nat.le_of_ble_eq_true this.1.1.1.2, Nat.le_of_ble_eq_true this.1.1.2, Nat.le_of_ble_eq_true this.1.2, Nat.le_of_ble_eq_true this.2⟩
theorem land_low (i N a b : Nat) (ha : a < 2 ^ i) (hb : b < 2 ^ i) : a &&& (2 ^ i * N + b) = a &&& b := by
  have := land_split i 0 N a b ha hb
  rw [Nat.mul_zero, Nat.zero_add, Nat.zero_and, Nat.mul_zero, Nat.zero_add] at this
  exact this
theorem land_high (i u v b : Nat) (hv : v < 2 ^ i) (hb : b < 2 ^ i) : (2 ^ i * u + v) &&& b = v &&& b := by
  rw [Nat.and_comm, land_low i u b v hb hv, Nat.and_comm]
def pa (x : Nat) : Nat := (x / 2 &&& 6148914691236517205) + (x &&& 6148914691236517205)
def pb (x : Nat) : Nat := (x / 4 &&& 3689348814741910323) + (x &&& 3689348814741910323)
def pd (x : Nat) : Nat := (x / 16 + x) &&& 1085102592571150095
theorem pa_at (A B : Nat) (hA : A < 256) (hB : B < 256) : pa (256 * A + B) = 256 * a8 A + a8 B := by
  unfold pa a8
  have h1 : (256 * A + B) / 2 = 2 ^ 8 * (A / 2) + (2 ^ 7 * (A % 2) + B / 2) := by omega
  have hM : 6148914691236517205 = 2 ^ 8 * 24019198012642645 + 85 := by decide
  have hN : 24019198012642645 = 2 ^ 8 * 93824992236885 + 85 := by decide
  rw [h1, hM, land_split 8 _ _ _ _ (by omega) (by decide), show 256 * A + B = 2 ^ 8 * A + B by omega, land_split 8 A _ B _ (by omega) (by decide), land_high 7 _ _ 85 (by omega) (by decide), hN, land_low 8 _ _ _ (by omega) (by decide), land_low 8 _ _ _ (by omega) (by decide)]
  omega
theorem pb_at (A B : Nat) (hA : A < 256) (hB : B < 256) : pb (256 * A + B) = 256 * ((A / 4 &&& 51) + (A &&& 51)) + ((B / 4 &&& 51) + (B &&& 51)) := by
  unfold pb
  have h1 : (256 * A + B) / 4 = 2 ^ 8 * (A / 4) + (2 ^ 6 * (A % 4) + B / 4) := by omega
  have hM : 3689348814741910323 = 2 ^ 8 * 14411518807585587 + 51 := by decide
  have hN : 14411518807585587 = 2 ^ 8 * 56294995342131 + 51 := by decide
  rw [h1, hM, land_split 8 _ _ _ _ (by omega) (by decide), show 256 * A + B = 2 ^ 8 * A + B by omega, land_split 8 A _ B _ (by omega) (by decide), land_high 6 _ _ 51 (by omega) (by decide), hN, land_low 8 _ _ _ (by omega) (by decide), land_low 8 _ _ _ (by omega) (by decide)]
  omega
theorem pd_at (A B : Nat) (hA : A ≤ 68) (hB : B ≤ 68) (hA2 : A % 16 ≤ 4) : pd (256 * A + B) = 256 * ((A / 16 + A) &&& 15) + ((B / 16 + B) &&& 15) := by
  unfold pd
  have h1 : (256 * A + B) / 16 + (256 * A + B) = 2 ^ 8 * (A / 16 + A) + (16 * (A % 16) + (B / 16 + B)) := by omega
  have hM : 1085102592571150095 = 2 ^ 8 * 4238682002231055 + 15 := by decide
  have hN : 4238682002231055 = 2 ^ 8 * 16557351571215 + 15 := by decide
  have hm : ∀ n, n &&& 15 = n % 16 := fun n => Nat.and_two_pow_sub_one_eq_mod n 4
  rw [h1, hM, land_split 8 _ _ _ _ (by omega) (by decide), hN, land_low 8 _ _ _ (by omega) (by decide), hm, hm, hm]
  omega
def onesV (x : Nat) : Nat := o8 (x / 256) + o8 (x % 256)
theorem pc_at (x : Nat) (h : x < 65536) : (let c := pd (pb (pa x)); let d := c + c / 256; let e := d + d / 65536; let f := e + e / 4294967296; f &&& 127) = onesV x := by
  obtain ⟨A, B, hA, hB, rfl⟩ : ∃ A B, A < 256 ∧ B < 256 ∧ x = 256 * A + B := ⟨x / 256, x % 256, by omega, by omega, by omega⟩
  obtain ⟨q1, q2, q3, q4, q5⟩ := p8_at A hA
  obtain ⟨r1, r2, r3, _, r5⟩ := p8_at B hB
  have e1 : pd (pb (pa (256 * A + B))) = 256 * p8 A + p8 B := by
    rw [pa_at A B hA hB, pb_at _ _ (by omega) (by omega)]
    exact pd_at (b8 A) (b8 B) q3 r3 q4
  have hm : ∀ n, n &&& 127 = n % 128 := fun n => Nat.and_two_pow_sub_one_eq_mod n 7
  simp only [e1, q1, r1, hm, onesV]
  rw [show (256 * A + B) / 256 = A by omega, show (256 * A + B) % 256 = B by omega]
  generalize o8 A = a at *
  generalize o8 B = b at *
  rw [show (256 * a + b) / 256 = a by omega, show (256 * a + b + a) / 65536 = 0 by omega, Nat.add_zero, show (256 * a + b + a) / 4294967296 = 0 by omega, Nat.add_zero]
  omega
theorem pc_bd (x : Nat) (h : x < 65536) : pa x < 65536 ∧ pb (pa x) < 65536 ∧ pd (pb (pa x)) ≤ 2056 := by
  obtain ⟨A, B, hA, hB, rfl⟩ : ∃ A B, A < 256 ∧ B < 256 ∧ x = 256 * A + B := ⟨x / 256, x % 256, by omega, by omega, by omega⟩
  obtain ⟨q1, q2, q3, q4, q5⟩ := p8_at A hA
  obtain ⟨r1, r2, r3, _, r5⟩ := p8_at B hB
  have e2 : pb (pa (256 * A + B)) = 256 * b8 A + b8 B := by
    rw [pa_at A B hA hB, pb_at _ _ (by omega) (by omega)]; rfl
  have e1 : pd (pb (pa (256 * A + B))) = 256 * p8 A + p8 B := by
    rw [e2]; exact pd_at (b8 A) (b8 B) q3 r3 q4
  rw [e1, e2, pa_at A B hA hB]; omega
theorem w64 (n : Nat) (h : n < 65536) : IntKind.i64.wrap (n : Int) = (n : Int) := room64 (by omega) (by omega)
theorem fin_n (n : Nat) (h : n < 65536) : IntKind.i64.wrap (((BitVec.ofInt IntKind.i64.bits (IntKind.i64.wrap (n : Int)) &&& BitVec.ofInt IntKind.i64.bits 127).toNat : Nat) : Int) = ((n &&& 127 : Nat) : Int) := by
  have hlt : n &&& 127 ≤ n := Nat.and_le_left
  rw [w64 n h, show IntKind.i64.bits = 64 from rfl, BitVec.toNat_and, bv_n n (by omega), show (BitVec.ofInt 64 127).toNat = 127 from rfl, w64 _ (by omega)]
theorem an (x C : Nat) (hx : x < 18446744073709551616) (hC : C < 18446744073709551616) : IntKind.u64.wrap (((BitVec.ofInt IntKind.u64.bits (x : Int) &&& BitVec.ofInt IntKind.u64.bits (C : Int)).toNat : Nat) : Int) = ((x &&& C : Nat) : Int) := by
  have hlt : x &&& C ≤ x := Nat.and_le_left
  rw [show IntKind.u64.bits = 64 from rfl, BitVec.toNat_and, bv_n x hx, bv_n C hC, wrap_n _ (by omega)]
theorem st1 (x : Nat) (hx : x < 65536) : IntKind.u64.wrap (IntKind.u64.wrap (((BitVec.ofInt IntKind.u64.bits ((x : Int).fdiv (2 ^ min (Int.toNat 1) IntKind.u64.bits)) &&& BitVec.ofInt IntKind.u64.bits 6148914691236517205).toNat : Nat) : Int) + IntKind.u64.wrap (((BitVec.ofInt IntKind.u64.bits (x : Int) &&& BitVec.ofInt IntKind.u64.bits 6148914691236517205).toNat : Nat) : Int)) = ((pa x : Nat) : Int) := by
  have h1 : (x : Int).fdiv (2 ^ min (Int.toNat 1) IntKind.u64.bits) = ((x / 2 : Nat) : Int) := fdiv_n x 1
  have h2 : x / 2 &&& 6148914691236517205 ≤ x / 2 := Nat.and_le_left
  have h3 : x &&& 6148914691236517205 ≤ x := Nat.and_le_left
  have a1 := an (x / 2) 6148914691236517205 (by omega) (by decide)
  have a2 := an x 6148914691236517205 (by omega) (by decide)
  rw [h1]
  have a1' : IntKind.u64.wrap (((BitVec.ofInt IntKind.u64.bits ((x / 2 : Nat) : Int) &&& BitVec.ofInt IntKind.u64.bits 6148914691236517205).toNat : Nat) : Int) = _ := a1
  have a2' : IntKind.u64.wrap (((BitVec.ofInt IntKind.u64.bits (x : Int) &&& BitVec.ofInt IntKind.u64.bits 6148914691236517205).toNat : Nat) : Int) = _ := a2
  rw [a1', a2', ← Int.natCast_add, wrap_n _ (by omega)]; rfl
theorem st2 (x : Nat) (hx : x < 65536) : IntKind.u64.wrap (IntKind.u64.wrap (((BitVec.ofInt IntKind.u64.bits ((x : Int).fdiv (2 ^ min (Int.toNat 2) IntKind.u64.bits)) &&& BitVec.ofInt IntKind.u64.bits 3689348814741910323).toNat : Nat) : Int) + IntKind.u64.wrap (((BitVec.ofInt IntKind.u64.bits (x : Int) &&& BitVec.ofInt IntKind.u64.bits 3689348814741910323).toNat : Nat) : Int)) = ((pb x : Nat) : Int) := by
  have h1 : (x : Int).fdiv (2 ^ min (Int.toNat 2) IntKind.u64.bits) = ((x / 4 : Nat) : Int) := fdiv_n x 2
  have h2 : x / 4 &&& 3689348814741910323 ≤ x / 4 := Nat.and_le_left
  have h3 : x &&& 3689348814741910323 ≤ x := Nat.and_le_left
  have a1' : IntKind.u64.wrap (((BitVec.ofInt IntKind.u64.bits ((x / 4 : Nat) : Int) &&& BitVec.ofInt IntKind.u64.bits 3689348814741910323).toNat : Nat) : Int) = _ := an (x / 4) 3689348814741910323 (by omega) (by decide)
  have a2' : IntKind.u64.wrap (((BitVec.ofInt IntKind.u64.bits (x : Int) &&& BitVec.ofInt IntKind.u64.bits 3689348814741910323).toNat : Nat) : Int) = _ := an x 3689348814741910323 (by omega) (by decide)
  rw [h1, a1', a2', ← Int.natCast_add, wrap_n _ (by omega)]; rfl
theorem st3 (x : Nat) (hx : x < 65536) : IntKind.u64.wrap (((BitVec.ofInt IntKind.u64.bits (IntKind.u64.wrap ((x : Int).fdiv (2 ^ min (Int.toNat 4) IntKind.u64.bits) + (x : Int))) &&& BitVec.ofInt IntKind.u64.bits 1085102592571150095).toNat : Nat) : Int) = ((pd x : Nat) : Int) := by
  have h1 : (x : Int).fdiv (2 ^ min (Int.toNat 4) IntKind.u64.bits) = ((x / 16 : Nat) : Int) := fdiv_n x 4
  rw [h1, ← Int.natCast_add, wrap_n (x / 16 + x) (by omega)]
  exact an (x / 16 + x) 1085102592571150095 (by omega) (by decide)
theorem st4 (x : Nat) (hx : x < 65536) (i : Int) (m : Nat) (hm : min i.toNat IntKind.u64.bits = m) : IntKind.u64.wrap ((x : Int) + (x : Int).fdiv (2 ^ min i.toNat IntKind.u64.bits)) = ((x + x / 2 ^ m : Nat) : Int) := by
  have : x / 2 ^ m ≤ x := Nat.div_le_self _ _
  rw [hm, fdiv_n, ← Int.natCast_add, wrap_n _ (by omega)]

set_option maxRecDepth 100000 in
set_option maxHeartbeats 1000000 in
theorem stands_s (x : Nat) (a : Int) (hx : x < 65536) (h0 : 0 ≤ a) (h : a ≤ 15) :
    FPure Try.prog 28 [Is (.int .u64 (x : Int)), Is (.int .i64 a)] (Is (.bool (x.testBit (15 - a.toNat)))) := by
  refine FPure.of Try.func28 Try.ntmps28 rfl (by kernel_rfl) rfl rfl rfl ?_
  refine W_seq ?_
  refine W_regionE (c := 1) (c' := 2) (by kernel_rfl) rfl ?_
  refine Runs_p rfl (Valid.assignk (A := Is _) rfl rfl) rfl rfl ?_ -- used.go:94 assign
  refine Runs_nil ?_
  refine thenQ_n ?_
  refine W_seq ?_
  refine W_regionE (c := 2) (c' := 9) (by kernel_rfl) rfl ?_
  refine Runs_p rfl (Valid.movek (A := Is _) rfl rfl) rfl rfl ?_ -- used.go:94 move
  refine Runs_p rfl (Valid.movek (A := Is _) rfl rfl) rfl rfl ?_ -- used.go:94 move
  refine Runs_p rfl (Valid.sub rfl rfl rfl (room64 (by first | omega | (simp only [Int.toNat_natCast, toNat_add, toNat_add1, List.length_append, List.length_cons, List.length_nil, List.length_replicate]; omega)) (by first | omega | (simp only [Int.toNat_natCast, toNat_add, toNat_add1, List.length_append, List.length_cons, List.length_nil, List.length_replicate]; omega)))) rfl rfl ?_ -- used.go:94 binOp
  refine Runs_p rfl (Valid.shrw rfl rfl rfl (by first | omega | (simp only [Int.toNat_natCast, toNat_add, toNat_add1, List.length_append, List.length_cons, List.length_nil, List.length_replicate]; omega))) rfl rfl ?_ -- used.go:94 binOp
  refine Runs_p rfl (Valid.bits rfl rfl rfl (fun w => rfl)) rfl rfl ?_ -- used.go:94 binOp
  refine Runs_p rfl (Valid.eql rfl rfl rfl) rfl rfl ?_ -- used.go:94 binOp
  refine Runs_p rfl (Valid.assignk (A := Is _) rfl rfl) rfl rfl ?_ -- used.go:94 assign
  refine Runs_nil ?_
  refine thenQ_n ?_
  refine W_ret ?_
  refine finQ_r ?_
  refine ResOk.one rfl (RVal.is rfl rfl (by rw [bit_of x a hx h0 h]))

set_option maxRecDepth 100000 in
set_option maxHeartbeats 1000000 in
theorem ones_s (x : Nat) (hx : x < 65536) :
    FPure Try.prog 27 [Is (.int .u64 (x : Int))] (Is (.int .i64 (onesV x : Nat))) := by
  have hbd := pc_bd x hx
  have hpc := pc_at x hx
  refine FPure.of Try.func27 Try.ntmps27 rfl (by kernel_rfl) rfl rfl rfl ?_
  refine W_seq ?_
  refine W_regionE (c := 1) (c' := 2) (by kernel_rfl) rfl ?_
  refine Runs_p rfl (Valid.assignk (A := Is _) rfl rfl) rfl rfl ?_ -- bits.go:140 assign
  refine Runs_nil ?_
  refine thenQ_n ?_
  refine W_seq ?_
  refine W_regionE (c := 2) (c' := 9) (by kernel_rfl) rfl ?_
  refine Runs_p rfl (Valid.movek (A := Is _) rfl rfl) rfl rfl ?_ -- bits.go:161 move
  refine Runs_p rfl (Valid.shrw rfl rfl rfl (by first | omega | (simp only [Int.toNat_natCast, toNat_add, toNat_add1, List.length_append, List.length_cons, List.length_nil, List.length_replicate]; omega))) rfl rfl ?_ -- bits.go:161 binOp
  refine Runs_p rfl (Valid.bits rfl rfl rfl (fun w => rfl)) rfl rfl ?_ -- bits.go:161 binOp
  refine Runs_p rfl (Valid.movek (A := Is _) rfl rfl) rfl rfl ?_ -- bits.go:161 move
  refine Runs_p rfl (Valid.bits rfl rfl rfl (fun w => rfl)) rfl rfl ?_ -- bits.go:161 binOp
  refine Runs_p rfl (Valid.addw rfl rfl rfl) rfl rfl ?_ -- bits.go:161 binOp
  refine Runs_p rfl (Valid.assignk (A := Is _) rfl rfl) rfl rfl ?_ -- bits.go:161 assign
  refine Runs_nil ?_
  refine thenQ_n ?_
  refine W_seq ?_
  refine W_regionE (c := 9) (c' := 16) (by kernel_rfl) rfl ?_
  refine Runs_p rfl (Valid.movek (A := Is _) rfl rfl) rfl rfl ?_ -- bits.go:162 move
  refine Runs_p rfl (Valid.shrw rfl rfl rfl (by first | omega | (simp only [Int.toNat_natCast, toNat_add, toNat_add1, List.length_append, List.length_cons, List.length_nil, List.length_replicate]; omega))) rfl rfl ?_ -- bits.go:162 binOp
  refine Runs_p rfl (Valid.bits rfl rfl rfl (fun w => rfl)) rfl rfl ?_ -- bits.go:162 binOp
  refine Runs_p rfl (Valid.movek (A := Is _) rfl rfl) rfl rfl ?_ -- bits.go:162 move
  refine Runs_p rfl (Valid.bits rfl rfl rfl (fun w => rfl)) rfl rfl ?_ -- bits.go:162 binOp
  refine Runs_p rfl (Valid.addw rfl rfl rfl) rfl rfl ?_ -- bits.go:162 binOp
  refine Runs_p rfl (Valid.assignk (A := Is _) rfl rfl) rfl rfl ?_ -- bits.go:162 assign
  refine Runs_nil ?_
  refine thenQ_n ?_
  refine W_seq ?_
  refine W_regionE (c := 16) (c' := 22) (by kernel_rfl) rfl ?_
  refine Runs_p rfl (Valid.movek (A := Is _) rfl rfl) rfl rfl ?_ -- bits.go:163 move
  refine Runs_p rfl (Valid.shrw rfl rfl rfl (by first | omega | (simp only [Int.toNat_natCast, toNat_add, toNat_add1, List.length_append, List.length_cons, List.length_nil, List.length_replicate]; omega))) rfl rfl ?_ -- bits.go:163 binOp
  refine Runs_p rfl (Valid.movek (A := Is _) rfl rfl) rfl rfl ?_ -- bits.go:163 move
  refine Runs_p rfl (Valid.addw rfl rfl rfl) rfl rfl ?_ -- bits.go:163 binOp
  refine Runs_p rfl (Valid.bits rfl rfl rfl (fun w => rfl)) rfl rfl ?_ -- bits.go:163 binOp
  refine Runs_p rfl (Valid.assignk (A := Is _) rfl rfl) rfl rfl ?_ -- bits.go:163 assign
  refine Runs_nil ?_
  refine thenQ_n ?_
  refine W_seq ?_
  refine W_regionE (c := 22) (c' := 27) (by kernel_rfl) rfl ?_
  refine Runs_p rfl (Valid.movek (A := Is _) rfl rfl) rfl rfl ?_ -- bits.go:164 move
  refine Runs_p rfl (Valid.movek (A := Is _) rfl rfl) rfl rfl ?_ -- bits.go:164 move
  refine Runs_p rfl (Valid.shrw rfl rfl rfl (by first | omega | (simp only [Int.toNat_natCast, toNat_add, toNat_add1, List.length_append, List.length_cons, List.length_nil, List.length_replicate]; omega))) rfl rfl ?_ -- bits.go:164 binOp
  refine Runs_p rfl (Valid.addw rfl rfl rfl) rfl rfl ?_ -- bits.go:164 binOp
  refine Runs_p rfl (Valid.assignk (A := Is _) rfl rfl) rfl rfl ?_ -- bits.go:164 assign
  refine Runs_nil ?_
  refine thenQ_n ?_
  refine W_seq ?_
  refine W_regionE (c := 27) (c' := 32) (by kernel_rfl) rfl ?_
  refine Runs_p rfl (Valid.movek (A := Is _) rfl rfl) rfl rfl ?_ -- bits.go:165 move
  refine Runs_p rfl (Valid.movek (A := Is _) rfl rfl) rfl rfl ?_ -- bits.go:165 move
  refine Runs_p rfl (Valid.shrw rfl rfl rfl (by first | omega | (simp only [Int.toNat_natCast, toNat_add, toNat_add1, List.length_append, List.length_cons, List.length_nil, List.length_replicate]; omega))) rfl rfl ?_ -- bits.go:165 binOp
  refine Runs_p rfl (Valid.addw rfl rfl rfl) rfl rfl ?_ -- bits.go:165 binOp
  refine Runs_p rfl (Valid.assignk (A := Is _) rfl rfl) rfl rfl ?_ -- bits.go:165 assign
  refine Runs_nil ?_
  refine thenQ_n ?_
  refine W_seq ?_
  refine W_regionE (c := 32) (c' := 37) (by kernel_rfl) rfl ?_
  refine Runs_p rfl (Valid.movek (A := Is _) rfl rfl) rfl rfl ?_ -- bits.go:166 move
  refine Runs_p rfl (Valid.movek (A := Is _) rfl rfl) rfl rfl ?_ -- bits.go:166 move
  refine Runs_p rfl (Valid.shrw rfl rfl rfl (by first | omega | (simp only [Int.toNat_natCast, toNat_add, toNat_add1, List.length_append, List.length_cons, List.length_nil, List.length_replicate]; omega))) rfl rfl ?_ -- bits.go:166 binOp
  refine Runs_p rfl (Valid.addw rfl rfl rfl) rfl rfl ?_ -- bits.go:166 binOp
  refine Runs_p rfl (Valid.assignk (A := Is _) rfl rfl) rfl rfl ?_ -- bits.go:166 assign
  refine Runs_nil ?_
  refine thenQ_n ?_
  refine W_seq ?_
  refine W_regionE (c := 37) (c' := 41) (by kernel_rfl) rfl ?_
  refine Runs_p rfl (Valid.movek (A := Is _) rfl rfl) rfl rfl ?_ -- bits.go:167 move
  refine Runs_p rfl (Valid.conv rfl rfl Try.underlying47 Try.underlying3) rfl rfl ?_ -- bits.go:167 convert
  refine Runs_p rfl (Valid.bits rfl rfl rfl (fun w => rfl)) rfl rfl ?_ -- bits.go:167 binOp
  refine Runs_p rfl (Valid.assignk (A := Is _) rfl rfl) rfl rfl ?_ -- bits.go:167 assign
  refine Runs_nil ?_
  refine thenQ_n ?_
  refine W_ret ?_
  refine finQ_r ?_
  refine ResOk.one rfl (RVal.is rfl rfl (by rw [st1 x hx, st2 _ hbd.1, st3 _ hbd.2.1]; dsimp only at hpc; generalize pd (pb (pa x)) = c at *; rw [st4 c (by omega) 8 8 rfl, st4 (c + c / 2 ^ 8) (by omega) 16 16 rfl, st4 (c + c / 2 ^ 8 + (c + c / 2 ^ 8) / 2 ^ 16) (by omega) 32 32 rfl, fin_n _ (by omega)]; exact congrArg (fun n : Nat => Value.int .i64 (n : Int)) hpc))
end Gd
end Go.Proofs.Ytlcephckjhiggaa
